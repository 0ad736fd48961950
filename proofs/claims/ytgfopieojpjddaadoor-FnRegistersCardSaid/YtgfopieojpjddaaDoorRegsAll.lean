/-
  Several texts in one: Bytes, ShdM, Digs, RegsM, RegsP, NewReg, SameI, SliEq, SameReg, PairI, Plus, Minus, Fin, CarS, AddS, SubS, PairS, ArS, ArI, ArJ, CmpI, CplI.
-/
import Derived.Test.YtgfopieojpjddaaDoorFrameI
import Derived.Test.YtgfopieojpjddaaDoorSrc
import Derived.Test.YtgfopieojpjddaaDoorAr
import Derived.Test.YtgfopieojpjddaaDoorDrawR
import Derived.Test.YtgfopieojpjddaaDoorTxtI
import Derived.Test.YtgfopieojpjddaaDoorRgM
import Derived.Test.YtgfopieojpjddaaDoorProg
import Derived.Test.YtgfopieojpjddaaDoorToI
import Derived.Test.YtgfopieojpjddaaDoorApp
import Derived.Test.YtgfopieojpjddaaDoorOrd
import Derived.Test.YtgfopieojpjddaaDoorBase
import Derived.Test.YtgfopieojpjddaaDoorOkI
import Derived.Test.YtgfopieojpjddaaDoorRegC
import Derived.Test.YtgfopieojpjddaaDoorTwoS

/- Bytes -/
namespace Go.Proofs.YtgfopieojpjddaaDoor
open Go.ChangeShapes Go.WideShapes Go.ChangeAt Go.RowKit Go.Joins
open Go.ChangeMaps (open_string shut_string)

/-- Bytes that came in: of whatever length. -/
structure RawU (w : World) (a : Option Addr) (zs : List Int) : Prop where
  len : zs.length ≤ 9223372036854775807
  le : ∀ i, 0 ≤ nth zs i ∧ nth zs i ≤ 255
  cells : zs ≠ [] → ∃ b off, a = some ⟨b, off, none⟩ ∧ ∀ i, i < zs.length → w.cell? ⟨b, off + i, none⟩ = some (.int .u8 (nth zs i))
theorem RawU.rd {w : World} {a : Option Addr} {zs : List Int} (h : RawU w a zs) (hl : zs.length ≤ 1000000000) : RdU w a zs := ⟨hl, h.le, h.cells⟩
theorem RawU.below {w w' : World} {a : Option Addr} {zs : List Int} (h : RawU w a zs) (hb : Below w.heap.size w w') : RawU w' a zs := by
  refine ⟨h.len, h.le, fun hne => ?_⟩
  obtain ⟨b, off, rfl, hc⟩ := h.cells hne
  exact ⟨b, off, rfl, fun i hi => (hb.cell (p := ⟨b, off + i, none⟩) (World.block_lt_of_cell? _ _ (hc i hi))).trans (hc i hi)⟩

theorem cells_uint8 : Tryd.prog.cellsOf 5 = 1 := by kernel_rfl
section
variable {H : Type} {enc : TypeId × Value → H} {W : World} {base : Nat} {v : Value} {d : DataW H} {p : List MemPlace}
set_option maxRecDepth 100000 in
theorem open_Bytes (hval : Value.okWide Tryd.prog W .any base 57 v) (h : DataW.Trod enc Tryd.prog W 0 (fun _ => true) true 57 v d p) :
    ∃ A C Z, v = .slice A (List.length Z) C ∧ RawU W A Z := by
  obtain ⟨a0, len, cap, rfl⟩ := okWide_slice Tryd.underlying57 hval
  obtain ⟨fuel, hf⟩ := h
  have hf : DataW.trod enc Tryd.prog W 0 (fun _ => true) true fuel 57 [.slice a0 len cap] = some (d, p) := by simpa [Value.cells] using hf
  rcases open_ints Tryd.underlying57 Tryd.underlying5 cells_uint8 hf with ⟨hcs, _⟩ | ⟨a, l, c, zs, hcs, _, hl, hm, hz, _, hcell, hwz⟩
  · simp at hcs
    obtain ⟨rfl, rfl, rfl⟩ := hcs
    exact ⟨none, 0, [], rfl, by simp, by intro i; simp [nth], fun h => absurd rfl h⟩
  · simp at hcs
    obtain ⟨rfl, rfl, rfl⟩ := hcs
    simp at hz
    have hlen : (zs.take len).length = len := by rw [List.length_take]; omega
    refine ⟨some a, cap, zs.take len, by rw [hlen], by rw [hlen]; unfold maxLen at hm; omega, fun i => ?_, fun hne => ?_⟩
    · rcases Nat.lt_or_ge i (zs.take len).length with hi | hi
      · rw [nth_get hi]
        have h1 := hwz _ (List.mem_of_mem_take (List.getElem_mem hi))
        have m0 : IntKind.u8.min = 0 := rfl
        have m1 : IntKind.u8.max = 255 := rfl
        simp only [Lit.wf, m0, m1, Bool.and_eq_true, decide_eq_true_eq] at h1
        exact h1
      · simp [nth, List.getElem?_eq_none hi]
    · have hpos : 0 < len := by
        rcases Nat.eq_zero_or_pos len with h | h
        · subst h; simp at hne
        · exact h
      have hc0 := hcell 0 (by omega)
      obtain ⟨b, off, spot⟩ := a
      have hspot : spot = none := by simpa [Addr.add] using World.cell?_spot hc0
      subst hspot
      refine ⟨b, off, rfl, fun i hi => ?_⟩
      rw [hlen] at hi
      have h := hcell i (by omega)
      have e : nth (zs.take len) i = zs.getD i 0 := by
        rw [nth_get (by rw [hlen]; exact hi)]
        simp [List.getElem_take, List.getD_eq_getElem?_getD, List.getElem?_eq_getElem (show i < zs.length by omega)]
      rw [e, ← h]
      by_cases h0 : i = 0
      · subst h0; rfl
      · simp [Addr.add, h0]
end

theorem a2Long_any (a b : Option Addr) (n m c d : Nat) (w : World) :
    Calls Tryd.prog 40 #[.slice a n c, .slice b m d] w fun e w' => e = .returned (.bool (decide (3000 < n ∨ 3000 < m))) ∧ w' = w := by
  by_cases h1 : 3000 < n
  · have h1' : (3000 : Int) < (n : Int) := by omega
    have HV := Lib.hid (show decide (3000 < n ∨ 3000 < m) = true from decide_eq_true (.inl h1))
    go_enter Tryd.func40, Tryd.ntmps40
    go_wp2
    go_ret
    exact ⟨by first | rfl | exact ret_bool HV.out.symm, rfl⟩
  · have h1' : ¬ ((3000 : Int) < (n : Int)) := by omega
    by_cases h2 : 3000 < m
    · have h2' : (3000 : Int) < (m : Int) := by omega
      have HV := Lib.hid (show decide (3000 < n ∨ 3000 < m) = true from decide_eq_true (.inr h2))
      go_enter Tryd.func40, Tryd.ntmps40
      go_wp2
      go_ret
      exact ⟨by first | rfl | exact ret_bool HV.out.symm, rfl⟩
    · have h2' : ¬ ((3000 : Int) < (m : Int)) := by omega
      have HV := Lib.hid (show decide (3000 < n ∨ 3000 < m) = false from decide_eq_false (by omega))
      go_enter Tryd.func40, Tryd.ntmps40
      go_wp2
      go_ret
      exact ⟨by first | rfl | exact ret_bool HV.out.symm, rfl⟩

end Go.Proofs.YtgfopieojpjddaaDoor

/- ShdM -/
namespace Go.Proofs.YtgfopieojpjddaaDoor
open Go.RowKit

theorem valR_12 {b : Int} (h0 : 0 ≤ b) (h1 : b ≤ 12) : ∀ {zs : List Int}, DigsOf b zs → 0 ≤ valR b zs ∧ valR b zs + 1 ≤ (12 ^ zs.length : Nat)
  | [], _ => by simp [valR]
  | d :: ds, h => by
    have hd := h d (by simp)
    have ih := valR_12 h0 h1 (zs := ds) fun x hx => h x (by simp [hx])
    have m1 : 0 ≤ b * valR b ds := Int.mul_nonneg h0 ih.1
    have m2 : b * valR b ds ≤ 12 * valR b ds := Int.mul_le_mul_of_nonneg_right h1 ih.1
    rw [List.length_cons, Nat.pow_succ]
    simp only [valR]
    omega
theorem pow12 {k : Nat} (h : k ≤ 7) : 12 ^ k ≤ 35831808 := by
  have := Nat.pow_le_pow_right (show 0 < 12 by omega) h
  omega
theorem okB_of {b : Int} {zs : List Int} (b0 : 2 ≤ b) (b1 : b ≤ 12) (n0 : 1 ≤ zs.length) (n1 : zs.length ≤ 7) (hd : DigsOf b zs) : okB b zs = true := by
  have hv := valR_12 (b := b) (by omega) b1 hd
  have hp := pow12 n1
  simp only [okB, Bool.and_eq_true, decide_eq_true_eq]
  refine ⟨⟨⟨?_, ?_⟩, ?_⟩, by omega⟩
  · simp [baseB]; omega
  · simp [widthB]; omega
  · simp only [digitsB, decide_eq_true_eq]; exact hd
theorem DrawnR.ok {b : Int} {xs : List Int} (h : DrawnR b xs 7) : okB b xs = true := okB_of h.b0 h.b1 h.n0 h.n1 h.digs
theorem twoE_drawn {b : Int} {xs ys : List Int} (h : DrawnR b xs 7) (hl : ys.length = xs.length) (hd : DigsOf b ys) : twoE b xs b ys = 0 := by
  have h1 := h.ok
  have h2 : okB b ys = true := okB_of h.b0 h.b1 (by rw [hl]; exact h.n0) (by rw [hl]; exact h.n1) hd
  unfold twoE
  rw [if_neg (by rw [h1, h2]; simp), if_pos ⟨rfl, hl.symm⟩]
theorem digs_nth {b : Int} {zs : List Int} (h : DigsOf b zs) {k : Nat} (hk : k < zs.length) : 0 ≤ nth zs k ∧ nth zs k < b := by
  rw [nth_get hk]; exact h _ (List.getElem_mem hk)
theorem digs_tab {b : Int} {f : Nat → Int} {n : Nat} (h : ∀ k, k < n → 0 ≤ f k ∧ f k < b) : DigsOf b (tab f n) := tab_mem h
theorem shD_in {b : Int} (b0 : 2 ≤ b) {xs : List Int} (h : DigsOf b xs) (m : Int) (k : Nat) : 0 ≤ shD xs m k ∧ shD xs m k < b := by
  unfold shD
  split
  · exact digs_nth h (by omega)
  · omega
theorem shR_drawn {b : Int} {xs : List Int} (b0 : 2 ≤ b) (b1 : b ≤ 12) (n0 : 1 ≤ xs.length) (n1 : xs.length ≤ 7) (hd : DigsOf b xs) {m : Int} (m0 : -7 ≤ m) (m1 : m ≤ 7) :
    DigsOf b (tab (shD xs m) xs.length) ∧ okB b (tab (shD xs m) xs.length) = true ∧ shR b xs m = (b, tab (shD xs m) xs.length, 0) := by
  have hd' : DigsOf b (tab (shD xs m) xs.length) := digs_tab fun k _ => shD_in b0 hd m k
  have ho : okB b (tab (shD xs m) xs.length) = true := okB_of b0 b1 (by rw [tab_len]; exact n0) (by rw [tab_len]; exact n1) hd'
  refine ⟨hd', ho, ?_⟩
  rw [shR, if_pos (okB_of b0 b1 n0 n1 hd), if_pos ⟨by omega, by omega⟩, finR, if_pos ho]
/-- Digits that are moved to and fro. -/
theorem shD_back {xs : List Int} {m : Int} (m0 : 0 ≤ m) {k : Nat} (hk : k < xs.length) : shD (tab (shD xs m) xs.length) (-m) k = if (xs.length : Int) ≤ (k : Int) + m then 0 else nth xs k := by
  unfold shD
  rw [tab_len]
  by_cases h : (xs.length : Int) ≤ (k : Int) + m
  · rw [if_pos h, if_neg (by omega)]
  · rw [if_neg h, if_pos (by omega), tab_nth (by omega), if_pos (by omega)]
    congr 1
    omega
theorem cK_step (b : Int) (xs ys : List Int) (k : Nat) : cK b xs ys (k + 1) = (nth xs k + nth ys k + cK b xs ys k) / b := rfl
theorem cK_test {b : Int} (hb : 2 ≤ b) {t : Int} (h0 : 0 ≤ t) (h1 : t < 2 * b) : (b ≤ t → t / b = 1) ∧ (t < b → t / b = 0) := by
  constructor
  · intro h
    have h2 : t / b < 2 := Int.ediv_lt_of_lt_mul (by omega) (by omega)
    have h3 : 1 ≤ t / b := Int.le_ediv_of_mul_le (by omega) (by omega)
    omega
  · intro h; exact Int.ediv_eq_zero_of_lt h0 h
end Go.Proofs.YtgfopieojpjddaaDoor

/- Digs -/
namespace Go.Proofs.YtgfopieojpjddaaDoor

/-- The n lowest digits of v in base b, the lowest one first. -/
def digsR (b : Int) : Nat → Int → List Int
  | 0, _ => []
  | n + 1, v => (v % b) :: digsR b n (v / b)
/-- What is left of v behind them. -/
def leftR (b : Int) : Nat → Int → Int
  | 0, v => v
  | n + 1, v => leftR b n (v / b)

theorem digsR_succ (b : Int) : ∀ (n : Nat) (v : Int), digsR b (n + 1) v = digsR b n v ++ [leftR b n v % b]
  | 0, v => rfl
  | n + 1, v => by rw [digsR, digsR_succ b n (v / b), digsR, leftR]; rfl
theorem leftR_succ (b : Int) : ∀ (n : Nat) (v : Int), leftR b (n + 1) v = leftR b n v / b
  | 0, v => rfl
  | n + 1, v => by rw [leftR, leftR_succ b n (v / b), leftR]
theorem digsR_len (b : Int) : ∀ (n : Nat) (v : Int), (digsR b n v).length = n
  | 0, _ => rfl
  | n + 1, v => by rw [digsR, List.length_cons, digsR_len b n]
theorem leftR_bd {b : Int} (hb : 1 ≤ b) {m : Int} : ∀ (n : Nat) (v : Int), 0 ≤ v → v ≤ m → 0 ≤ leftR b n v ∧ leftR b n v ≤ m
  | 0, v, h0, h1 => ⟨h0, h1⟩
  | n + 1, v, h0, h1 => leftR_bd hb n (v / b) (Int.ediv_nonneg h0 (by omega)) (Int.le_trans (Int.ediv_le_self b h0) h1)
theorem digsR_bd {b : Int} (hb : 1 ≤ b) : ∀ (n : Nat) (v : Int), ∀ d ∈ digsR b n v, 0 ≤ d ∧ d < b
  | 0, _, d, hd => by simp [digsR] at hd
  | n + 1, v, d, hd => by
    rw [digsR, List.mem_cons] at hd
    rcases hd with rfl | hd
    · exact ⟨Int.emod_nonneg _ (by omega), Int.emod_lt_of_pos _ (by omega)⟩
    · exact digsR_bd hb n _ d hd

/-- NewRegister: base, digits, code. -/
def nrR (b n v : Int) : Int × List Int × Int :=
  if 2 ≤ b ∧ b ≤ 16 ∧ 1 ≤ n ∧ n ≤ 16 ∧ 0 ≤ v ∧ v ≤ 1000000000000 then (if 0 < leftR b n.toNat v then (0, [], 5) else (b, digsR b n.toNat v, 0)) else (0, [], 2)
theorem nrR_bad {b n v : Int} (h : ¬ (2 ≤ b ∧ b ≤ 16 ∧ 1 ≤ n ∧ n ≤ 16 ∧ 0 ≤ v ∧ v ≤ 1000000000000)) : nrR b n v = (0, [], 2) := by rw [nrR, if_neg h]
theorem nrR_full {b v : Int} {n : Nat} (h : 2 ≤ b ∧ b ≤ 16 ∧ 1 ≤ n ∧ n ≤ 16 ∧ 0 ≤ v ∧ v ≤ 1000000000000) (hl : 0 < leftR b n v) : nrR b n v = (0, [], 5) := by
  rw [nrR, if_pos (by omega), Int.toNat_natCast, if_pos hl]
theorem nrR_ok {b v : Int} {n : Nat} (h : 2 ≤ b ∧ b ≤ 16 ∧ 1 ≤ n ∧ n ≤ 16 ∧ 0 ≤ v ∧ v ≤ 1000000000000) (hl : ¬ 0 < leftR b n v) : nrR b n v = (b, digsR b n v, 0) := by
  rw [nrR, if_pos (by omega), Int.toNat_natCast, if_neg hl]
end Go.Proofs.YtgfopieojpjddaaDoor

/- RegsM -/
namespace Go.Proofs.YtgfopieojpjddaaDoor
open Go.RowKit

theorem digs_take {b : Int} {zs : List Int} (h : DigsOf b zs) (k : Nat) : DigsOf b (zs.take k) := fun d hd => h d (List.mem_of_mem_take hd)
theorem digsR_val {b : Int} (b0 : 2 ≤ b) : ∀ {zs : List Int}, DigsOf b zs → digsR b zs.length (valR b zs) = zs ∧ leftR b zs.length (valR b zs) = 0
  | [], _ => ⟨rfl, rfl⟩
  | d :: ds, h => by
    have hd := h d (by simp)
    obtain ⟨h1, h2⟩ := digsR_val b0 (zs := ds) fun x hx => h x (by simp [hx])
    have e1 : (d + b * valR b ds) % b = d := by rw [Int.add_mul_emod_self_left]; exact Int.emod_eq_of_lt hd.1 hd.2
    have e2 : (d + b * valR b ds) / b = valR b ds := by rw [Int.add_mul_ediv_left _ _ (by omega), Int.ediv_eq_zero_of_lt hd.1 hd.2, Int.zero_add]
    constructor
    · simp only [List.length_cons, digsR, valR, e1, e2, h1]
    · simp only [List.length_cons, leftR, valR, e2, h2]
theorem valR_bd {b : Int} {xs : List Int} (b0 : 2 ≤ b) (b1 : b ≤ 12) (n1 : xs.length ≤ 7) (hd : DigsOf b xs) : 0 ≤ valR b xs ∧ valR b xs ≤ 35831807 := by
  have hv := valR_12 (b := b) (by omega) b1 hd
  have hp := pow12 n1
  omega
/-- A register is made anew out of its value. -/
theorem nrR_back {b : Int} {xs : List Int} (h : DrawnR b xs 7) : nrR b (xs.length : Int) (valR b xs) = (b, xs, 0) := by
  have h2 := digsR_val h.b0 h.digs
  have h3 := valR_bd h.b0 h.b1 h.n1 h.digs
  rw [nrR_ok ⟨h.b0, by have := h.b1; omega, by have := h.n0; omega, by have := h.n1; omega, h3.1, by omega⟩ (by rw [h2.2]; omega), h2.1]

/-- Values by the first k digits. -/
theorem valR_snoc (b : Int) : ∀ (zs : List Int) (d : Int), valR b (zs ++ [d]) = valR b zs + d * b ^ zs.length
  | [], d => by simp [valR]
  | z :: zs, d => by
    simp only [List.cons_append, valR, valR_snoc b zs d, List.length_cons, Int.mul_add, Int.pow_succ]
    rw [show b * (d * b ^ zs.length) = d * (b ^ zs.length * b) by rw [Int.mul_comm b, Int.mul_assoc]]
    omega
theorem take_nth {zs : List Int} {k : Nat} (h : k < zs.length) : zs.take (k + 1) = zs.take k ++ [nth zs k] := by
  rw [List.take_succ_eq_append_getElem h, nth_get h]
theorem valR_take {b : Int} {zs : List Int} {k : Nat} (h : k < zs.length) : valR b (zs.take (k + 1)) = valR b (zs.take k) + nth zs k * b ^ k := by
  rw [take_nth h, valR_snoc, List.length_take, Nat.min_eq_left (by omega)]
theorem valR_tab (b : Int) (f : Nat → Int) (k : Nat) : valR b (tab f (k + 1)) = valR b (tab f k) + f k * b ^ k := by
  rw [tab_succ, valR_snoc, tab_len]

/-- What a sum is worth. -/
theorem sum_val {b : Int} (b0 : 2 ≤ b) {xs ys : List Int} (hl : ys.length = xs.length) : ∀ k, k ≤ xs.length → valR b (tab (sumD b xs ys) k) + cK b xs ys k * b ^ k = valR b (xs.take k) + valR b (ys.take k)
  | 0, _ => by simp [tab, valR, cK]
  | k + 1, hk => by
    have ih := sum_val b0 hl k (by omega)
    rw [valR_tab, valR_take (by omega), valR_take (by omega), cK_step, Int.pow_succ]
    have e := Int.emod_add_mul_ediv (nth xs k + nth ys k + cK b xs ys k) b
    have e2 : sumD b xs ys k = nth xs k + nth ys k + cK b xs ys k - b * ((nth xs k + nth ys k + cK b xs ys k) / b) := by unfold sumD; omega
    rw [e2]
    generalize (nth xs k + nth ys k + cK b xs ys k) / b = q
    rw [Int.sub_mul, Int.add_mul, Int.add_mul, show b * q * b ^ k = q * (b ^ k * b) by rw [Int.mul_comm b q, Int.mul_assoc, Int.mul_comm b]]
    omega
theorem sum_digs {b : Int} (b0 : 2 ≤ b) (xs ys : List Int) (n : Nat) : DigsOf b (tab (sumD b xs ys) n) :=
  digs_tab fun k _ => ⟨Int.emod_nonneg _ (by omega), Int.emod_lt_of_pos _ (by omega)⟩
/-- A sum of drawn registers is a register. -/
theorem addR_drawn {b : Int} {xs ys : List Int} (h : DrawnR b xs 7) (hl : ys.length = xs.length) (hd : DigsOf b ys) :
    DrawnR b (tab (sumD b xs ys) xs.length) 7 ∧ addR b xs b ys = (b, tab (sumD b xs ys) xs.length, cK b xs ys xs.length, 0) ∧
    valR b (tab (sumD b xs ys) xs.length) + cK b xs ys xs.length * b ^ xs.length = valR b xs + valR b ys ∧ (cK b xs ys xs.length = 0 ∨ cK b xs ys xs.length = 1) := by
  have hD : DrawnR b (tab (sumD b xs ys) xs.length) 7 := ⟨h.b0, h.b1, by rw [tab_len]; exact h.n0, by rw [tab_len]; exact h.n1, sum_digs h.b0 _ _ _⟩
  refine ⟨hD, ?_, ?_, ?_⟩
  · rw [addR, if_pos (twoE_drawn h hl hd), if_pos hD.ok]
  · have := sum_val h.b0 (ys := ys) hl xs.length (Nat.le_refl _)
    rw [List.take_length, List.take_of_length_le (by omega)] at this
    exact this
  · have := cK_bd h.b0 (fun k hk => digs_nth h.digs hk) (fun k hk => digs_nth hd (by omega)) xs.length (Nat.le_refl _)
    omega
/-- A sum less one of its parts. -/
theorem sub_back {b : Int} (b0 : 2 ≤ b) {xs ys : List Int} (hx : DigsOf b xs) (hl : ys.length = xs.length) (hy : DigsOf b ys) : ∀ k, k ≤ xs.length →
    bK b (tab (sumD b xs ys) xs.length) ys k = cK b xs ys k ∧ (k < xs.length → subD b (tab (sumD b xs ys) xs.length) ys k = nth xs k)
  | k, hk => by
    have hb : bK b (tab (sumD b xs ys) xs.length) ys k = cK b xs ys k := by
      match k, hk with
      | 0, _ => rfl
      | k + 1, hk =>
        have ih := (sub_back b0 hx hl hy k (by omega)).1
        have h1 := digs_nth hx (k := k) (by omega)
        have h2 := digs_nth hy (k := k) (by omega)
        have h3 := cK_bd b0 (fun k hk => digs_nth hx hk) (fun k hk => digs_nth hy (by omega)) k (by omega)
        have h4 := cK_test b0 (t := nth xs k + nth ys k + cK b xs ys k) (by omega) (by omega)
        have e := Int.emod_add_mul_ediv (nth xs k + nth ys k + cK b xs ys k) b
        rw [cK_step, bK, ih, tab_nth (by omega)]
        unfold sumD
        rcases Int.lt_or_le (nth xs k + nth ys k + cK b xs ys k) b with h5 | h5
        · have h6 := h4.2 h5
          rw [h6] at e ⊢
          rw [if_neg (by omega)]
        · have h6 := h4.1 h5
          rw [h6] at e ⊢
          rw [if_pos (by omega)]
    refine ⟨hb, fun hlt => ?_⟩
    have h1 := digs_nth hx (k := k) (by omega)
    have h2 := digs_nth hy (k := k) (by omega)
    have h3 := cK_bd b0 (fun k hk => digs_nth hx hk) (fun k hk => digs_nth hy (by omega)) k (by omega)
    have h4 := cK_test b0 (t := nth xs k + nth ys k + cK b xs ys k) (by omega) (by omega)
    have e := Int.emod_add_mul_ediv (nth xs k + nth ys k + cK b xs ys k) b
    rw [subD, hb, tab_nth (by omega)]
    unfold sumD
    rcases Int.lt_or_le (nth xs k + nth ys k + cK b xs ys k) b with h5 | h5
    · have h6 := h4.2 h5
      rw [h6] at e
      rw [if_neg (by omega)]
      omega
    · have h6 := h4.1 h5
      rw [h6] at e
      rw [if_pos (by omega)]
      omega
theorem subR_back {b : Int} {xs ys : List Int} (h : DrawnR b xs 7) (hl : ys.length = xs.length) (hd : DigsOf b ys) :
    subR b (tab (sumD b xs ys) xs.length) b ys = (b, xs, cK b xs ys xs.length, 0) := by
  have hS := (addR_drawn h hl hd).1
  have e : tab (subD b (tab (sumD b xs ys) xs.length) ys) xs.length = xs := by
    refine List.ext_getElem (by rw [tab_len]) fun i h1 h2 => ?_
    have := (sub_back h.b0 h.digs hl hd i (by omega)).2 h2
    rw [← nth_get h1, ← nth_get h2, tab_nth h2, this]
  rw [subR, if_pos (twoE_drawn hS (by rw [tab_len]; exact hl) hd), tab_len, e, if_pos h.ok, (sub_back h.b0 h.digs hl hd xs.length (Nat.le_refl _)).1]
/-- What a complement is worth. -/
theorem cpl_val {b : Int} {xs : List Int} : ∀ k, k ≤ xs.length → valR b (tab (cplD b xs) k) = b ^ k - 1 - valR b (xs.take k)
  | 0, _ => by simp [tab, valR]
  | k + 1, hk => by
    rw [valR_tab, valR_take (by omega), cpl_val k (by omega), Int.pow_succ]
    unfold cplD
    rw [Int.sub_mul, Int.sub_mul, Int.one_mul, Int.mul_comm b]
    omega
theorem cplR_drawn {b : Int} {xs : List Int} (h : DrawnR b xs 7) : DrawnR b (tab (cplD b xs) xs.length) 7 ∧ cplR b xs = (b, tab (cplD b xs) xs.length, 0) ∧
    valR b (tab (cplD b xs) xs.length) = b ^ xs.length - 1 - valR b xs := by
  have hD : DrawnR b (tab (cplD b xs) xs.length) 7 := ⟨h.b0, h.b1, by rw [tab_len]; exact h.n0, by rw [tab_len]; exact h.n1, digs_tab fun k hk => by have := digs_nth h.digs hk; unfold cplD; omega⟩
  refine ⟨hD, ?_, ?_⟩
  · rw [cplR, if_pos h.ok, finR, if_pos hD.ok]
  · rw [cpl_val _ (Nat.le_refl _), List.take_length]

/-- A text that is written is read. -/
theorem itoa_colon : ∀ k : Nat, k < 17 → ∀ c ∈ Lib.itoa (k : Int), ¬ c = 58 := by decide +kernel
theorem itoa_two : ∀ k : Nat, k < 17 → (Lib.itoa (k : Int)).length ≤ 2 := by decide +kernel
theorem txR_size {b : Int} {zs : List Int} (h : okB b zs = true) : (txR b zs).size ≤ 1048576 := by
  obtain ⟨b0, b1, n0, n1, _, _⟩ := okB_spec h
  obtain ⟨k, rfl⟩ := Int.eq_ofNat_of_zero_le (show 0 ≤ b by omega)
  have h2 := itoa_two k (by omega)
  rw [txR_ok h]
  show (txB (k : Int) zs).toArray.size ≤ _
  simp only [List.size_toArray, txB, List.length_append, List.length_map, List.length_reverse, List.length_cons, List.length_nil]
  omega
theorem rgR_back {b : Int} {zs : List Int} (h : okB b zs = true) : rgR (txR b zs) = (b, zs, true) := by
  obtain ⟨b0, b1, n0, n1, hd, _⟩ := okB_spec h
  rw [txR_ok h]
  obtain ⟨t, ht⟩ : ∃ t, t = zs.reverse.map sgnD := ⟨_, rfl⟩
  obtain ⟨l, hl⟩ : ∃ l, l = Lib.itoa b := ⟨_, rfl⟩
  have hlc : ∀ c ∈ l, ¬ c = 58 := by
    obtain ⟨k, rfl⟩ := Int.eq_ofNat_of_zero_le (show 0 ≤ b by omega)
    rw [hl]; exact itoa_colon k (by omega)
  have es : (⟨(txB b zs).toArray⟩ : ByteArray).data.toList = l ++ 58 :: t := by simp [txB, hl, ht]
  have hi : Lib.index (l ++ 58 :: t) [58] = (l.length : Nat) := by
    refine Lib.index_first (by simp) (by simp [Lib.occAt]) fun j hj => ?_
    unfold Lib.occAt
    rw [List.drop_append_of_le_length (by omega), List.drop_eq_getElem_cons hj]
    have := hlc _ (List.getElem_mem hj)
    rw [List.cons_append, List.isPrefixOf, beq_eq_false_iff_ne.2 (fun e => this e.symm), Bool.false_and]
  have hc : Lib.cut (l ++ 58 :: t) [58] = (l, t, true) := by
    unfold Lib.cut
    rw [if_pos (by rw [hi]; omega), hi]
    simp
  have hT := cut_tells ⟨(txB b zs).toArray⟩
  rw [es, hc] at hT
  rcases hT with ⟨h1, _⟩ | ⟨_, _, _, h4⟩
  · cases h1
  · rw [h4]
    have e1 : rdR ⟨l.toArray⟩ = (b, true) := rdR_yes ⟨by omega, by rw [hl]⟩
    have e2 : (⟨t.toArray⟩ : ByteArray).size = zs.length := by show t.toArray.size = _; simp [ht]
    have e3 : tdL ⟨t.toArray⟩ zs.length = zs := by
      refine List.ext_getElem (by rw [tdL_len]) fun i h1 h2 => ?_
      have hk : zs.length - 1 - i < (⟨t.toArray⟩ : ByteArray).size := by rw [e2]; omega
      have hv : byteAt ⟨t.toArray⟩ (zs.length - 1 - i) = sgnD zs[i] := by
        rw [← byteAt_get hk]
        show t.toArray[zs.length - 1 - i] = _
        simp only [List.getElem_toArray, ht, List.getElem_map, List.getElem_reverse]
        congr 2
        omega
      have hz := hd _ (List.getElem_mem h2)
      have hs := sgnD_val (d := zs[i]) hz.1 (by omega)
      simp only [tdL, List.getElem_map, List.getElem_range, e2]
      rw [hv]
      split at hs
      · rw [sgV_dec (by omega)]; omega
      · rw [sgV_let (by omega)]; omega
    rw [e1, rgT_yes (by rw [e2]; exact n1) rfl (by rw [e2, e3]; exact h), e2, e3]
end Go.Proofs.YtgfopieojpjddaaDoor

/- RegsP -/
namespace Go.Proofs.YtgfopieojpjddaaDoor
open Go.RowKit

theorem pow_12 {b : Int} (b0 : 0 ≤ b) (b1 : b ≤ 12) : ∀ k : Nat, 0 ≤ b ^ k ∧ b ^ k ≤ (12 ^ k : Nat)
  | 0 => by simp
  | k + 1 => by
    have ih := pow_12 b0 b1 k
    rw [Int.pow_succ, Nat.pow_succ]
    have m1 := Int.mul_nonneg ih.1 b0
    have m2 : b ^ k * b ≤ b ^ k * 12 := Int.mul_le_mul_of_nonneg_left b1 ih.1
    omega
theorem pow_bd {b : Int} (b0 : 0 ≤ b) (b1 : b ≤ 12) {k : Nat} (hk : k ≤ 7) : 0 ≤ b ^ k ∧ b ^ k ≤ 35831808 := by
  have h1 := pow_12 b0 b1 k
  have h2 := pow12 hk
  omega
theorem a2Power_any (b : Int) (n : Nat) (w : World) (b0 : 2 ≤ b) (b1 : b ≤ 12) (n1 : n ≤ 7) :
    Calls Tryd.prog 42 #[.int .i64 b, .int .i64 (n : Nat)] w fun e w' => e = .returned (.int .i64 (b ^ n)) ∧ w' = w := by
  go_enter Tryd.func42, Tryd.ntmps42
  go_wp2
  go_loop [1, 5] (fun m o => ∃ j k : Nat, j + k = n ∧ m = .int .i64 (j : Nat) ∧ o = .int .i64 (b ^ k)) (fun m _ => (intOf m).toNat)
  case atStart => exact ⟨n, 0, rfl, rfl, by simp⟩
  case round =>
    obtain ⟨j, k, hjk, rfl, rfl⟩ := hrel
    match j, hjk with
    | 0, hjk =>
      obtain rfl : k = n := by omega
      go_wp2
      go_ret
      exact ⟨rfl, rfl⟩
    | j + 1, hjk =>
      have hp := pow_bd (by omega) b1 (k := k + 1) (by omega)
      have e := Int.pow_succ b k
      rw [e] at hp
      have hlt : (0 : Int) < ((j + 1 : Nat) : Int) := by omega
      have e1 : ((j + 1 : Nat) : Int) - 1 = (j : Int) := by omega
      have HE := Lib.hid e
      clear e
      go_wp2
      go_round
      case rel => exact ⟨j, k + 1, by omega, by first | go_num | rw [e1], by rw [HE.out]⟩
      case measure => (simp [intOf]) <;> omega
end Go.Proofs.YtgfopieojpjddaaDoor

/- NewReg -/
namespace Go.Proofs.YtgfopieojpjddaaDoor
open Go.RowKit

/-- What a call of NewRegister leaves. -/
def NewRegPost (b n v : Int) (w : World) (e : Ending) (w' : World) : Prop := ∃ A C,
  e = .returned (.tuple #[.agg #[.int .i64 (nrR b n v).1, .slice A (nrR b n v).2.1.length C], .int .i64 (nrR b n v).2.2]) ∧ Own 2 w' w.heap.size w'.heap.size (.slice A (nrR b n v).2.1.length C) (nrR b n v).2.1 ∧ Below w.heap.size w w'

theorem newRegPost_err {b n v c : Int} {w w' : World} {e : Ending} (h : nrR b n v = (0, [], c)) (he : e = .returned (.tuple #[.agg #[.int .i64 0, .slice none 0 0], .int .i64 c])) (hb : Below w.heap.size w w') : NewRegPost b n v w e w' := by
  refine ⟨none, 0, ?_, ?_, hb⟩
  · rw [h]; exact he
  · rw [h]; exact own_nil _ _ _ _
theorem newRegPost_ok {b n v : Int} {zs : List Int} {m : Nat} {w w' : World} {A : Option Addr} {C lo hi : Nat} {e : Ending} (h : nrR b n v = (b, zs, 0)) (hm : zs.length = m) (he : e = .returned (.tuple #[.agg #[.int .i64 b, .slice A m C], .int .i64 0]))
    (ho : Own 2 w' lo hi (.slice A m C) zs) (hl : w.heap.size ≤ lo) (hh : hi ≤ w'.heap.size) (hb : Below w.heap.size w w') : NewRegPost b n v w e w' := by
  subst hm
  refine ⟨A, C, ?_, ?_, hb⟩
  · rw [h]; exact he
  · rw [h]; exact ho.wide hl hh

set_option maxRecDepth 100000 in
theorem implNewRegister (b n v : Int) (w : World) (_ : I64 b) (_ : I64 n) (_ : I64 v) : Calls Tryd.prog 44 #[.int .i64 b, .int .i64 n, .int .i64 v] w (NewRegPost b n v w) := by
  by_cases h : 2 ≤ b ∧ b ≤ 16 ∧ 1 ≤ n ∧ n ≤ 16 ∧ 0 ≤ v ∧ v ≤ 1000000000000
  · obtain ⟨h1, h2, h3, h4, h5, h6⟩ := h
    obtain ⟨n, rfl⟩ := Int.eq_ofNat_of_zero_le (show 0 ≤ n by omega)
    go_enter Tryd.func44, Tryd.ntmps44
    go_wp2_with (first | (at_make; refine wpList_makeI rfl _ _ _ 2 rfl Tryd.underlying112 info_int64 n rfl rfl (by omega) ?_; intro w1 hown hb; have bx := (Bx.new w #[.int .i64 0, .slice none 0 0] 47).below hb) | go_in)
    go_loopw [2, 9, 31] (fun q _ i wr => ∃ k : Nat, k ≤ n ∧ q = .int .i64 (leftR b k v) ∧ i = .int .i64 k ∧ Bx wr w.heap.size 47 #[.int .i64 0, .slice none 0 0] ∧
        Own 2 wr (w.heap.size + 1) wr.heap.size (.slice (some ⟨w.heap.size + 1, 0, none⟩) n n) (pad n (digsR b k v)) ∧ Below w.heap.size w wr) (fun _ _ i _ => n - (intOf i).toNat)
    case atStart => exact ⟨0, Nat.zero_le _, rfl, rfl, bx, by simpa [digsR] using hown, (by repeat (first | exact ((Below.refl _ _).alloc (Nat.le_refl _) _).trans (hb.mono (by simp)) | refine Below.setCell ?_ (by first | omega | (simp <;> omega)) _ | refine Below.alloc ?_ (by first | omega | (simp <;> omega)) _ | refine Below.drew ?_))⟩
    case round =>
      obtain ⟨k, hk, rfl, rfl, bx, hown, hbel⟩ := hrel
      have hlb := leftR_bd (by omega : 1 ≤ b) k v h5 h6
      have hlen := digsR_len b k v
      have HL := Lib.hid hlen
      clear hlen
      by_cases hlt : k < n
      · have hget := hown.get (j := k) (by rw [pad_len (by rw [HL.out]; omega)]; exact hlt)
        have hthaw := hown.thaw k
        have hput := hown.put k (leftR b k v % b)
        have e : (pad n (digsR b k v)).set k (leftR b k v % b) = pad n (digsR b (k + 1) v) := by
          have := pad_set (n := n) (zs := digsR b k v) (by rw [HL.out]; exact hlt) (leftR b k v % b)
          rw [HL.out] at this
          rw [this, digsR_succ]
        rw [e] at hput
        have HP := Lib.hid hput
        clear hput e
        go_wp2
        go_roundw
        case rel => exact ⟨k + 1, by omega, by rw [leftR_succ], by go_num, bx.far (by simp) _, HP.out.wide (Nat.le_refl _) (by simp), hbel.setCell (by simp) _⟩
        case measure => simp [intOf]; omega
      · obtain rfl : k = n := by omega
        rw [pad_all HL.out] at hown
        have c0 := bx.at_ 0 rfl
        have c1 := bx.at_ 1 rfl
        have f0 := bx.thaw 0
        have f1 := bx.thaw 1
        by_cases hl : 0 < leftR b k v
        · have HN := Lib.hid (nrR_full (by omega) hl)
          go_wp2
          exact bodyPost_ret (v := .tuple #[.agg #[.int .i64 0, .slice none 0 0], .int .i64 5]) (by simp [results, Tryd.results44, go_sem, c0, c1]) rfl
            (newRegPost_err HN.out rfl (by repeat (first | exact hbel | refine Below.setCell ?_ (by first | omega | (simp <;> omega)) _ | refine Below.alloc ?_ (by first | omega | (simp <;> omega)) _ | refine Below.drew ?_)))
        · have HN := Lib.hid (nrR_ok (by omega) hl)
          go_wp2
          exact bodyPost_ret (v := .tuple #[.agg #[.int .i64 b, .slice (some ⟨w.heap.size + 1, 0, none⟩) k k], .int .i64 0]) (by simp [results, Tryd.results44, go_sem, c0, c1]) rfl
            (newRegPost_ok HN.out HL.out rfl (lo := w.heap.size + 1) (hi := wr.heap.size) (by repeat (first | exact hown | refine Own.alloc ?_ _ | refine Own.setCell ?_ (.inl (by simp <;> omega)) _ | refine Own.drew ?_)) (by simp) (by simp) (by repeat (first | exact hbel | refine Below.setCell ?_ (by first | omega | (simp <;> omega)) _ | refine Below.alloc ?_ (by first | omega | (simp <;> omega)) _ | refine Below.drew ?_)))
  · have HN := Lib.hid (nrR_bad h)
    have hc : b < 2 ∨ (2 ≤ b ∧ 16 < b) ∨ (2 ≤ b ∧ b ≤ 16 ∧ n < 1) ∨ (2 ≤ b ∧ b ≤ 16 ∧ 1 ≤ n ∧ 16 < n) ∨ (2 ≤ b ∧ b ≤ 16 ∧ 1 ≤ n ∧ n ≤ 16 ∧ v < 0) ∨ (2 ≤ b ∧ b ≤ 16 ∧ 1 ≤ n ∧ n ≤ 16 ∧ 0 ≤ v ∧ 1000000000000 < v) := by omega
    clear h
    rcases hc with h1 | ⟨h1, h2⟩ | ⟨h1, h2, h3⟩ | ⟨h1, h2, h3, h4⟩ | ⟨h1, h2, h3, h4, h5⟩ | ⟨h1, h2, h3, h4, h5, h6⟩
    all_goals
      go_enter Tryd.func44, Tryd.ntmps44
      go_wp2
      exact bodyPost_ret (v := .tuple #[.agg #[.int .i64 0, .slice none 0 0], .int .i64 2]) (by simp [results, Tryd.results44, go_sem]) rfl
        (newRegPost_err HN.out rfl ((Below.refl _ _).alloc (Nat.le_refl _) _))
end Go.Proofs.YtgfopieojpjddaaDoor

/- SameI -/
namespace Go.Proofs.YtgfopieojpjddaaDoor
open Go.RowKit

set_option maxHeartbeats 400000 in
theorem l00Same_any (a b : Option Addr) (c d : Nat) (xs ys : List Int) (w : World) (ha : Rd w a xs) (hb : Rd w b ys) :
    Calls Tryd.prog 136 #[.slice a xs.length c, .slice b ys.length d] w fun e w' => e = .returned (.bool (decide (xs = ys))) ∧ ∃ n, w' = w.drewN n := by
  have hx1 := ha.len
  have hy1 := hb.len
  by_cases hl : xs.length = ys.length
  · have ht : ((xs.length : Int) != (ys.length : Int)) = false := by simp [hl]
    have HL := Lib.hid hl
    clear hl
    go_enter Tryd.func136, Tryd.ntmps136
    go_wp2
    go_loopw [5] (fun i wr => ∃ k n : Nat, k ≤ xs.length ∧ i = .int .i64 k ∧ wr = w.drewN n ∧ Hid (xs.take k = ys.take k)) (fun i _ => xs.length - (intOf i).toNat)
    case atStart => exact ⟨0, 0, Nat.zero_le _, rfl, rfl, Lib.hid (by simp)⟩
    case round =>
      obtain ⟨k, n, hk, rfl, rfl, HT⟩ := hrel
      by_cases hlt : k < xs.length
      · have hlt' : k < ys.length := by rw [← HL.out]; exact hlt
        obtain ⟨b1, o1, rfl, hc1⟩ := ha.at_ hlt
        obtain ⟨b2, o2, rfl, hc2⟩ := hb.at_ hlt'
        by_cases he : nth xs k = nth ys k
        · have hbe : (nth xs k != nth ys k) = false := by simp [he]
          have HE := Lib.hid he
          clear he
          go_wp2
          go_quiet (fail)
          go_wp2
          go_roundw
          case rel => exact ⟨k + 1, _, by omega, by go_num, rfl, Lib.hid (take_eq_snoc hlt HL.out HT.out HE.out)⟩
          case measure => simp [intOf]; omega
        · have hbe : (nth xs k != nth ys k) = true := by simp [he]
          have HE := Lib.hid he
          clear he
          go_wp2
          go_quiet (fail)
          go_wp2
          go_ret
          exact ⟨ret_bool (by simp [ne_of_at HE.out]), _, drewN_drewN _ _ _⟩
      · obtain rfl : k = xs.length := by omega
        go_wp2
        go_ret
        exact ⟨ret_bool (by simp [take_all_eq HL.out HT.out]), _, rfl⟩
  · have ht : ((xs.length : Int) != (ys.length : Int)) = true := by simp; omega
    have HL := Lib.hid hl
    clear hl
    go_enter Tryd.func136, Tryd.ntmps136
    go_wp2
    go_ret
    exact ⟨ret_bool (by rw [decide_eq_false]; rintro rfl; exact HL.out rfl), 0, rfl⟩
end Go.Proofs.YtgfopieojpjddaaDoor

/- SliEq -/
namespace Go.Proofs.YtgfopieojpjddaaDoor
open Go.RowKit

set_option maxHeartbeats 400000 in
theorem slicesEqual_any (a b : Option Addr) (c d : Nat) (xs ys : List Int) (w : World) (ha : Rd w a xs) (hb : Rd w b ys) :
    Calls Tryd.prog 143 #[.slice a xs.length c, .slice b ys.length d] w fun e w' => e = .returned (.bool (decide (xs = ys))) ∧ ∃ n, w' = w.drewN n := by
  have hx1 := ha.len
  have hy1 := hb.len
  by_cases hl : xs.length = ys.length
  · have ht : ((xs.length : Int) != (ys.length : Int)) = false := by simp [hl]
    have HL := Lib.hid hl
    clear hl
    go_enter Tryd.func143, Tryd.ntmps143
    go_wp2
    go_loopw [5, 13] (fun _ i wr => ∃ k n : Nat, k ≤ xs.length ∧ i = .int .i64 k ∧ wr = w.drewN n ∧ Hid (xs.take k = ys.take k)) (fun _ i _ => xs.length - (intOf i).toNat)
    case atStart => exact ⟨0, 0, Nat.zero_le _, rfl, rfl, Lib.hid (by simp)⟩
    case round =>
      obtain ⟨k, n, hk, rfl, rfl, HT⟩ := hrel
      by_cases hlt : k < xs.length
      · have hlt' : k < ys.length := by rw [← HL.out]; exact hlt
        obtain ⟨b1, o1, rfl, hc1⟩ := ha.at_ hlt
        obtain ⟨b2, o2, rfl, hc2⟩ := hb.at_ hlt'
        by_cases he : nth xs k = nth ys k
        · have hbe : (nth xs k != nth ys k) = false := by simp [he]
          have HE := Lib.hid he
          clear he
          go_wp2
          go_quiet (fail)
          go_wp2
          go_roundw
          case rel => exact ⟨k + 1, _, by omega, by go_num, rfl, Lib.hid (take_eq_snoc hlt HL.out HT.out HE.out)⟩
          case measure => simp [intOf]; omega
        · have hbe : (nth xs k != nth ys k) = true := by simp [he]
          have HE := Lib.hid he
          clear he
          go_wp2
          go_quiet (fail)
          go_wp2
          go_ret
          exact ⟨ret_bool (by simp [ne_of_at HE.out]), _, drewN_drewN _ _ _⟩
      · obtain rfl : k = xs.length := by omega
        go_wp2
        go_ret
        exact ⟨ret_bool (by simp [take_all_eq HL.out HT.out]), _, rfl⟩
  · have ht : ((xs.length : Int) != (ys.length : Int)) = true := by simp; omega
    have HL := Lib.hid hl
    clear hl
    go_enter Tryd.func143, Tryd.ntmps143
    go_wp2
    go_ret
    exact ⟨ret_bool (by rw [decide_eq_false]; rintro rfl; exact HL.out rfl), 0, rfl⟩
end Go.Proofs.YtgfopieojpjddaaDoor

/- SameReg -/
namespace Go.Proofs.YtgfopieojpjddaaDoor
open Go.RowKit

set_option maxHeartbeats 400000 in
theorem l02Same_any (p q : Nat) (B D : Int) (a b : Option Addr) (c d : Nat) (xs ys : List Int) (w : World) (ha : Rd w a xs) (hb : Rd w b ys)
    (hp0 : w.cell? ⟨p, 0, none⟩ = some (.int .i64 B)) (hp1 : w.cell? ⟨p, 1, none⟩ = some (.slice a xs.length c)) (hq0 : w.cell? ⟨q, 0, none⟩ = some (.int .i64 D)) (hq1 : w.cell? ⟨q, 1, none⟩ = some (.slice b ys.length d)) :
    Calls Tryd.prog 96 #[.pointer (some ⟨p, 0, none⟩), .pointer (some ⟨q, 0, none⟩)] w fun e w' => e = .returned (.bool (regEqB B D xs ys)) ∧ ∃ n, w' = w.drewN n := by
  by_cases h : B = D
  · have hbe : (B == D) = true := by simp [h]
    have H := Lib.hid h
    clear h
    go_enter Tryd.func96, Tryd.ntmps96
    go_wp2
    go_quiet ((go_at_call 136; exact Calls.quiet_of (l00Same_any _ _ _ _ _ _ _ (ha.drewN _) (hb.drewN _))))
    go_wp2
    go_ret
    exact ⟨ret_bool (by simp [regEqB, H.out]), _, rfl⟩
  · have hbe : (B == D) = false := by simp [h]
    have H := Lib.hid h
    clear h
    go_enter Tryd.func96, Tryd.ntmps96
    go_wp2
    go_quiet (fail)
    go_wp2
    go_ret
    exact ⟨ret_bool (by simp [regEqB, H.out]), _, rfl⟩

set_option maxHeartbeats 400000 in
theorem specSameRegister_any (B D : Int) (a b : Option Addr) (c d : Nat) (xs ys : List Int) (w : World) (ha : Rd w a xs) (hb : Rd w b ys) :
    Calls Tryd.prog 46 #[.agg #[.int .i64 B, .slice a xs.length c], .agg #[.int .i64 D, .slice b ys.length d]] w fun e w' =>
      e = .returned (.bool (regEqB B D xs ys)) ∧ Below w.heap.size w w' := by
  have hbel : Below w.heap.size w ((w.alloc (.cells #[.int .i64 B, .slice a xs.length c] 47)).alloc (.cells #[.int .i64 D, .slice b ys.length d] 47)) :=
    ((Below.refl _ _).alloc (Nat.le_refl _) _).alloc (by simp) _
  go_enter Tryd.func46, Tryd.ntmps46
  go_wp2_with fail
  refine (l02Same_any w.heap.size (w.heap.size + 1) B D a b c d xs ys _ (ha.below hbel) (hb.below hbel) (by go_simp) (by go_simp) (by go_simp) (by go_simp)).mono ?_
  rintro e w1 ⟨rfl, n, rfl⟩
  go_wp2
  go_ret
  exact ⟨rfl, bel_drewN hbel _⟩

set_option maxHeartbeats 400000 in
theorem shapeOf_any (B : Int) (a : Option Addr) (n c : Nat) (w : World) :
    Calls Tryd.prog 137 #[.agg #[.int .i64 B, .slice a n c]] w fun e w' =>
      e = .returned (.agg #[.int .i64 B, .int .i64 n]) ∧ Below w.heap.size w w' := by
  go_enter Tryd.func137, Tryd.ntmps137
  go_wp2
  exact bodyPost_ret (v := .agg #[.int .i64 B, .int .i64 n]) (by simp [results, Tryd.results137, go_sem]) rfl
    ⟨rfl, ((((Below.refl _ _).alloc (Nat.le_refl _) _).alloc (by simp) _))⟩

set_option maxHeartbeats 400000 in
theorem implSameRegister_any (B D : Int) (a b : Option Addr) (c d : Nat) (xs ys : List Int) (w : World) (ha : Rd w a xs) (hb : Rd w b ys) :
    Calls Tryd.prog 109 #[.agg #[.int .i64 B, .slice a xs.length c], .agg #[.int .i64 D, .slice b ys.length d]] w fun e w' =>
      e = .returned (.bool (regEqB B D xs ys)) ∧ Below w.heap.size w w' := by
  have hbel : Below w.heap.size w ((w.alloc (.cells #[.int .i64 B, .slice a xs.length c] 47)).alloc (.cells #[.int .i64 D, .slice b ys.length d] 47)) :=
    ((Below.refl _ _).alloc (Nat.le_refl _) _).alloc (by simp) _
  have e1 := kept_after (W := (w.alloc (.cells #[.int .i64 B, .slice a xs.length c] 47)).alloc (.cells #[.int .i64 D, .slice b ys.length d] 47)) (p := ⟨w.heap.size, 0, none⟩) (v := .int .i64 B) (by go_simp)
  have e2 := kept_after (W := (w.alloc (.cells #[.int .i64 B, .slice a xs.length c] 47)).alloc (.cells #[.int .i64 D, .slice b ys.length d] 47)) (p := ⟨w.heap.size, 1, none⟩) (v := .slice a xs.length c) (by go_simp)
  have e3 := kept_after (W := (w.alloc (.cells #[.int .i64 B, .slice a xs.length c] 47)).alloc (.cells #[.int .i64 D, .slice b ys.length d] 47)) (p := ⟨w.heap.size + 1, 0, none⟩) (v := .int .i64 D) (by go_simp)
  have e4 := kept_after (W := (w.alloc (.cells #[.int .i64 B, .slice a xs.length c] 47)).alloc (.cells #[.int .i64 D, .slice b ys.length d] 47)) (p := ⟨w.heap.size + 1, 1, none⟩) (v := .slice b ys.length d) (by go_simp)
  by_cases h : B = D ∧ xs.length = ys.length
  · have hbe : (B == D) = true := by simp [h.1]
    have hle : ((xs.length : Int) == (ys.length : Int)) = true := by simp [h.2]
    have H := Lib.hid h
    clear h
    go_enter Tryd.func109, Tryd.ntmps109
    go_wp2
    refine wp_region_after (by kernel_rfl) (by kernel_rfl) ?_
    repeat (go_big_quiet_step (first | (go_at_call 137; exact calls_after (shapeOf_any _ _ _ _ _)) | (go_at_call 143; exact calls_after_drew (slicesEqual_any a b c d xs ys _ (ha.below (hbel.trans ((‹After _› : After _).ok.mono hbel.size))) (hb.below (hbel.trans ((‹After _› : After _).ok.mono hbel.size)))))))
    refine wpQuiet_nil ?_
    intro u
    go_wp2
    go_ret
    exact ⟨ret_bool (by simp [regEqB, H.out.1]), hbel.trans (u.ok.mono hbel.size)⟩
  · have H := Lib.hid h
    by_cases h1 : B = D
    · have hbe : (B == D) = true := by simp [h1]
      have hle : ((xs.length : Int) == (ys.length : Int)) = false := by simp; omega
      clear h h1
      go_enter Tryd.func109, Tryd.ntmps109
      go_wp2
      refine wp_region_after (by kernel_rfl) (by kernel_rfl) ?_
      repeat (go_big_quiet_step (first | (go_at_call 137; exact calls_after (shapeOf_any _ _ _ _ _)) | (go_at_call 143; exact calls_after_drew (slicesEqual_any a b c d xs ys _ (ha.below (hbel.trans ((‹After _› : After _).ok.mono hbel.size))) (hb.below (hbel.trans ((‹After _› : After _).ok.mono hbel.size)))))))
      refine wpQuiet_nil ?_
      intro u
      go_wp2
      go_ret
      exact ⟨ret_bool (by rw [eq_comm, regEqB, decide_eq_false]; rintro ⟨h1, rfl⟩; exact H.out ⟨h1, rfl⟩), hbel.trans (u.ok.mono hbel.size)⟩
    · have hbe : (B == D) = false := by simp [h1]
      clear h h1
      go_enter Tryd.func109, Tryd.ntmps109
      go_wp2
      refine wp_region_after (by kernel_rfl) (by kernel_rfl) ?_
      repeat (go_big_quiet_step (first | (go_at_call 137; exact calls_after (shapeOf_any _ _ _ _ _)) | (go_at_call 143; exact calls_after_drew (slicesEqual_any a b c d xs ys _ (ha.below (hbel.trans ((‹After _› : After _).ok.mono hbel.size))) (hb.below (hbel.trans ((‹After _› : After _).ok.mono hbel.size)))))))
      refine wpQuiet_nil ?_
      intro u
      go_wp2
      go_ret
      exact ⟨ret_bool (by rw [eq_comm, regEqB, decide_eq_false]; rintro ⟨h1, rfl⟩; exact H.out ⟨h1, rfl⟩), hbel.trans (u.ok.mono hbel.size)⟩

theorem specSameRegister (xB : Int) (xA : Option Addr) (xC : Nat) (xZ : List Int) (yB : Int) (yA : Option Addr) (yC : Nat) (yZ : List Int) (w : World) (hx : Rd w xA xZ) (_ : All64 xZ) (_ : I64 xB) (hy : Rd w yA yZ) (_ : All64 yZ) (_ : I64 yB) :
    Calls Tryd.prog 46 #[.agg #[.int .i64 xB, .slice xA xZ.length xC], .agg #[.int .i64 yB, .slice yA yZ.length yC]] w fun e w' =>
      e = .returned (.bool (regEqB xB yB xZ yZ)) ∧ Below w.heap.size w w' := specSameRegister_any xB yB xA yA xC yC xZ yZ w hx hy
theorem implSameRegister (xB : Int) (xA : Option Addr) (xC : Nat) (xZ : List Int) (yB : Int) (yA : Option Addr) (yC : Nat) (yZ : List Int) (w : World) (hx : Rd w xA xZ) (_ : All64 xZ) (_ : I64 xB) (hy : Rd w yA yZ) (_ : All64 yZ) (_ : I64 yB) :
    Calls Tryd.prog 109 #[.agg #[.int .i64 xB, .slice xA xZ.length xC], .agg #[.int .i64 yB, .slice yA yZ.length yC]] w fun e w' =>
      e = .returned (.bool (regEqB xB yB xZ yZ)) ∧ Below w.heap.size w w' := implSameRegister_any xB yB xA yA xC yC xZ yZ w hx hy
end Go.Proofs.YtgfopieojpjddaaDoor

/- PairI -/
namespace Go.Proofs.YtgfopieojpjddaaDoor
open Go.RowKit

set_option maxRecDepth 100000 in
set_option maxHeartbeats 1000000 in
theorem pairCode_any (xB : Int) (xA : Option Addr) (xC : Nat) (xZ : List Int) (yB : Int) (yA : Option Addr) (yC : Nat) (yZ : List Int) (w : World) (ha : Rd w xA xZ) (zx : All64 xZ) (bx : I64 xB) (hb : Rd w yA yZ) (zy : All64 yZ) (by_ : I64 yB) :
    Calls Tryd.prog 98 #[.agg #[.int .i64 xB, .slice xA xZ.length xC], .agg #[.int .i64 yB, .slice yA yZ.length yC]] w fun e w' => e = .returned (.int .i64 (twoE xB xZ yB yZ)) ∧ Below w.heap.size w w' := by
  go_enter Tryd.func98, Tryd.ntmps98
  go_wp2_with fail
  obtain ⟨u, hu⟩ : ∃ u, u = (w.alloc (.cells #[.int .i64 xB, .slice xA xZ.length xC] 47)).alloc (.cells #[.int .i64 yB, .slice yA yZ.length yC] 47) := ⟨_, rfl⟩
  rw [← hu]
  have hbel : Below w.heap.size w u := by rw [hu]; exact (by repeat (first | exact Below.refl _ _ | refine Below.setCell ?_ (by first | omega | (simp <;> omega)) _ | refine Below.alloc ?_ (by first | omega | (simp <;> omega)) _ | refine Below.drew ?_))
  have c0 : u.cell? ⟨w.heap.size, 0, none⟩ = some (.int .i64 xB) := by rw [hu]; go_simp
  have c1 : u.cell? ⟨w.heap.size, 1, none⟩ = some (.slice xA xZ.length xC) := by rw [hu]; go_simp
  have d0 : u.cell? ⟨w.heap.size + 1, 0, none⟩ = some (.int .i64 yB) := by rw [hu]; go_simp
  have d1 : u.cell? ⟨w.heap.size + 1, 1, none⟩ = some (.slice yA yZ.length yC) := by rw [hu]; go_simp
  replace ha := ha.below hbel
  replace hb := hb.below hbel
  clear hu
  cases h1 : okB xB xZ with
  | false =>
    have HT := Lib.hid (show twoE xB xZ yB yZ = 1 by simp [twoE, h1])
    refine (implValidRegister xB xA xC xZ u ha zx bx).mono ?_
    rintro e w1 ⟨rfl, hb1⟩
    rw [h1]
    go_wp2
    go_ret
    exact ⟨ret_int HT.out.symm, hbel.trans (hb1.mono hbel.size)⟩
  | true =>
    refine (implValidRegister xB xA xC xZ u ha zx bx).mono ?_
    rintro e w1 ⟨rfl, hb1⟩
    rw [h1]
    replace ha := ha.below hb1
    replace hb := hb.below hb1
    replace c0 := kept hb1 c0
    replace c1 := kept hb1 c1
    replace d0 := kept hb1 d0
    replace d1 := kept hb1 d1
    replace hbel := hbel.trans (hb1.mono hbel.size)
    have H1 := Lib.hid h1
    clear hb1 h1 u
    go_wp2_with fail
    refine (implValidRegister yB yA yC yZ w1 hb zy by_).mono ?_
    rintro e w2 ⟨rfl, hb1⟩
    cases h2 : okB yB yZ with
    | false =>
      have HT := Lib.hid (show twoE xB xZ yB yZ = 1 by simp [twoE, h2])
      go_wp2
      go_ret
      exact ⟨ret_int HT.out.symm, hbel.trans (hb1.mono hbel.size)⟩
    | true =>
      replace c0 := kept hb1 c0
      replace c1 := kept hb1 c1
      replace d0 := kept hb1 d0
      replace d1 := kept hb1 d1
      replace hbel := hbel.trans (hb1.mono hbel.size)
      have HT : Hid (twoE xB xZ yB yZ = if xB = yB ∧ xZ.length = yZ.length then 0 else 6) := Lib.hid (by simp [twoE, H1.out, h2])
      clear hb1 h2 H1 ha hb w1
      have e1 := kept_after c0
      have e2 := kept_after c1
      have e3 := kept_after d0
      have e4 := kept_after d1
      by_cases h : xB = yB ∧ xZ.length = yZ.length
      · rw [if_pos h] at HT
        have hbe : (xB == yB) = true := by simp [h.1]
        have hle : ((xZ.length : Int) == (yZ.length : Int)) = true := by simp [h.2]
        clear h
        go_wp2
        refine wp_region_after (by kernel_rfl) (by kernel_rfl) ?_
        repeat (go_big_quiet_step ((go_at_call 137; exact calls_after (shapeOf_any _ _ _ _ _))))
        refine wpQuiet_nil ?_
        intro u
        go_wp2
        go_ret
        exact ⟨ret_int HT.out.symm, hbel.trans (u.ok.mono hbel.size)⟩
      · rw [if_neg h] at HT
        by_cases h1 : xB = yB
        · have hbe : (xB == yB) = true := by simp [h1]
          have hle : ((xZ.length : Int) == (yZ.length : Int)) = false := by simp; omega
          clear h h1
          go_wp2
          refine wp_region_after (by kernel_rfl) (by kernel_rfl) ?_
          repeat (go_big_quiet_step ((go_at_call 137; exact calls_after (shapeOf_any _ _ _ _ _))))
          refine wpQuiet_nil ?_
          intro u
          go_wp2
          go_ret
          exact ⟨ret_int HT.out.symm, hbel.trans (u.ok.mono hbel.size)⟩
        · have hbe : (xB == yB) = false := by simp [h1]
          clear h h1
          go_wp2
          refine wp_region_after (by kernel_rfl) (by kernel_rfl) ?_
          repeat (go_big_quiet_step ((go_at_call 137; exact calls_after (shapeOf_any _ _ _ _ _))))
          refine wpQuiet_nil ?_
          intro u
          go_wp2
          go_ret
          exact ⟨ret_int HT.out.symm, hbel.trans (u.ok.mono hbel.size)⟩
end Go.Proofs.YtgfopieojpjddaaDoor

/- Plus -/
namespace Go.Proofs.YtgfopieojpjddaaDoor
open Go.RowKit

theorem pad_one (n : Nat) : pad (n + 1) [0] = pad (n + 1) [] := by simp [pad, List.replicate_succ]
theorem pad_get {n : Nat} {f : Nat → Int} {k m : Nat} (hm : m ≤ n) (h : k < m) : nth (pad n (tab f m)) k = f k := by
  rw [nth_get (by rw [pad_len (by rw [tab_len]; exact hm)]; omega)]
  unfold pad
  rw [List.getElem_append_left (by rw [tab_len]; exact h)]
  have := tab_nth (f := f) (n := m) (i := k) h
  rwa [nth_get (by rw [tab_len]; exact h)] at this
theorem pad_tab_set {n m : Nat} {f : Nat → Int} (h : m < n) (z : Int) (hz : f m = z) : (pad n (tab f m)).set m z = pad n (tab f (m + 1)) := by
  have := pad_set (n := n) (zs := tab f m) (by rw [tab_len]; exact h) z
  rw [tab_len] at this
  rw [this, tab_succ, hz]
theorem pad_tab_all {n : Nat} {f : Nat → Int} : pad n (tab f n) = tab f n := pad_all (tab_len _ _)
theorem pad_tab_len {n m : Nat} {f : Nat → Int} (h : m ≤ n) : (pad n (tab f m)).length = n := pad_len (by rw [tab_len]; exact h)

set_option maxRecDepth 100000 in
set_option maxHeartbeats 2000000 in
theorem plus_any (B : Int) (a b : Option Addr) (c d : Nat) (xs ys : List Int) (w : World) (ha : Rd w a xs) (hb : Rd w b ys) (hB1 : 2 ≤ B) (hB2 : B ≤ 16) (hlen : xs.length ≤ 16) (hl : xs.length = ys.length)
    (hx : ∀ k, k < xs.length → 0 ≤ nth xs k ∧ nth xs k < B) (hy : ∀ k, k < xs.length → 0 ≤ nth ys k ∧ nth ys k < B) :
    Calls Tryd.prog 99 #[.slice a xs.length c, .slice b ys.length d, .int .i64 B] w fun e w' => ∃ A1 C1 A2 C2, e = .returned (.tuple #[.slice A1 xs.length C1, .slice A2 (xs.length + 1) C2]) ∧
      Own 2 w' w.heap.size w'.heap.size (.slice A1 xs.length C1) (tab (sumD B xs ys) xs.length) ∧ Own 2 w' w.heap.size w'.heap.size (.slice A2 (xs.length + 1) C2) (tab (cK B xs ys) (xs.length + 1)) ∧ Below w.heap.size w w' := by
  have HL := Lib.hid hl
  have HX := Lib.hid hx
  have HY := Lib.hid hy
  clear hl hx hy
  go_enter Tryd.func99, Tryd.ntmps99
  go_wp2_with (first | (at_make; refine wpList_makeI rfl (.tmp 13) (.tmp 13) 112 2 rfl Tryd.underlying112 info_int64 xs.length rfl rfl (by omega) ?_; intro w1 hown1 hb1) | (at_make; go_must (refine wpList_makeI rfl (.tmp 17) (.tmp 17) 45 2 rfl Tryd.underlying45 info_int64 (xs.length + 1) (by rw [show ((xs.length + 1 : Nat) : Int) = (xs.length : Int) + 1 by omega]; rfl) (by rw [show ((xs.length + 1 : Nat) : Int) = (xs.length : Int) + 1 by omega]; rfl) (by omega) ?_); intro w2 hown2 hb2))
  have hs1 : w.heap.size < w1.heap.size := hown1.block.2.2
  have hs2 : w1.heap.size < w2.heap.size := hown2.block.2.2
  replace hown1 := hown1.lo hb2 (Nat.le_refl _)
  replace hb1 := hb1.trans (hb2.mono (Nat.le_of_lt hs1))
  replace hown2 := hown2.wide (Nat.le_refl _) (Nat.le_refl _)
  rw [← pad_one] at hown2
  clear hb2
  go_wp2
  go_loopw [10, 21] (fun _ i wr => ∃ k : Nat, k ≤ xs.length ∧ i = .int .i64 k ∧ Own 2 wr w.heap.size w1.heap.size (.slice (some ⟨w.heap.size, 0, none⟩) xs.length xs.length) (pad xs.length (tab (sumD B xs ys) k)) ∧
      Own 2 wr w1.heap.size wr.heap.size (.slice (some ⟨w1.heap.size, 0, none⟩) (xs.length + 1) (xs.length + 1)) (pad (xs.length + 1) (tab (cK B xs ys) (k + 1))) ∧ Below w.heap.size w wr) (fun _ i _ => xs.length - (intOf i).toNat)
  case atStart => exact ⟨0, Nat.zero_le _, rfl, hown1, hown2, hb1⟩
  case round =>
    obtain ⟨k, hk, rfl, own1, own2, hbel⟩ := hrel
    by_cases hlt : k < xs.length
    · obtain ⟨p1, o1, rfl, hc1⟩ := ha.at_ hlt
      have hlt2 : k < ys.length := by rw [← HL.out]; exact hlt
      obtain ⟨p2, o2, rfl, hc2⟩ := hb.at_ hlt2
      have f1 := kept hbel hc1
      have f2 := kept hbel hc2
      have hx := HX.out k hlt
      have hy := HY.out k hlt
      have hcb := cK_bd hB1 HX.out HY.out k hk
      have hq : 0 ≤ (nth xs k + nth ys k + cK B xs ys k) / B ∧ (nth xs k + nth ys k + cK B xs ys k) / B ≤ 1 := cK_bd hB1 HX.out HY.out (k + 1) hlt
      have hb0 : ¬ B = 0 := by omega
      have hrem : (nth xs k + nth ys k + cK B xs ys k).tmod B = (nth xs k + nth ys k + cK B xs ys k) % B := Int.tmod_eq_emod_of_nonneg (by omega)
      have hdiv : (nth xs k + nth ys k + cK B xs ys k).tdiv B = (nth xs k + nth ys k + cK B xs ys k) / B := Int.tdiv_eq_ediv_of_nonneg (by omega)
      have hwr : wrap64 ((nth xs k + nth ys k + cK B xs ys k) / B) = (nth xs k + nth ys k + cK B xs ys k) / B := IntWalk.wrap64_in _ ⟨by omega, by omega⟩
      have hw1 : IntKind.i64.wrap (nth xs k + nth ys k) = nth xs k + nth ys k := IntWalk.i64_in _ (by omega)
      have hw2 : IntKind.i64.wrap (nth xs k + nth ys k + cK B xs ys k) = nth xs k + nth ys k + cK B xs ys k := IntWalk.i64_in _ (by omega)
      have hi3 : (k : Int) < (xs.length : Int) + 1 := by omega
      have g3 := own2.get (j := k) (by rw [pad_tab_len (by omega)]; omega)
      rw [pad_get (by omega) (by omega)] at g3
      have g1 := own1.get (j := k) (by rw [pad_tab_len (by omega)]; omega)
      have t1 := own1.thaw k
      have g2 := own2.get (j := k + 1) (by rw [pad_tab_len (by omega)]; omega)
      have t2 := own2.thaw (k + 1)
      go_wp2
      go_quiet (fail)
      go_wp2
      have q1 := (own1.drewN nq).put k ((nth xs k + nth ys k + cK B xs ys k) % B)
      rw [pad_tab_set hlt ((nth xs k + nth ys k + cK B xs ys k) % B) rfl] at q1
      have q2 := ((own2.drewN nq).setCell (p := ⟨w.heap.size, k, none⟩) (.inl hs1) (.int .i64 ((nth xs k + nth ys k + cK B xs ys k) % B))).put (k + 1) ((nth xs k + nth ys k + cK B xs ys k) / B)
      rw [pad_tab_set (by omega) ((nth xs k + nth ys k + cK B xs ys k) / B) rfl] at q2
      go_roundw
      case rel => exact ⟨k + 1, by omega, by go_num, q1.setCell (p := ⟨w1.heap.size, k + 1, none⟩) (.inr (Nat.le_refl _)) _, q2.wide (Nat.le_refl _) (by simp), ((bel_drewN hbel nq).setCell (p := ⟨w.heap.size, k, none⟩) (by simp) _).setCell (p := ⟨w1.heap.size, k + 1, none⟩) (by simp <;> omega) _⟩
      case measure => (simp [intOf]) <;> omega
    · obtain rfl : k = xs.length := by omega
      rw [pad_tab_all] at own1 own2
      go_wp2
      refine bodyPost_ret (v := .tuple #[.slice (some ⟨w.heap.size, 0, none⟩) xs.length xs.length, .slice (some ⟨w1.heap.size, 0, none⟩) (xs.length + 1) (xs.length + 1)]) (by simp [results, Tryd.results99, go_sem]) rfl ?_
      exact ⟨_, _, _, _, rfl, own1.wide (Nat.le_refl _) (Nat.le_of_lt own2.block.2.2), own2.wide (Nat.le_of_lt hs1) (Nat.le_refl _), hbel⟩
end Go.Proofs.YtgfopieojpjddaaDoor

/- Minus -/
namespace Go.Proofs.YtgfopieojpjddaaDoor
open Go.RowKit

set_option maxRecDepth 100000 in
set_option maxHeartbeats 2000000 in
theorem minus_any (B : Int) (a b : Option Addr) (c d : Nat) (xs ys : List Int) (w : World) (ha : Rd w a xs) (hb : Rd w b ys) (hB1 : 2 ≤ B) (hB2 : B ≤ 16) (hlen : xs.length ≤ 16) (hl : xs.length = ys.length)
    (hx : ∀ k, k < xs.length → 0 ≤ nth xs k ∧ nth xs k < B) (hy : ∀ k, k < xs.length → 0 ≤ nth ys k ∧ nth ys k < B) :
    Calls Tryd.prog 101 #[.slice a xs.length c, .slice b ys.length d, .int .i64 B] w fun e w' => ∃ A1 C1, e = .returned (.tuple #[.slice A1 xs.length C1, .int .i64 (bK B xs ys xs.length)]) ∧
      Own 2 w' w.heap.size w'.heap.size (.slice A1 xs.length C1) (tab (subD B xs ys) xs.length) ∧ Below w.heap.size w w' := by
  have HL := Lib.hid hl
  have HX := Lib.hid hx
  have HY := Lib.hid hy
  clear hl hx hy
  go_enter Tryd.func101, Tryd.ntmps101
  go_wp2_with (at_make; refine wpList_makeI rfl (.tmp 13) (.tmp 13) 112 2 rfl Tryd.underlying112 info_int64 xs.length rfl rfl (by omega) ?_; intro w1 hown1 hb1)
  go_wp2
  go_loopw [9, 10, 17] (fun br _ i wr => ∃ k : Nat, k ≤ xs.length ∧ br = .int .i64 (bK B xs ys k) ∧ i = .int .i64 k ∧ Own 2 wr w.heap.size wr.heap.size (.slice (some ⟨w.heap.size, 0, none⟩) xs.length xs.length) (pad xs.length (tab (subD B xs ys) k)) ∧
      Below w.heap.size w wr) (fun _ _ i _ => xs.length - (intOf i).toNat)
  case atStart => exact ⟨0, Nat.zero_le _, rfl, rfl, hown1, hb1⟩
  case round =>
    obtain ⟨k, hk, rfl, rfl, own1, hbel⟩ := hrel
    by_cases hlt : k < xs.length
    · obtain ⟨p1, o1, rfl, hc1⟩ := ha.at_ hlt
      have hlt2 : k < ys.length := by rw [← HL.out]; exact hlt
      obtain ⟨p2, o2, rfl, hc2⟩ := hb.at_ hlt2
      have f1 := kept hbel hc1
      have f2 := kept hbel hc2
      have hx := HX.out k hlt
      have hy := HY.out k hlt
      have hbb := bK_bd B xs ys k
      have hw1 : IntKind.i64.wrap (nth xs k - nth ys k) = nth xs k - nth ys k := IntWalk.i64_in _ (by omega)
      have hw2 : IntKind.i64.wrap (nth xs k - nth ys k - bK B xs ys k) = nth xs k - nth ys k - bK B xs ys k := IntWalk.i64_in _ (by omega)
      have g1 := own1.get (j := k) (by rw [pad_tab_len (by omega)]; omega)
      have t1 := own1.thaw k
      by_cases hneg : nth xs k - nth ys k - bK B xs ys k < 0
      · have HB := Lib.hid (show bK B xs ys (k + 1) = 1 from if_pos hneg)
        have HD := Lib.hid (show subD B xs ys k = nth xs k - nth ys k - bK B xs ys k + B from if_pos hneg)
        go_wp2
        go_quiet (fail)
        go_wp2
        have q1 := (own1.drewN nq).put k (nth xs k - nth ys k - bK B xs ys k + B)
        rw [pad_tab_set hlt (nth xs k - nth ys k - bK B xs ys k + B) HD.out] at q1
        go_roundw
        case rel => exact ⟨k + 1, by omega, by rw [HB.out], by go_num, q1.wide (Nat.le_refl _) (by simp), (bel_drewN hbel nq).setCell (p := ⟨w.heap.size, k, none⟩) (by simp) _⟩
        case measure => (simp [intOf]) <;> omega
      · have HB := Lib.hid (show bK B xs ys (k + 1) = 0 from if_neg hneg)
        have HD := Lib.hid (show subD B xs ys k = nth xs k - nth ys k - bK B xs ys k from if_neg hneg)
        go_wp2
        go_quiet (fail)
        go_wp2
        have q1 := (own1.drewN nq).put k (nth xs k - nth ys k - bK B xs ys k)
        rw [pad_tab_set hlt (nth xs k - nth ys k - bK B xs ys k) HD.out] at q1
        go_roundw
        case rel => exact ⟨k + 1, by omega, by rw [HB.out], by go_num, q1.wide (Nat.le_refl _) (by simp), (bel_drewN hbel nq).setCell (p := ⟨w.heap.size, k, none⟩) (by simp) _⟩
        case measure => (simp [intOf]) <;> omega
    · obtain rfl : k = xs.length := by omega
      rw [pad_tab_all] at own1
      go_wp2
      refine bodyPost_ret (v := .tuple #[.slice (some ⟨w.heap.size, 0, none⟩) xs.length xs.length, .int .i64 (bK B xs ys xs.length)]) (by simp [results, Tryd.results101, go_sem]) rfl ?_
      exact ⟨_, _, rfl, own1, hbel⟩

set_option maxRecDepth 100000 in
set_option maxHeartbeats 2000000 in
theorem complement_any (B : Int) (a : Option Addr) (c : Nat) (xs : List Int) (w : World) (ha : Rd w a xs) (hB1 : 2 ≤ B) (hB2 : B ≤ 16) (hlen : xs.length ≤ 16)
    (hx : ∀ k, k < xs.length → 0 ≤ nth xs k ∧ nth xs k < B) :
    Calls Tryd.prog 104 #[.slice a xs.length c, .int .i64 B] w fun e w' => ∃ A1 C1, e = .returned (.slice A1 xs.length C1) ∧
      Own 2 w' w.heap.size w'.heap.size (.slice A1 xs.length C1) (tab (cplD B xs) xs.length) ∧ Below w.heap.size w w' := by
  have HX := Lib.hid hx
  clear hx
  go_enter Tryd.func104, Tryd.ntmps104
  go_wp2_with (at_make; refine wpList_makeI rfl (.tmp 9) (.tmp 9) 112 2 rfl Tryd.underlying112 info_int64 xs.length rfl rfl (by omega) ?_; intro w1 hown1 hb1)
  go_wp2
  go_loopw [6, 13] (fun _ i wr => ∃ k : Nat, k ≤ xs.length ∧ i = .int .i64 k ∧ Own 2 wr w.heap.size wr.heap.size (.slice (some ⟨w.heap.size, 0, none⟩) xs.length xs.length) (pad xs.length (tab (cplD B xs) k)) ∧
      Below w.heap.size w wr) (fun _ i _ => xs.length - (intOf i).toNat)
  case atStart => exact ⟨0, Nat.zero_le _, rfl, hown1, hb1⟩
  case round =>
    obtain ⟨k, hk, rfl, own1, hbel⟩ := hrel
    by_cases hlt : k < xs.length
    · obtain ⟨p1, o1, rfl, hc1⟩ := ha.at_ hlt
      have f1 := kept hbel hc1
      have hx := HX.out k hlt
      have hw1 : IntKind.i64.wrap (B - 1) = B - 1 := IntWalk.i64_in _ (by omega)
      have hw2 : IntKind.i64.wrap (B - 1 - nth xs k) = B - 1 - nth xs k := IntWalk.i64_in _ (by omega)
      have g1 := own1.get (j := k) (by rw [pad_tab_len (by omega)]; omega)
      have t1 := own1.thaw k
      go_wp2
      have q1 := own1.put k (B - 1 - nth xs k)
      rw [pad_tab_set hlt (B - 1 - nth xs k) rfl] at q1
      go_roundw
      case rel => exact ⟨k + 1, by omega, by go_num, q1.wide (Nat.le_refl _) (by simp), hbel.setCell (p := ⟨w.heap.size, k, none⟩) (by simp) _⟩
      case measure => (simp [intOf]) <;> omega
    · obtain rfl : k = xs.length := by omega
      rw [pad_tab_all] at own1
      go_wp2
      go_ret
      exact ⟨_, _, rfl, own1, hbel⟩

/-- What has been moved when the first n digits have been. -/
def mvD (xs : List Int) (m : Int) (n : Nat) (k : Nat) : Int := if 0 ≤ (k : Int) - m ∧ (k : Int) - m < (n : Int) then nth xs ((k : Int) - m).toNat else 0
theorem mvD_all (xs : List Int) (m : Int) : mvD xs m xs.length = shD xs m := by
  funext k
  unfold mvD shD
  by_cases h : 0 ≤ (k : Int) - m ∧ (k : Int) - m < (xs.length : Int)
  · rw [if_pos h, if_pos (by omega)]
  · rw [if_neg h, if_neg (by omega)]
theorem mvD_in {xs : List Int} {m : Int} {n j : Nat} (h : (n : Int) + m = j) (k : Nat) : mvD xs m (n + 1) k = if k = j then nth xs n else mvD xs m n k := by
  unfold mvD
  by_cases hk : k = j
  · subst hk
    rw [if_pos rfl, if_pos (by omega), show (k : Int) - m = n by omega]; rfl
  · rw [if_neg hk]
    by_cases h2 : 0 ≤ (k : Int) - m ∧ (k : Int) - m < (n : Int)
    · rw [if_pos h2, if_pos (by omega)]
    · rw [if_neg h2, if_neg (by omega)]
theorem mvD_out {xs : List Int} {m : Int} {n k : Nat} (h : (n : Int) + m ≠ k) : mvD xs m (n + 1) k = mvD xs m n k := by
  unfold mvD
  by_cases h2 : 0 ≤ (k : Int) - m ∧ (k : Int) - m < (n : Int)
  · rw [if_pos h2, if_pos (by omega)]
  · rw [if_neg h2, if_neg (by omega)]
theorem tab_ext {f g : Nat → Int} {n : Nat} (h : ∀ k, k < n → f k = g k) : tab f n = tab g n := by
  apply List.ext_getElem (by rw [tab_len, tab_len])
  intro k h1 h2
  rw [tab_len] at h1
  have e1 := tab_nth (f := f) (n := n) (i := k) h1
  have e2 := tab_nth (f := g) (n := n) (i := k) h1
  rw [nth_get (by rw [tab_len]; exact h1)] at e1 e2
  rw [e1, e2, h k h1]
theorem tab_set {f g : Nat → Int} {n j : Nat} {z : Int} (h : ∀ k, k < n → g k = if k = j then z else f k) : (tab f n).set j z = tab g n := by
  apply List.ext_getElem (by rw [List.length_set, tab_len, tab_len])
  intro k h1 h2
  rw [tab_len] at h2
  have e1 := tab_nth (f := f) (n := n) (i := k) h2
  have e2 := tab_nth (f := g) (n := n) (i := k) h2
  rw [nth_get (by rw [tab_len]; exact h2)] at e1 e2
  rw [e2, h k h2, List.getElem_set]
  by_cases hk : k = j
  · rw [if_pos hk, if_pos hk.symm]
  · rw [if_neg hk, if_neg (Ne.symm hk), e1]
theorem mvD_none (xs : List Int) (m : Int) (n : Nat) : tab (mvD xs m 0) n = List.replicate n 0 := by
  rw [← show tab (fun _ => (0 : Int)) n = List.replicate n 0 by
    apply List.ext_getElem (by simp [tab_len])
    intro k h1 h2
    rw [tab_len] at h1
    have e1 := tab_nth (f := fun _ => (0 : Int)) (n := n) (i := k) h1
    rw [nth_get (by rw [tab_len]; exact h1)] at e1
    rw [e1]; simp]
  apply tab_ext
  intro k _
  unfold mvD
  rw [if_neg (by omega)]

end Go.Proofs.YtgfopieojpjddaaDoor

/- Fin -/
namespace Go.Proofs.YtgfopieojpjddaaDoor
open Go.RowKit

set_option maxRecDepth 100000 in
set_option maxHeartbeats 1000000 in
theorem finish_ok (xB : Int) (xA : Option Addr) (xC : Nat) (xZ : List Int) (w : World) (ha : Rd w xA xZ) (z : All64 xZ) (b : I64 xB) (h : okB xB xZ = true) :
    Calls Tryd.prog 100 #[.int .i64 xB, .slice xA xZ.length xC] w fun e w' => e = .returned (.tuple #[.agg #[.int .i64 xB, .slice xA xZ.length xC], .int .i64 0]) ∧ Below w.heap.size w w' := by
  have H := Lib.hid h
  clear h
  go_enter Tryd.func100, Tryd.ntmps100
  go_wp2_with fail
  obtain ⟨u, hu⟩ : ∃ u, u = (w.alloc (.cells #[.int .i64 0, .slice none 0 0] 47)).alloc (.cells #[.int .i64 xB, .slice xA xZ.length xC] 47) := ⟨_, rfl⟩
  rw [← hu]
  have hbel : Below w.heap.size w u := by rw [hu]; exact (by repeat (first | exact Below.refl _ _ | refine Below.setCell ?_ (by first | omega | (simp <;> omega)) _ | refine Below.alloc ?_ (by first | omega | (simp <;> omega)) _ | refine Below.drew ?_))
  have ax : Bx u w.heap.size 47 #[.int .i64 0, .slice none 0 0] := by rw [hu]; exact (Bx.new _ _ _).alloc _
  have bx : Bx u (w.heap.size + 1) 47 #[.int .i64 xB, .slice xA xZ.length xC] := by rw [hu]; simpa using Bx.new (w.alloc (.cells #[.int .i64 0, .slice none 0 0] 47)) #[.int .i64 xB, .slice xA xZ.length xC] 47
  clear hu
  refine (implValidRegister xB xA xC xZ u (ha.below hbel) z b).mono ?_
  rintro e v ⟨rfl, hb1⟩
  rw [H.out]
  replace ax := ax.below hb1
  replace bx := bx.below hb1
  replace hbel := hbel.trans (hb1.mono hbel.size)
  clear hb1 u
  have c0 := ax.at_ 0 rfl
  have c1 := ax.at_ 1 rfl
  have f0 := ax.thaw 0
  have f1 := ax.thaw 1
  have d0 := bx.at_ 0 rfl
  have d1 := bx.at_ 1 rfl
  have hsz := bx.lt
  go_wp2
  exact bodyPost_ret (v := .tuple #[.agg #[.int .i64 xB, .slice xA xZ.length xC], .int .i64 0]) (by simp [results, Tryd.results100, go_sem, c0, c1]) rfl
    ⟨rfl, (by repeat (first | exact hbel | refine Below.setCell ?_ (by first | omega | (simp <;> omega)) _ | refine Below.alloc ?_ (by first | omega | (simp <;> omega)) _ | refine Below.drew ?_))⟩

set_option maxRecDepth 100000 in
set_option maxHeartbeats 1000000 in
theorem finish_full (xB : Int) (xA : Option Addr) (xC : Nat) (xZ : List Int) (w : World) (ha : Rd w xA xZ) (z : All64 xZ) (b : I64 xB) (h : okB xB xZ = false) :
    Calls Tryd.prog 100 #[.int .i64 xB, .slice xA xZ.length xC] w fun e w' => e = .returned (.tuple #[.agg #[.int .i64 0, .slice none 0 0], .int .i64 5]) ∧ Below w.heap.size w w' := by
  have H := Lib.hid h
  clear h
  go_enter Tryd.func100, Tryd.ntmps100
  go_wp2_with fail
  obtain ⟨u, hu⟩ : ∃ u, u = (w.alloc (.cells #[.int .i64 0, .slice none 0 0] 47)).alloc (.cells #[.int .i64 xB, .slice xA xZ.length xC] 47) := ⟨_, rfl⟩
  rw [← hu]
  have hbel : Below w.heap.size w u := by rw [hu]; exact (by repeat (first | exact Below.refl _ _ | refine Below.setCell ?_ (by first | omega | (simp <;> omega)) _ | refine Below.alloc ?_ (by first | omega | (simp <;> omega)) _ | refine Below.drew ?_))
  have ax : Bx u w.heap.size 47 #[.int .i64 0, .slice none 0 0] := by rw [hu]; exact (Bx.new _ _ _).alloc _
  clear hu
  refine (implValidRegister xB xA xC xZ u (ha.below hbel) z b).mono ?_
  rintro e v ⟨rfl, hb1⟩
  rw [H.out]
  replace ax := ax.below hb1
  replace hbel := hbel.trans (hb1.mono hbel.size)
  clear hb1 u
  have c0 := ax.at_ 0 rfl
  have c1 := ax.at_ 1 rfl
  have f0 := ax.thaw 0
  have f1 := ax.thaw 1
  go_wp2
  exact bodyPost_ret (v := .tuple #[.agg #[.int .i64 0, .slice none 0 0], .int .i64 5]) (by simp [results, Tryd.results100, go_sem, c0, c1]) rfl
    ⟨rfl, (by repeat (first | exact hbel | refine Below.setCell ?_ (by first | omega | (simp <;> omega)) _ | refine Below.alloc ?_ (by first | omega | (simp <;> omega)) _ | refine Below.drew ?_))⟩

set_option maxRecDepth 100000 in
set_option maxHeartbeats 1000000 in
theorem implValueOf (xB : Int) (xA : Option Addr) (xC : Nat) (xZ : List Int) (w : World) (ha : Rd w xA xZ) (z : All64 xZ) (b : I64 xB) :
    Calls Tryd.prog 43 #[.agg #[.int .i64 xB, .slice xA xZ.length xC]] w fun e w' => e = .returned (.tuple #[.int .i64 (vofR xB xZ).1, .int .i64 (vofR xB xZ).2]) ∧ Below w.heap.size w w' := by
  go_enter Tryd.func43, Tryd.ntmps43
  go_wp2_with fail
  obtain ⟨u, hu⟩ : ∃ u, u = w.alloc (.cells #[.int .i64 xB, .slice xA xZ.length xC] 47) := ⟨_, rfl⟩
  rw [← hu]
  have hbel : Below w.heap.size w u := by rw [hu]; exact (by repeat (first | exact Below.refl _ _ | refine Below.setCell ?_ (by first | omega | (simp <;> omega)) _ | refine Below.alloc ?_ (by first | omega | (simp <;> omega)) _ | refine Below.drew ?_))
  have ax : Bx u w.heap.size 47 #[.int .i64 xB, .slice xA xZ.length xC] := by rw [hu]; exact Bx.new _ _ _
  clear hu
  replace ha := ha.below hbel
  refine (implValidRegister xB xA xC xZ u ha z b).mono ?_
  rintro e v ⟨rfl, hb1⟩
  replace ha := ha.below hb1
  replace ax := ax.below hb1
  replace hbel := hbel.trans (hb1.mono hbel.size)
  clear hb1 u
  have c0 := ax.at_ 0 rfl
  have c1 := ax.at_ 1 rfl
  cases h : okB xB xZ with
  | false =>
    have HV := Lib.hid (show vofR xB xZ = (0, 1) by simp [vofR, h])
    go_wp2
    refine bodyPost_ret (v := .tuple #[.int .i64 0, .int .i64 1]) (by simp [results, Tryd.results43, go_sem]) rfl ?_
    exact ⟨by rw [HV.out], hbel⟩
  | true =>
    have HV := Lib.hid (show vofR xB xZ = (valR xB xZ, 0) by simp [vofR, h])
    have HO := Lib.hid (okB_spec h)
    clear h
    go_wp2_with fail
    refine (value_any xB xA xC xZ v HO.out.1 HO.out.2.1 HO.out.2.2.2.2.1 ha).mono ?_
    rintro e w2 ⟨rfl, hb3⟩
    rw [valOr_le HO.out.2.2.2.2.2]
    go_wp2
    refine bodyPost_ret (v := .tuple #[.int .i64 (valR xB xZ), .int .i64 0]) (by simp [results, Tryd.results43, go_sem]) rfl ?_
    exact ⟨by rw [HV.out], hbel.trans (hb3.mono hbel.size)⟩
end Go.Proofs.YtgfopieojpjddaaDoor

/- CarS -/
namespace Go.Proofs.YtgfopieojpjddaaDoor
open Go.RowKit

theorem own_lit1 (e : TypeId) (w : World) (z : Int) : Own e (w.alloc (.cells #[.int .i64 z] e)) w.heap.size (w.heap.size + 1) (.slice (some ⟨w.heap.size, 0, none⟩) 1 1) [z] := by
  refine ⟨⟨by simp, .inr ⟨w.heap.size, 1, #[.int .i64 z], rfl, Nat.le_refl _, heap_alloc_new w _, Nat.le_refl _, by unfold maxLen; omega, by simp, by simp⟩⟩, ?_, by simp⟩
  intro k hk
  simp [Value.ownBlock] at hk
  omega

set_option maxRecDepth 100000 in
set_option maxHeartbeats 1000000 in
theorem l02Carries_any (p q : Nat) (B D : Int) (a b : Option Addr) (c d : Nat) (xs ys : List Int) (w : World) (ha : Rd w a xs) (hb : Rd w b ys) (hB1 : 2 ≤ B) (hB2 : B ≤ 16) (hlen : xs.length ≤ 16) (hl : xs.length = ys.length)
    (hx : ∀ k, k < xs.length → 0 ≤ nth xs k ∧ nth xs k < B) (hy : ∀ k, k < xs.length → 0 ≤ nth ys k ∧ nth ys k < B)
    (hp0 : w.cell? ⟨p, 0, none⟩ = some (.int .i64 B)) (hp1 : w.cell? ⟨p, 1, none⟩ = some (.slice a xs.length c)) (_ : w.cell? ⟨q, 0, none⟩ = some (.int .i64 D)) (hq1 : w.cell? ⟨q, 1, none⟩ = some (.slice b ys.length d)) :
    Calls Tryd.prog 139 #[.pointer (some ⟨p, 0, none⟩), .pointer (some ⟨q, 0, none⟩)] w fun e w' => ∃ A C, e = .returned (.slice A (xs.length + 1) C) ∧
      Own 2 w' w.heap.size w'.heap.size (.slice A (xs.length + 1) C) (tab (cK B xs ys) (xs.length + 1)) ∧ Below w.heap.size w w' := by
  have HL := Lib.hid hl
  have HX := Lib.hid hx
  have HY := Lib.hid hy
  clear hl hx hy
  go_enter Tryd.func139, Tryd.ntmps139
  go_wp2
  go_loopw [5, 6, 7] (fun s cr i wr => ∃ (k : Nat) (A : Option Addr) (C : Nat), k ≤ xs.length ∧ s = .slice A (k + 1) C ∧ cr = .int .i64 (cK B xs ys k) ∧ i = .int .i64 k ∧
      Own 2 wr w.heap.size wr.heap.size (.slice A (k + 1) C) (tab (cK B xs ys) (k + 1)) ∧ Below w.heap.size w wr) (fun _ _ i _ => xs.length - (intOf i).toNat)
  case atStart => exact ⟨0, _, 1, Nat.zero_le _, rfl, rfl, rfl, by simpa [tab, cK] using own_lit1 2 w 0, (Below.refl _ _).alloc (Nat.le_refl _) _⟩
  case round =>
    obtain ⟨k, A, C, hk, rfl, rfl, rfl, hown, hbel⟩ := hrel
    have hp0 := kept hbel hp0
    have hp1 := kept hbel hp1
    have hq1 := kept hbel hq1
    by_cases hlt : k < xs.length
    · obtain ⟨p1, o1, rfl, hc1⟩ := ha.at_ hlt
      have hlt2 : k < ys.length := by rw [← HL.out]; exact hlt
      obtain ⟨p2, o2, rfl, hc2⟩ := hb.at_ hlt2
      have hc1 := kept hbel hc1
      have hc2 := kept hbel hc2
      have hx := HX.out k hlt
      have hy := HY.out k hlt
      have hcb := cK_bd hB1 HX.out HY.out k hk
      have hb0 : ¬ B = 0 := by omega
      have hdiv : (nth xs k + nth ys k + cK B xs ys k).tdiv B = (nth xs k + nth ys k + cK B xs ys k) / B := Int.tdiv_eq_ediv_of_nonneg (by omega)
      have hq : 0 ≤ (nth xs k + nth ys k + cK B xs ys k) / B ∧ (nth xs k + nth ys k + cK B xs ys k) / B ≤ 1 := cK_bd hB1 HX.out HY.out (k + 1) hlt
      have hwr : wrap64 ((nth xs k + nth ys k + cK B xs ys k) / B) = (nth xs k + nth ys k + cK B xs ys k) / B := IntWalk.wrap64_in _ ⟨by omega, by omega⟩
      go_wp2
      go_quiet (fail)
      have HC := Lib.hid (show cK B xs ys (k + 1) = (nth xs k + nth ys k + cK B xs ys k) / B from rfl)
      have HT := Lib.hid (tab_succ (cK B xs ys) (k + 1))
      go_wp2_with (at_builtin; go_must (refine wpList_appI rfl (.tmp 40) (.tmp 42) 45 2 rfl Tryd.underlying45 info_int64 rfl ((hown.drewN nq).alloc _) (tab_len _ _) ⟨wr.heap.size, 0, none⟩ 1 ((nth xs k + nth ys k + cK B xs ys k) / B) rfl (cell_new1 (wr.drewN nq) _ _) (by omega) (by simp; exact Nat.le_succ_of_le hbel.size) ?_); intro A' C' w1 hown1 ht1)
      rw [← HC.out, ← HT.out] at hown1
      go_roundw
      case rel => exact ⟨k + 1, A', C', by omega, rfl, by rw [HC.out], by go_num, hown1, ((bel_drewN hbel nq).alloc (by simpa using hbel.size) _).trans (ht1.below (Nat.le_refl _) (by simp; have := hbel.size; omega))⟩
      case measure => (simp [intOf]) <;> omega
    · obtain rfl : k = xs.length := by omega
      go_wp2
      go_ret
      exact ⟨A, C, rfl, hown, hbel⟩
end Go.Proofs.YtgfopieojpjddaaDoor

/- AddS -/
namespace Go.Proofs.YtgfopieojpjddaaDoor
open Go.RowKit

set_option maxRecDepth 100000 in
set_option maxHeartbeats 2000000 in
theorem l02Add_any (p q : Nat) (B D : Int) (a b : Option Addr) (c d : Nat) (xs ys : List Int) (w : World) (ha : Rd w a xs) (hb : Rd w b ys) (hB1 : 2 ≤ B) (hB2 : B ≤ 16) (hlen : xs.length ≤ 16) (hl : xs.length = ys.length)
    (hx : ∀ k, k < xs.length → 0 ≤ nth xs k ∧ nth xs k < B) (hy : ∀ k, k < xs.length → 0 ≤ nth ys k ∧ nth ys k < B)
    (hp0 : w.cell? ⟨p, 0, none⟩ = some (.int .i64 B)) (hp1 : w.cell? ⟨p, 1, none⟩ = some (.slice a xs.length c)) (hq0 : w.cell? ⟨q, 0, none⟩ = some (.int .i64 D)) (hq1 : w.cell? ⟨q, 1, none⟩ = some (.slice b ys.length d)) :
    Calls Tryd.prog 106 #[.pointer (some ⟨p, 0, none⟩), .pointer (some ⟨q, 0, none⟩)] w fun e w' => ∃ A C, e = .returned (.tuple #[.agg #[.int .i64 B, .slice A xs.length C], .int .i64 (cK B xs ys xs.length)]) ∧
      Own 2 w' w.heap.size w'.heap.size (.slice A xs.length C) (tab (sumD B xs ys) xs.length) ∧ Below w.heap.size w w' := by
  have HL := Lib.hid hl
  have HX := Lib.hid hx
  have HY := Lib.hid hy
  clear hl hx hy
  have hb1 : Below w.heap.size w (w.alloc (.cells #[.int .i64 0, .slice none 0 0] 47)) := (Below.refl _ _).alloc (Nat.le_refl _) _
  go_enter Tryd.func106, Tryd.ntmps106
  go_wp2_with fail
  refine (l02Carries_any p q B D a b c d xs ys _ (ha.below hb1) (hb.below hb1) hB1 hB2 hlen HL.out HX.out HY.out (kept hb1 hp0) (kept hb1 hp1) (kept hb1 hq0) (kept hb1 hq1)).mono ?_
  rintro e v ⟨A0, C0, rfl, ho0, hb2⟩
  have hbv := hb1.trans (hb2.mono hb1.size)
  have r0 := (Bx.new w #[.int .i64 0, .slice none 0 0] 47).below hb2
  replace ho0 := ho0.wide (lo' := w.heap.size + 1) (hi' := v.heap.size) (by simp) (Nat.le_refl _)
  have hvs : w.heap.size + 1 ≤ v.heap.size := by have := hb2.size; simpa using this
  have hp0v := kept hbv hp0
  clear hb1 hb2
  go_wp2
  go_loopw [8] (fun i wr => ∃ (k : Nat) (A : Option Addr) (C : Nat), k ≤ xs.length ∧ i = .int .i64 k ∧ Bx wr v.heap.size 47 #[.int .i64 B, .slice A k C] ∧
      Own 2 wr (v.heap.size + 1) wr.heap.size (.slice A k C) (tab (sumD B xs ys) k) ∧ Below v.heap.size v wr) (fun i _ => xs.length - (intOf i).toNat)
  case atStart => exact ⟨0, none, 0, Nat.zero_le _, rfl, Bx.new _ _ _, own_nil _ _ _ _, (Below.refl _ _).alloc (Nat.le_refl _) _⟩
  case round =>
    obtain ⟨k, A, C, hk, rfl, bx, hown, hbel⟩ := hrel
    have hbw := hbv.trans (hbel.mono hbv.size)
    have e1 := kept hbw hp0
    have e2 := kept hbw hp1
    have e3 := kept hbw hq1
    have hsz := bx.lt
    by_cases hlt : k < xs.length
    · obtain ⟨p1, o1, rfl, hc1⟩ := ha.at_ hlt
      have hlt2 : k < ys.length := by rw [← HL.out]; exact hlt
      obtain ⟨p2, o2, rfl, hc2⟩ := hb.at_ hlt2
      have hlt3 : k < xs.length + 1 := by omega
      obtain ⟨p3, o3, rfl, hc3⟩ := ho0.rd.at_ (k := k) (by rw [tab_len]; omega)
      rw [tab_nth (by omega)] at hc3
      have hx := HX.out k hlt
      have hy := HY.out k hlt
      have hcb := cK_bd hB1 HX.out HY.out k hk
      have hb0 : ¬ B = 0 := by omega
      have hrem : (nth xs k + nth ys k + cK B xs ys k).tmod B = (nth xs k + nth ys k + cK B xs ys k) % B := Int.tmod_eq_emod_of_nonneg (by omega)
      have hi3 : (k : Int) < (xs.length : Int) + 1 := by omega
      have hw1 : IntKind.i64.wrap (nth xs k + nth ys k) = nth xs k + nth ys k := IntWalk.i64_in _ (by omega)
      have hw2 : IntKind.i64.wrap (nth xs k + nth ys k + cK B xs ys k) = nth xs k + nth ys k + cK B xs ys k := IntWalk.i64_in _ (by omega)
      have hwL : w.heap.size ≤ v.heap.size + 1 := by omega
      have g0 := arg_lo hp0 hbw hwL
      have g1 := arg_lo hp1 hbw hwL
      have g2 := arg_lo hq1 hbw hwL
      have g3 := arg_lo hc1 hbw hwL
      have g4 := arg_lo hc2 hbw hwL
      have g5 := arg_lo hc3 hbel (Nat.le_succ _)
      have g6 := kept_lo (L := v.heap.size + 1) (bx.at_ 1 rfl) (by omega)
      go_wp2
      refine wp_region_marked (fun w' => Below (v.heap.size + 1) wr w') 30 (by kernel_rfl) ?_
      have hS : Below (v.heap.size + 1) wr wr.drew := (Below.refl _ _).drew
      refine wpAnyM_take (i := 0) (v := ?_) rfl (by kernel_rfl) (by kernel_rfl) (by kernel_rfl) (by kernel_rfl) (by kernel_rfl) (fun _ _ _ h => h) hS (.inl ⟨by rfl, ?_⟩) ?_
      rotate_left 1
      · intro w' hS'; go_simp; try with_reducible rfl
      simp only [Act.put, List.setIfInBounds_toArray]
      refine wpAnyM_take (i := 1) (v := ?_) rfl (by kernel_rfl) (by kernel_rfl) (by kernel_rfl) (by kernel_rfl) (by kernel_rfl) (fun _ _ _ h => h) hS (.inl ⟨by rfl, ?_⟩) ?_
      rotate_left 1
      · intro w' hS'; go_simp; try with_reducible rfl
      simp only [Act.put]
      refine wpAnyM_take (i := 2) (v := ?_) rfl (by kernel_rfl) (by kernel_rfl) (by kernel_rfl) (by kernel_rfl) (by kernel_rfl) (fun _ _ _ h => h) hS (.inl ⟨by rfl, ?_⟩) ?_
      rotate_left 1
      · intro w' hS'; go_simp; try with_reducible rfl
      simp only [Act.put]
      refine wpAnyM_take (i := 3) (v := ?_) rfl (by kernel_rfl) (by kernel_rfl) (by kernel_rfl) (by kernel_rfl) (by kernel_rfl) (fun _ _ _ h => h) hS (.inl ⟨by rfl, ?_⟩) ?_
      rotate_left 1
      · intro w' hS'; go_simp; try with_reducible rfl
      simp only [Act.put]
      refine wpAnyM_take (i := 4) (v := ?_) rfl (by kernel_rfl) (by kernel_rfl) (by kernel_rfl) (by kernel_rfl) (by kernel_rfl) (fun _ _ _ h => h) hS (.inl ⟨by rfl, ?_⟩) ?_
      rotate_left 1
      · intro w' hS'; go_simp; try with_reducible rfl
      simp only [Act.put]
      refine wpAnyM_take (i := 5) (v := ?_) rfl (by kernel_rfl) (by kernel_rfl) (by kernel_rfl) (by kernel_rfl) (by kernel_rfl) (fun _ _ _ h => h) hS (.inl ⟨by rfl, ?_⟩) ?_
      rotate_left 1
      · intro w' hS'; go_simp; try with_reducible rfl
      simp only [Act.put]
      refine wpAnyM_take (i := 6) (v := ?_) rfl (by kernel_rfl) (by kernel_rfl) (by kernel_rfl) (by kernel_rfl) (by kernel_rfl) (fun _ _ _ h => h) hS (.inl ⟨by rfl, ?_⟩) ?_
      rotate_left 1
      · intro w' hS'; go_simp; try with_reducible rfl
      simp only [Act.put]
      refine wpAnyM_take (i := 7) (v := ?_) rfl (by kernel_rfl) (by kernel_rfl) (by kernel_rfl) (by kernel_rfl) (by kernel_rfl) (fun _ _ _ h => h) hS (.inl ⟨by rfl, ?_⟩) ?_
      rotate_left 1
      · intro w' hS'; go_simp; try with_reducible rfl
      simp only [Act.put]
      refine wpAnyM_take (i := 8) (v := ?_) rfl (by kernel_rfl) (by kernel_rfl) (by kernel_rfl) (by kernel_rfl) (by kernel_rfl) (fun _ _ _ h => h) hS (.inl ⟨by rfl, ?_⟩) ?_
      rotate_left 1
      · intro w' hS'; go_simp; try with_reducible rfl
      simp only [Act.put]
      refine wpAnyM_take (i := 9) (v := ?_) rfl (by kernel_rfl) (by kernel_rfl) (by kernel_rfl) (by kernel_rfl) (by kernel_rfl) (fun _ _ _ h => h) hS (.inl ⟨by rfl, ?_⟩) ?_
      rotate_left 1
      · intro w' hS'; go_simp; try with_reducible rfl
      simp only [Act.put]
      refine wpAnyM_take (i := 10) (v := ?_) rfl (by kernel_rfl) (by kernel_rfl) (by kernel_rfl) (by kernel_rfl) (by kernel_rfl) (fun _ _ _ h => h) hS (.inl ⟨by rfl, ?_⟩) ?_
      rotate_left 1
      · intro w' hS'; go_simp; try with_reducible rfl
      simp only [Act.put]
      refine wpAnyM_take (i := 11) (v := ?_) rfl (by kernel_rfl) (by kernel_rfl) (by kernel_rfl) (by kernel_rfl) (by kernel_rfl) (fun _ _ _ h => h) hS (.inl ⟨by rfl, ?_⟩) ?_
      rotate_left 1
      · intro w' hS'; go_simp; try with_reducible rfl
      simp only [Act.put]
      refine wpAnyM_take (i := 12) (v := ?_) rfl (by kernel_rfl) (by kernel_rfl) (by kernel_rfl) (by kernel_rfl) (by kernel_rfl) (fun _ _ _ h => h) hS (.inl ⟨by rfl, ?_⟩) ?_
      rotate_left 1
      · intro w' hS'; go_simp; try with_reducible rfl
      simp only [Act.put]
      refine wpAnyM_take (i := 13) (v := ?_) rfl (by kernel_rfl) (by kernel_rfl) (by kernel_rfl) (by kernel_rfl) (by kernel_rfl) (fun _ _ _ h => h) hS (.inl ⟨by rfl, ?_⟩) ?_
      rotate_left 1
      · intro w' hS'; go_simp; try with_reducible rfl
      simp only [Act.put]
      refine wpAnyM_take (i := 14) (v := ?_) rfl (by kernel_rfl) (by kernel_rfl) (by kernel_rfl) (by kernel_rfl) (by kernel_rfl) (fun _ _ _ h => h) hS (.inl ⟨by rfl, ?_⟩) ?_
      rotate_left 1
      · intro w' hS'; go_simp; try with_reducible rfl
      simp only [Act.put]
      refine wpAnyM_take (i := 15) (v := ?_) rfl (by kernel_rfl) (by kernel_rfl) (by kernel_rfl) (by kernel_rfl) (by kernel_rfl) (fun _ _ _ h => h) hS (.inl ⟨by rfl, ?_⟩) ?_
      rotate_left 1
      · intro w' hS'; go_simp; try with_reducible rfl
      simp only [Act.put]
      refine wpAnyM_take (i := 16) (v := ?_) rfl (by kernel_rfl) (by kernel_rfl) (by kernel_rfl) (by kernel_rfl) (by kernel_rfl) (fun _ _ _ h => h) hS (.inl ⟨by rfl, ?_⟩) ?_
      rotate_left 1
      · intro w' hS'; go_simp; try with_reducible rfl
      simp only [Act.put]
      refine wpAnyM_take (i := 17) (v := ?_) rfl (by kernel_rfl) (by kernel_rfl) (by kernel_rfl) (by kernel_rfl) (by kernel_rfl) (fun _ _ _ h => h) hS (.inl ⟨by rfl, ?_⟩) ?_
      rotate_left 1
      · intro w' hS'; go_simp; try with_reducible rfl
      simp only [Act.put]
      refine wpAnyM_take (i := 18) (v := ?_) rfl (by kernel_rfl) (by kernel_rfl) (by kernel_rfl) (by kernel_rfl) (by kernel_rfl) (fun _ _ _ h => h) hS (.inl ⟨by rfl, ?_⟩) ?_
      rotate_left 1
      · intro w' hS'; go_simp; try with_reducible rfl
      simp only [Act.put]
      refine wpAnyM_take (i := 19) (v := ?_) rfl (by kernel_rfl) (by kernel_rfl) (by kernel_rfl) (by kernel_rfl) (by kernel_rfl) (fun _ _ _ h => h) hS (.inl ⟨by rfl, ?_⟩) ?_
      rotate_left 1
      · intro w' hS'; go_simp; try with_reducible rfl
      simp only [Act.put]
      refine wpAnyM_take (i := 20) (v := ?_) rfl (by kernel_rfl) (by kernel_rfl) (by kernel_rfl) (by kernel_rfl) (by kernel_rfl) (fun _ _ _ h => h) hS (.inl ⟨by rfl, ?_⟩) ?_
      rotate_left 1
      · intro w' hS'; go_simp; try with_reducible rfl
      simp only [Act.put]
      refine wpAnyM_take (i := 21) (v := ?_) rfl (by kernel_rfl) (by kernel_rfl) (by kernel_rfl) (by kernel_rfl) (by kernel_rfl) (fun _ _ _ h => h) hS (.inl ⟨by rfl, ?_⟩) ?_
      rotate_left 1
      · intro w' hS'; go_simp; try with_reducible rfl
      simp only [Act.put]
      refine wpAnyM_take (i := 22) (v := ?_) rfl (by kernel_rfl) (by kernel_rfl) (by kernel_rfl) (by kernel_rfl) (by kernel_rfl) (fun _ _ _ h => h) hS (.inl ⟨by rfl, ?_⟩) ?_
      rotate_left 1
      · intro w' hS'; go_simp; try with_reducible rfl
      simp only [Act.put]
      refine wpAnyM_take (i := 23) (v := ?_) rfl (by kernel_rfl) (by kernel_rfl) (by kernel_rfl) (by kernel_rfl) (by kernel_rfl) (fun _ _ _ h => h) hS (.inl ⟨by rfl, ?_⟩) ?_
      rotate_left 1
      · intro w' hS'; go_simp; try with_reducible rfl
      simp only [Act.put]
      refine wpAnyM_take (i := 24) (v := ?_) rfl (by kernel_rfl) (by kernel_rfl) (by kernel_rfl) (by kernel_rfl) (by kernel_rfl) (fun _ _ _ h => h) hS (.inl ⟨by rfl, ?_⟩) ?_
      rotate_left 1
      · intro w' hS'; go_simp; try with_reducible rfl
      simp only [Act.put]
      refine wpAnyM_take (i := 25) (v := ?_) rfl (by kernel_rfl) (by kernel_rfl) (by kernel_rfl) (by kernel_rfl) (by kernel_rfl) (fun _ _ _ h => h) hS (.inl ⟨by rfl, ?_⟩) ?_
      rotate_left 1
      · intro w' hS'; go_simp; try with_reducible rfl
      simp only [Act.put]
      refine wpAnyM_take (i := 26) (v := ?_) rfl (by kernel_rfl) (by kernel_rfl) (by kernel_rfl) (by kernel_rfl) (by kernel_rfl) (fun _ _ _ h => h) hS (.inl ⟨by rfl, ?_⟩) ?_
      rotate_left 1
      · intro w' hS'; go_simp; try with_reducible rfl
      simp only [Act.put]
      refine wpAnyM_one (i := 27) (by kernel_rfl) rfl (by rfl) (fun K hK => ?_)
      go_simp
      replace hS := hS.alloc (by simp <;> omega) (.cells #[.int .i64 ((nth xs k + nth ys k + cK B xs ys k) % B)] 2)
      refine hK _ _ (.inr hS) ?_
      clear hK K
      try simp only [Act.put, List.setIfInBounds_toArray]
      refine wpAnyM_one (i := 28) (by kernel_rfl) rfl (by rfl) (fun K hK => ?_)
      refine wp_appI (.tmp 27) (.tmp 53) 45 2 rfl Tryd.underlying45 info_int64 rfl ((hown.drew).alloc _) (tab_len _ _) ⟨wr.heap.size, 0, none⟩ 1 ((nth xs k + nth ys k + cK B xs ys k) % B) rfl (by go_simp) (by omega) (by simp <;> omega) ?_
      intro A' C' w1 hown1 ht1
      replace hS : Below (v.heap.size + 1) wr w1 := hS.trans (ht1.below (Nat.le_refl _) (by simp <;> omega))
      have dx1 := bx.lo hS (by omega)
      have dc1 := dx1.at_ 1 rfl
      have df1 := dx1.thaw 1
      refine hK _ _ (.inr hS) ?_
      try simp only [Act.put, List.setIfInBounds_toArray]
      clear hK K
      refine wpAnyM_take (i := 29) (v := ?_) rfl (by kernel_rfl) (by kernel_rfl) (by kernel_rfl) (by kernel_rfl) (by kernel_rfl) (fun _ _ _ h => h) hS (.inl ⟨by rfl, ?_⟩) ?_
      rotate_left 1
      · intro w' hS'; go_simp; try with_reducible rfl
      simp only [Act.put]
      refine wpAnyM_one (i := 30) (by kernel_rfl) rfl (by rfl) (fun K hK => ?_)
      go_simp
      refine hK _ _ (.inl rfl) ?_
      clear hK K
      refine wpAnyM_done (by kernel_rfl) ?_ _
      rw [← show sumD B xs ys k = (nth xs k + nth ys k + cK B xs ys k) % B from rfl, ← tab_succ] at hown1
      go_wp2
      go_roundw
      case rel => exact ⟨k + 1, A', C', by omega, by go_num, by simpa using dx1.set_ 1 (.slice A' (k + 1) C'), (hown1.setCell (p := ⟨v.heap.size, 1, none⟩) (.inl (by simp)) _).wide (Nat.le_refl _) (by simp), (hbel.trans (hS.mono (Nat.le_succ _))).setCell (p := ⟨v.heap.size, 1, none⟩) (by simp) _⟩
      case measure => (simp [intOf]) <;> omega
    · obtain rfl : k = xs.length := by omega
      have hp1w := kept hbw hp1
      have b0 := bx.at_ 0 rfl
      have b1 := bx.at_ 1 rfl
      obtain ⟨p3, o3, rfl, hc3⟩ := ho0.rd.at_ (k := xs.length) (by rw [tab_len]; omega)
      rw [tab_nth (by omega)] at hc3
      replace hc3 := kept hbel hc3
      have r1 := r0.below hbel
      have t0 := r1.at_ 0 rfl
      have t1 := r1.at_ 1 rfl
      have tf0 := r1.thaw 0
      have tf1 := r1.thaw 1
      have hi3 : (xs.length : Int) < (xs.length : Int) + 1 := by omega
      have hne : v.heap.size ≠ w.heap.size := by omega
      have hp3 : p3 ≠ w.heap.size := by
        have hrow := ho0.row.lt p3 rfl
        omega
      have hpp : p ≠ w.heap.size := by have := World.block_lt_of_cell? _ _ hp1; simp at this; omega
      go_wp2
      refine wp_region_marked (fun w' => w'.cell? ⟨v.heap.size, 0, none⟩ = some (.int .i64 B) ∧ w'.cell? ⟨v.heap.size, 1, none⟩ = some (.slice A xs.length C) ∧ w'.cell? ⟨p, 1, none⟩ = some (.slice a xs.length c) ∧ w'.cell? ⟨p3, o3 + xs.length, none⟩ = some (.int .i64 (cK B xs ys xs.length))) 10 (by kernel_rfl) ?_
      have hS := And.intro b0 (And.intro b1 (And.intro hp1w hc3))
      refine wpAnyM_take (i := 0) (v := ?_) rfl (by kernel_rfl) (by kernel_rfl) (by kernel_rfl) (by kernel_rfl) (by kernel_rfl) (fun _ _ _ h => h) hS (.inl ⟨by rfl, ?_⟩) ?_
      rotate_left 1
      · intro w' hS'; go_simp; try with_reducible rfl
      simp only [Act.put, List.setIfInBounds_toArray]
      refine wpAnyM_take (i := 1) (v := ?_) rfl (by kernel_rfl) (by kernel_rfl) (by kernel_rfl) (by kernel_rfl) (by kernel_rfl) (fun _ _ _ h => h) hS (.inl ⟨by rfl, ?_⟩) ?_
      rotate_left 1
      · intro w' hS'; go_simp; try with_reducible rfl
      simp only [Act.put]
      refine wpAnyM_take (i := 2) (v := ?_) rfl (by kernel_rfl) (by kernel_rfl) (by kernel_rfl) (by kernel_rfl) (by kernel_rfl) (fun _ _ _ h => h) hS (.inl ⟨by rfl, ?_⟩) ?_
      rotate_left 1
      · intro w' hS'; go_simp; try with_reducible rfl
      simp only [Act.put]
      refine wpAnyM_take (i := 3) (v := ?_) rfl (by kernel_rfl) (by kernel_rfl) (by kernel_rfl) (by kernel_rfl) (by kernel_rfl) (fun _ _ _ h => h) hS (.inl ⟨by rfl, ?_⟩) ?_
      rotate_left 1
      · intro w' hS'; go_simp; try with_reducible rfl
      simp only [Act.put]
      refine wpAnyM_take (i := 4) (v := ?_) rfl (by kernel_rfl) (by kernel_rfl) (by kernel_rfl) (by kernel_rfl) (by kernel_rfl) (fun _ _ _ h => h) hS (.inl ⟨by rfl, ?_⟩) ?_
      rotate_left 1
      · intro w' hS'; go_simp; try with_reducible rfl
      simp only [Act.put]
      refine wpAnyM_take (i := 5) (v := ?_) rfl (by kernel_rfl) (by kernel_rfl) (by kernel_rfl) (by kernel_rfl) (by kernel_rfl) (fun _ _ _ h => h) hS (.inl ⟨by rfl, ?_⟩) ?_
      rotate_left 1
      · intro w' hS'; go_simp; try with_reducible rfl
      simp only [Act.put]
      refine wpAnyM_take (i := 6) (v := ?_) rfl (by kernel_rfl) (by kernel_rfl) (by kernel_rfl) (by kernel_rfl) (by kernel_rfl) (fun _ _ _ h => h) hS (.inl ⟨by rfl, ?_⟩) ?_
      rotate_left 1
      · intro w' hS'; go_simp; try with_reducible rfl
      simp only [Act.put]
      refine wpAnyM_take (i := 7) (v := ?_) rfl (by kernel_rfl) (by kernel_rfl) (by kernel_rfl) (by kernel_rfl) (by kernel_rfl) (fun _ _ _ h => h) hS (.inl ⟨by rfl, ?_⟩) ?_
      rotate_left 1
      · intro w' hS'; go_simp; try with_reducible rfl
      simp only [Act.put]
      refine wpAnyM_take (i := 8) (v := ?_) rfl (by kernel_rfl) (by kernel_rfl) (by kernel_rfl) (by kernel_rfl) (by kernel_rfl) (fun _ _ _ h => h) hS (.inl ⟨by rfl, ?_⟩) ?_
      rotate_left 1
      · intro w' hS'; go_simp; try with_reducible rfl
      simp only [Act.put]
      refine wpAnyM_one (i := 9) (by kernel_rfl) rfl (by rfl) (fun K hK => ?_)
      go_simp
      refine hK _ _ (.inr ⟨cell_far (cell_far b0 hne _) hne _, cell_far (cell_far b1 hne _) hne _, cell_far (cell_far hp1w hpp _) hpp _, cell_far (cell_far hc3 hp3 _) hp3 _⟩) ?_
      try simp only [Act.put, List.setIfInBounds_toArray]
      clear hK K
      refine wpAnyM_one (i := 10) (by kernel_rfl) rfl (by rfl) (fun K hK => ?_)
      go_simp
      refine hK _ _ (.inl rfl) ?_
      clear hK K
      refine wpAnyM_done (by kernel_rfl) ?_ _
      go_wp2
      refine bodyPost_ret (v := .tuple #[.agg #[.int .i64 B, .slice A xs.length C], .int .i64 (cK B xs ys xs.length)]) (by simp [results, Tryd.results106, go_sem, t0, t1]) rfl
        ⟨A, C, rfl, ((hown.drew.setCell (p := ⟨w.heap.size, 0, none⟩) (.inl (by simp <;> omega)) _).setCell (p := ⟨w.heap.size, 1, none⟩) (.inl (by simp <;> omega)) _).wide (by omega) (by simp), ?_⟩
      exact (hbw.drew.setCell (p := ⟨w.heap.size, 0, none⟩) (by simp) _).setCell (p := ⟨w.heap.size, 1, none⟩) (by simp) _
end Go.Proofs.YtgfopieojpjddaaDoor

/- SubS -/
namespace Go.Proofs.YtgfopieojpjddaaDoor
open Go.RowKit

end Go.Proofs.YtgfopieojpjddaaDoor

/- PairS -/
namespace Go.Proofs.YtgfopieojpjddaaDoor
open Go.RowKit

set_option maxRecDepth 100000 in
set_option maxHeartbeats 1000000 in
theorem specValueOf (xB : Int) (xA : Option Addr) (xC : Nat) (xZ : List Int) (w : World) (ha : Rd w xA xZ) (_ : All64 xZ) (_ : I64 xB) :
    Calls Tryd.prog 52 #[.agg #[.int .i64 xB, .slice xA xZ.length xC]] w fun e w' => e = .returned (.tuple #[.int .i64 (vofR xB xZ).1, .int .i64 (vofR xB xZ).2]) ∧ Below w.heap.size w w' := by
  have hbel : Below w.heap.size w (w.alloc (.cells #[.int .i64 xB, .slice xA xZ.length xC] 47)) := (Below.refl _ _).alloc (Nat.le_refl _) _
  cases h : okB xB xZ with
  | false =>
    have HV := Lib.hid (show vofR xB xZ = (0, 1) by simp [vofR, h])
    have H := Lib.hid h
    clear h
    go_enter Tryd.func52, Tryd.ntmps52
    go_wp2_with fail
    refine (l02Ok_at0 w.heap.size xB xA xC xZ _ H.out (ha.below hbel) (by go_simp) (by go_simp)).mono ?_
    rintro e w1 ⟨rfl, n, rfl⟩
    go_wp2
    refine bodyPost_ret (v := .tuple #[.int .i64 0, .int .i64 1]) (by simp [results, Tryd.results52, go_sem]) rfl ?_
    exact ⟨by rw [HV.out], bel_drewN hbel _⟩
  | true =>
    have HV := Lib.hid (show vofR xB xZ = (valR xB xZ, 0) by simp [vofR, h])
    have H := Lib.hid h
    have HO := Lib.hid (okB_spec h)
    clear h
    go_enter Tryd.func52, Tryd.ntmps52
    go_wp2_with fail
    refine (l02Ok_at0 w.heap.size xB xA xC xZ _ H.out (ha.below hbel) (by go_simp) (by go_simp)).mono ?_
    rintro e w1 ⟨rfl, n, rfl⟩
    go_wp2_with (go_at_call 103; refine (l02Value_any xB xA xC xZ _ ((ha.below hbel).drewN n) HO.out.1 HO.out.2.1 HO.out.2.2.2.2.1).mono ?_; rintro e w1 ⟨rfl, rfl⟩)
    refine bodyPost_ret (v := .tuple #[.int .i64 (capV xB xZ), .int .i64 0]) (by simp [results, Tryd.results52, go_sem]) rfl ?_
    exact ⟨by rw [HV.out, capV_ok HO.out.1 HO.out.2.2.2.2.1 HO.out.2.2.2.2.2], bel_drewN hbel _⟩

end Go.Proofs.YtgfopieojpjddaaDoor

/- ArS -/
namespace Go.Proofs.YtgfopieojpjddaaDoor
open Go.RowKit

/-- What a call of AddRegisters leaves. -/
def addRPost (b : Int) (xs : List Int) (d : Int) (ys : List Int) (w : World) (e : Ending) (w' : World) : Prop := ∃ A C,
  e = .returned (.tuple #[.agg #[.int .i64 (addR b xs d ys).1, .slice A (addR b xs d ys).2.1.length C], .int .i64 (addR b xs d ys).2.2.1, .int .i64 (addR b xs d ys).2.2.2]) ∧ Own 2 w' w.heap.size w'.heap.size (.slice A (addR b xs d ys).2.1.length C) (addR b xs d ys).2.1 ∧ Below w.heap.size w w'
theorem addRPost_err {b d c : Int} {xs ys : List Int} {w w' : World} {e : Ending} (h : addR b xs d ys = (0, [], 0, c)) (he : e = .returned (.tuple #[.agg #[.int .i64 0, .slice none 0 0], .int .i64 0, .int .i64 c])) (hb : Below w.heap.size w w') : addRPost b xs d ys w e w' := by
  refine ⟨none, 0, ?_, ?_, hb⟩
  · rw [h]; exact he
  · rw [h]; exact own_nil _ _ _ _
theorem addRPost_ok {b d k : Int} {xs ys zs : List Int} {m : Nat} {w w' : World} {A : Option Addr} {C lo hi : Nat} {e : Ending} (h : addR b xs d ys = (b, zs, k, 0)) (hm : zs.length = m) (he : e = .returned (.tuple #[.agg #[.int .i64 b, .slice A m C], .int .i64 k, .int .i64 0]))
    (ho : Own 2 w' lo hi (.slice A m C) zs) (hl : w.heap.size ≤ lo) (hh : hi ≤ w'.heap.size) (hb : Below w.heap.size w w') : addRPost b xs d ys w e w' := by
  subst hm
  refine ⟨A, C, ?_, ?_, hb⟩
  · rw [h]; exact he
  · rw [h]; exact ho.wide hl hh

set_option maxRecDepth 100000 in
set_option maxHeartbeats 1000000 in
theorem specAddRegisters (xB : Int) (xA : Option Addr) (xC : Nat) (xZ : List Int) (yB : Int) (yA : Option Addr) (yC : Nat) (yZ : List Int) (w : World) (ha : Rd w xA xZ) (_ : All64 xZ) (_ : I64 xB) (hb : Rd w yA yZ) (_ : All64 yZ) (_ : I64 yB) :
    Calls Tryd.prog 54 #[.agg #[.int .i64 xB, .slice xA xZ.length xC], .agg #[.int .i64 yB, .slice yA yZ.length yC]] w (addRPost xB xZ yB yZ w) := by
  have hx16 := fun h : twoE xB xZ yB yZ = 0 => okB_spec (twoE_zero h).1
  go_enter Tryd.func54, Tryd.ntmps54
  go_wp2_with fail
  obtain ⟨u, hu⟩ : ∃ u, u = ((w.alloc (.cells #[.int .i64 xB, .slice xA xZ.length xC] 47)).alloc (.cells #[.int .i64 yB, .slice yA yZ.length yC] 47)).alloc (.cells #[.int .i64 0, .slice none 0 0] 47) := ⟨_, rfl⟩
  rw [← hu]
  have hbel : Below w.heap.size w u := by rw [hu]; exact (by repeat (first | exact Below.refl _ _ | refine Below.setCell ?_ (by first | omega | (simp <;> omega)) _ | refine Below.alloc ?_ (by first | omega | (simp <;> omega)) _ | refine Below.drew ?_))
  have c0 : u.cell? ⟨w.heap.size, 0, none⟩ = some (.int .i64 xB) := by rw [hu]; go_simp
  have c1 : u.cell? ⟨w.heap.size, 1, none⟩ = some (.slice xA xZ.length xC) := by rw [hu]; go_simp
  have d0 : u.cell? ⟨w.heap.size + 1, 0, none⟩ = some (.int .i64 yB) := by rw [hu]; go_simp
  have d1 : u.cell? ⟨w.heap.size + 1, 1, none⟩ = some (.slice yA yZ.length yC) := by rw [hu]; go_simp
  have bx : Bx u (w.heap.size + 2) 47 #[.int .i64 0, .slice none 0 0] := by rw [hu]; simpa using Bx.new ((w.alloc (.cells #[.int .i64 xB, .slice xA xZ.length xC] 47)).alloc (.cells #[.int .i64 yB, .slice yA yZ.length yC] 47)) #[.int .i64 0, .slice none 0 0] 47
  have r0 := bx.at_ 0 rfl
  have r1 := bx.at_ 1 rfl
  have f0 := bx.thaw 0
  have f1 := bx.thaw 1
  have hus := bx.lt
  replace ha := ha.below hbel
  replace hb := hb.below hbel
  clear hu
  refine (l02Two_any w.heap.size (w.heap.size + 1) xB yB xA yA xC yC xZ yZ u ha hb c0 c1 d0 d1).mono ?_
  rintro e w1 ⟨rfl, n, rfl⟩
  by_cases h : twoE xB xZ yB yZ = 0
  · have HX := Lib.hid (hx16 h)
    have HW := Lib.hid (twoE_zero h)
    have ht : (twoE xB xZ yB yZ != 0) = false := by simp [h]
    have H := Lib.hid h
    clear h hx16
    go_wp2_with fail
    refine (l02Add_any w.heap.size (w.heap.size + 1) xB yB xA yA xC yC xZ yZ _ (ha.drewN n) (hb.drewN n) HX.out.1 HX.out.2.1 HX.out.2.2.2.1 HW.out.2.2.2 (digit_of_ok HW.out.1) (by have h1 := HW.out.2.2; intro k hk; have h2 := digit_of_ok HW.out.2.1 k (by omega); omega) c0 c1 d0 d1).mono ?_
    rintro e w1 ⟨A, C, rfl, hown, hb1⟩
    have bx1 := (bx.drewN n).below hb1
    have hb2 := (bel_drewN hbel n).trans (hb1.mono (by have := hbel.size; simpa using this))
    have hs1 := bx1.lt
    have r0 := bx1.at_ 0 rfl
    have r1 := bx1.at_ 1 rfl
    have f0 := bx1.thaw 0
    have f1 := bx1.thaw 1
    go_wp2_with fail
    obtain ⟨v, hv⟩ : ∃ v, v = w1.alloc (.cells #[.int .i64 xB, .slice A xZ.length C] 47) := ⟨_, rfl⟩
    have hb3 : Below w1.heap.size w1 v := by rw [hv]; exact (Below.refl _ _).alloc (Nat.le_refl _) _
    have bx2 := bx1.below hb3
    have by2 : Bx v w1.heap.size 47 #[.int .i64 xB, .slice A xZ.length C] := by rw [hv]; exact Bx.new _ _ _
    have hown2 : Own 2 v u.heap.size w1.heap.size (.slice A (tab (sumD xB xZ yZ) xZ.length).length C) (tab (sumD xB xZ yZ) xZ.length) := by rw [hv, tab_len]; exact hown.alloc _
    have hb4 := hb2.trans (hb3.mono hb2.size)
    rw [← hv]
    clear hv hb3 hown
    have hs2 := by2.lt
    have r0 := bx2.at_ 0 rfl
    have r1 := bx2.at_ 1 rfl
    have f0 := bx2.thaw 0
    have f1 := bx2.thaw 1
    have o0 := by2.at_ 0 rfl
    have o1 := by2.at_ 1 rfl
    have hR := hown2.rd
    rw [show (#[Value.int .i64 xB, .slice A xZ.length C] : Array Value)[1] = .slice A (tab (sumD xB xZ yZ) xZ.length).length C by rw [tab_len]; rfl] at o1
    by_cases hk : okB xB (tab (sumD xB xZ yZ) xZ.length) = true
    · have HR := Lib.hid (show addR xB xZ yB yZ = (xB, tab (sumD xB xZ yZ) xZ.length, cK xB xZ yZ xZ.length, 0) by simp [addR, H.out, hk])
      refine (l02Ok_at0 w1.heap.size xB A C (tab (sumD xB xZ yZ) xZ.length) v hk hR o0 o1).mono ?_
      rintro e w2 ⟨rfl, n', rfl⟩
      have HK := Lib.hid hk
      clear hk H hR
      go_wp2
      exact bodyPost_ret (v := .tuple #[.agg #[.int .i64 xB, .slice A (tab (sumD xB xZ yZ) xZ.length).length C], .int .i64 (cK xB xZ yZ xZ.length), .int .i64 0]) (by simp [results, Tryd.results54, go_sem, r0, r1]) rfl
        (addRPost_ok HR.out rfl rfl (lo := u.heap.size) (hi := w1.heap.size) (((hown2.drewN n').setCell (p := ⟨w.heap.size + 1 + 1, 0, none⟩) (.inl hus) _).setCell (p := ⟨w.heap.size + 1 + 1, 1, none⟩) (.inl hus) _) hbel.size (by simp; omega) (by repeat (first | exact bel_drewN hb4 n' | refine Below.setCell ?_ (by first | omega | (simp <;> omega)) _ | refine Below.alloc ?_ (by first | omega | (simp <;> omega)) _ | refine Below.drew ?_)))
    · have HR := Lib.hid (show addR xB xZ yB yZ = (0, [], 0, 5) by simp [addR, H.out, hk])
      refine (l02Ok_at0 (v := false) w1.heap.size xB A C (tab (sumD xB xZ yZ) xZ.length) v (by simpa using hk) hR o0 o1).mono ?_
      rintro e w2 ⟨rfl, n', rfl⟩
      clear hk H hR
      go_wp2
      exact bodyPost_ret (v := .tuple #[.agg #[.int .i64 0, .slice none 0 0], .int .i64 0, .int .i64 5]) (by simp [results, Tryd.results54, go_sem, r0, r1]) rfl
        (addRPost_err HR.out rfl (by repeat (first | exact bel_drewN hb4 n' | refine Below.setCell ?_ (by first | omega | (simp <;> omega)) _ | refine Below.alloc ?_ (by first | omega | (simp <;> omega)) _ | refine Below.drew ?_)))
  · have ht : (twoE xB xZ yB yZ != 0) = true := by simp [h]
    have HR := Lib.hid (show addR xB xZ yB yZ = (0, [], 0, twoE xB xZ yB yZ) by simp [addR, h])
    clear h hx16
    go_wp2
    exact bodyPost_ret (v := .tuple #[.agg #[.int .i64 0, .slice none 0 0], .int .i64 0, .int .i64 (twoE xB xZ yB yZ)]) (by simp [results, Tryd.results54, go_sem, r0, r1]) rfl
      (addRPost_err HR.out rfl (by repeat (first | exact bel_drewN hbel n | refine Below.setCell ?_ (by first | omega | (simp <;> omega)) _ | refine Below.alloc ?_ (by first | omega | (simp <;> omega)) _ | refine Below.drew ?_)))

/-- What a call of SubRegisters leaves. -/
def subRPost (b : Int) (xs : List Int) (d : Int) (ys : List Int) (w : World) (e : Ending) (w' : World) : Prop := ∃ A C,
  e = .returned (.tuple #[.agg #[.int .i64 (subR b xs d ys).1, .slice A (subR b xs d ys).2.1.length C], .int .i64 (subR b xs d ys).2.2.1, .int .i64 (subR b xs d ys).2.2.2]) ∧ Own 2 w' w.heap.size w'.heap.size (.slice A (subR b xs d ys).2.1.length C) (subR b xs d ys).2.1 ∧ Below w.heap.size w w'
theorem subRPost_err {b d c : Int} {xs ys : List Int} {w w' : World} {e : Ending} (h : subR b xs d ys = (0, [], 0, c)) (he : e = .returned (.tuple #[.agg #[.int .i64 0, .slice none 0 0], .int .i64 0, .int .i64 c])) (hb : Below w.heap.size w w') : subRPost b xs d ys w e w' := by
  refine ⟨none, 0, ?_, ?_, hb⟩
  · rw [h]; exact he
  · rw [h]; exact own_nil _ _ _ _
theorem subRPost_ok {b d k : Int} {xs ys zs : List Int} {m : Nat} {w w' : World} {A : Option Addr} {C lo hi : Nat} {e : Ending} (h : subR b xs d ys = (b, zs, k, 0)) (hm : zs.length = m) (he : e = .returned (.tuple #[.agg #[.int .i64 b, .slice A m C], .int .i64 k, .int .i64 0]))
    (ho : Own 2 w' lo hi (.slice A m C) zs) (hl : w.heap.size ≤ lo) (hh : hi ≤ w'.heap.size) (hb : Below w.heap.size w w') : subRPost b xs d ys w e w' := by
  subst hm
  refine ⟨A, C, ?_, ?_, hb⟩
  · rw [h]; exact he
  · rw [h]; exact ho.wide hl hh

end Go.Proofs.YtgfopieojpjddaaDoor

/- ArI -/
namespace Go.Proofs.YtgfopieojpjddaaDoor
open Go.RowKit

/-- A box of two cells that is written, and then a new block. -/
theorem Bx.put2 {w : World} {g : Nat} {t : TypeId} {a b : Value} (h : Bx w g t #[a, b]) (u v : Value) (o : Obj) :
    (((w.setCell ⟨g, 0, none⟩ u).setCell ⟨g, 1, none⟩ v).alloc o).cell? ⟨g, 0, none⟩ = some u ∧ (((w.setCell ⟨g, 0, none⟩ u).setCell ⟨g, 1, none⟩ v).alloc o).cell? ⟨g, 1, none⟩ = some v := by
  have := ((h.set_ 0 u).set_ 1 v).alloc o
  exact ⟨this.at_ 0 rfl, this.at_ 1 rfl⟩
theorem i64_small {z : Int} (h1 : -1000000000000000000 ≤ z) (h2 : z ≤ 1000000000000000000) : I64 z := by
  have e1 : IntKind.i64.min = -9223372036854775808 := by decide
  have e2 : IntKind.i64.max = 9223372036854775807 := by decide
  simp [I64, Lit.wf, e1, e2]
  omega
theorem all64_tab {B : Int} {f : Nat → Int} {n : Nat} (hB : B ≤ 16) (h : ∀ k, k < n → 0 ≤ f k ∧ f k < B) : All64 (tab f n) := by
  intro z hz
  obtain ⟨k, hk, rfl⟩ := List.getElem_of_mem hz
  rw [tab_len] at hk
  have e := tab_nth (f := f) (n := n) (i := k) hk
  rw [nth_get (by rw [tab_len]; exact hk)] at e
  rw [e]
  have := h k hk
  exact i64_small (by omega) (by omega)
theorem sumD_bd {B : Int} {xs ys : List Int} (hB : 2 ≤ B) (_ : ∀ k, k < xs.length → 0 ≤ nth xs k ∧ nth xs k < B) (_ : ∀ k, k < xs.length → 0 ≤ nth ys k ∧ nth ys k < B) : ∀ k, k < xs.length → 0 ≤ sumD B xs ys k ∧ sumD B xs ys k < B :=
  fun _ _ => ⟨Int.emod_nonneg _ (by omega), Int.emod_lt_of_pos _ (by omega)⟩
theorem subD_bd {B : Int} {xs ys : List Int} (_ : 2 ≤ B) (hx : ∀ k, k < xs.length → 0 ≤ nth xs k ∧ nth xs k < B) (hy : ∀ k, k < xs.length → 0 ≤ nth ys k ∧ nth ys k < B) : ∀ k, k < xs.length → 0 ≤ subD B xs ys k ∧ subD B xs ys k < B := by
  intro k hk
  have h1 := hx k hk
  have h2 := hy k hk
  have h3 := bK_bd B xs ys k
  unfold subD
  split <;> omega

set_option maxRecDepth 100000 in
set_option maxHeartbeats 2000000 in
theorem implSubRegisters (xB : Int) (xA : Option Addr) (xC : Nat) (xZ : List Int) (yB : Int) (yA : Option Addr) (yC : Nat) (yZ : List Int) (w : World) (ha : Rd w xA xZ) (zx : All64 xZ) (bx : I64 xB) (hb : Rd w yA yZ) (zy : All64 yZ) (by_ : I64 yB) :
    Calls Tryd.prog 49 #[.agg #[.int .i64 xB, .slice xA xZ.length xC], .agg #[.int .i64 yB, .slice yA yZ.length yC]] w (subRPost xB xZ yB yZ w) := by
  go_enter Tryd.func49, Tryd.ntmps49
  go_wp2_with fail
  obtain ⟨u, hu⟩ : ∃ u, u = ((w.alloc (.cells #[.int .i64 xB, .slice xA xZ.length xC] 47)).alloc (.cells #[.int .i64 yB, .slice yA yZ.length yC] 47)).alloc (.cells #[.int .i64 0, .slice none 0 0] 47) := ⟨_, rfl⟩
  rw [← hu]
  have hbel : Below w.heap.size w u := by rw [hu]; exact (by repeat (first | exact Below.refl _ _ | refine Below.setCell ?_ (by first | omega | (simp <;> omega)) _ | refine Below.alloc ?_ (by first | omega | (simp <;> omega)) _ | refine Below.drew ?_))
  have ax : Bx u w.heap.size 47 #[.int .i64 xB, .slice xA xZ.length xC] := by rw [hu]; exact ((Bx.new _ _ _).alloc _).alloc _
  have ay : Bx u (w.heap.size + 1) 47 #[.int .i64 yB, .slice yA yZ.length yC] := by rw [hu]; exact Bx.alloc (by simpa using Bx.new (w.alloc (.cells #[.int .i64 xB, .slice xA xZ.length xC] 47)) #[.int .i64 yB, .slice yA yZ.length yC] 47) _
  have ar : Bx u (w.heap.size + 1 + 1) 47 #[.int .i64 0, .slice none 0 0] := by rw [hu]; simpa using Bx.new ((w.alloc (.cells #[.int .i64 xB, .slice xA xZ.length xC] 47)).alloc (.cells #[.int .i64 yB, .slice yA yZ.length yC] 47)) #[.int .i64 0, .slice none 0 0] 47
  replace ha := ha.below hbel
  replace hb := hb.below hbel
  clear hu
  refine (pairCode_any xB xA xC xZ yB yA yC yZ u ha zx bx hb zy by_).mono ?_
  rintro e v ⟨rfl, hb1⟩
  replace ha := ha.below hb1
  replace hb := hb.below hb1
  replace ax := ax.below hb1
  replace ay := ay.below hb1
  replace ar := ar.below hb1
  replace hbel := hbel.trans (hb1.mono hbel.size)
  clear hb1 u
  have c0 := ax.at_ 0 rfl
  have c1 := ax.at_ 1 rfl
  have d0 := ay.at_ 0 rfl
  have d1 := ay.at_ 1 rfl
  by_cases h : twoE xB xZ yB yZ = 0
  · have HX := Lib.hid (okB_spec (twoE_zero h).1)
    have HW := Lib.hid (twoE_zero h)
    have H := Lib.hid h
    have ht : (twoE xB xZ yB yZ != 0) = false := by simp [h]
    have HY := Lib.hid (show ∀ k, k < xZ.length → 0 ≤ nth yZ k ∧ nth yZ k < xB by have h1 := HW.out.2.2; intro k hk; have h2 := digit_of_ok HW.out.2.1 k (by omega); omega)
    clear h
    go_wp2_with fail
    refine (minus_any xB xA yA xC yC xZ yZ v ha hb HX.out.1 HX.out.2.1 HX.out.2.2.2.1 HW.out.2.2.2 (digit_of_ok HW.out.1) HY.out).mono ?_
    rintro e w2 ⟨A1, C1, rfl, own1, hb2⟩
    have hA := all64_tab (HX.out.2.1) (subD_bd HX.out.1 (digit_of_ok HW.out.1) HY.out)
    have c0 := kept hb2 c0
    have hvs := ar.lt
    replace ar := ar.below hb2
    replace hbel := hbel.trans (hb2.mono hbel.size)
    clear hb2
    replace own1 : Own 2 w2 v.heap.size w2.heap.size (.slice A1 (tab (subD xB xZ yZ) xZ.length).length C1) (tab (subD xB xZ yZ) xZ.length) := by rw [tab_len]; exact own1
    rw [show Value.slice A1 xZ.length C1 = .slice A1 (tab (subD xB xZ yZ) xZ.length).length C1 by rw [tab_len]]
    cases hk : okB xB (tab (subD xB xZ yZ) xZ.length) with
    | true =>
      have HR := Lib.hid (show subR xB xZ yB yZ = (xB, tab (subD xB xZ yZ) xZ.length, bK xB xZ yZ xZ.length, 0) by simp [subR, H.out, hk])
      go_wp2_with fail
      refine (finish_ok xB A1 C1 (tab (subD xB xZ yZ) xZ.length) w2 own1.rd hA bx hk).mono ?_
      rintro e w3 ⟨rfl, hb2⟩
      replace ar := ar.below hb2
      replace own1 := own1.below hb2
      replace hbel := hbel.trans (hb2.mono hbel.size)
      have hs2 := hb2.size
      clear hb2 hk
      have r0 := ar.at_ 0 rfl
      have r1 := ar.at_ 1 rfl
      have f0 := ar.thaw 0
      have f1 := ar.thaw 1
      have hws := ar.lt
      have zz := ar.put2 (.int .i64 xB) (.slice A1 (tab (subD xB xZ yZ) xZ.length).length C1) (.cells #[.int .i64 xB, .slice A1 (tab (subD xB xZ yZ) xZ.length).length C1] 47)
      go_wp2
      exact bodyPost_ret (v := .tuple #[.agg #[.int .i64 xB, .slice A1 (tab (subD xB xZ yZ) xZ.length).length C1], .int .i64 (bK xB xZ yZ xZ.length), .int .i64 0]) (by simp [results, Tryd.results49, go_sem, zz.1, zz.2]) rfl
        (subRPost_ok HR.out rfl rfl (lo := v.heap.size) (hi := w2.heap.size) (((own1.setCell (p := ⟨w.heap.size + 1 + 1, 0, none⟩) (.inl (by simp; omega)) _).setCell (p := ⟨w.heap.size + 1 + 1, 1, none⟩) (.inl (by simp; omega)) _).alloc _) (by omega) (by simp; omega) (by repeat (first | exact hbel | refine Below.setCell ?_ (by first | omega | (simp <;> omega)) _ | refine Below.alloc ?_ (by first | omega | (simp <;> omega)) _ | refine Below.drew ?_)))
    | false =>
      have HR := Lib.hid (show subR xB xZ yB yZ = (0, [], 0, 5) by simp [subR, H.out, hk])
      go_wp2_with fail
      refine (finish_full xB A1 C1 (tab (subD xB xZ yZ) xZ.length) w2 own1.rd hA bx hk).mono ?_
      rintro e w3 ⟨rfl, hb2⟩
      replace ar := ar.below hb2
      replace hbel := hbel.trans (hb2.mono hbel.size)
      clear hb2 hk
      have r0 := ar.at_ 0 rfl
      have r1 := ar.at_ 1 rfl
      have f0 := ar.thaw 0
      have f1 := ar.thaw 1
      have hws := ar.lt
      have zz := ar.put2 (.int .i64 0) (.slice none 0 0) (.cells #[.int .i64 0, .slice none 0 0] 47)
      go_wp2
      exact bodyPost_ret (v := .tuple #[.agg #[.int .i64 0, .slice none 0 0], .int .i64 0, .int .i64 5]) (by simp [results, Tryd.results49, go_sem, zz.1, zz.2]) rfl
        (subRPost_err HR.out rfl (by repeat (first | exact hbel | refine Below.setCell ?_ (by first | omega | (simp <;> omega)) _ | refine Below.alloc ?_ (by first | omega | (simp <;> omega)) _ | refine Below.drew ?_)))
  · have ht : (twoE xB xZ yB yZ != 0) = true := by simp [h]
    have HR := Lib.hid (show subR xB xZ yB yZ = (0, [], 0, twoE xB xZ yB yZ) by simp [subR, h])
    have r0 := ar.at_ 0 rfl
    have r1 := ar.at_ 1 rfl
    have f0 := ar.thaw 0
    have f1 := ar.thaw 1
    clear h
    go_wp2
    exact bodyPost_ret (v := .tuple #[.agg #[.int .i64 0, .slice none 0 0], .int .i64 0, .int .i64 (twoE xB xZ yB yZ)]) (by simp [results, Tryd.results49, go_sem, r0, r1]) rfl
      (subRPost_err HR.out rfl (by repeat (first | exact hbel | refine Below.setCell ?_ (by first | omega | (simp <;> omega)) _ | refine Below.alloc ?_ (by first | omega | (simp <;> omega)) _ | refine Below.drew ?_)))
end Go.Proofs.YtgfopieojpjddaaDoor

/- ArJ -/
namespace Go.Proofs.YtgfopieojpjddaaDoor
open Go.RowKit

set_option maxRecDepth 100000 in
set_option maxHeartbeats 2000000 in
theorem implAddRegisters (xB : Int) (xA : Option Addr) (xC : Nat) (xZ : List Int) (yB : Int) (yA : Option Addr) (yC : Nat) (yZ : List Int) (w : World) (ha : Rd w xA xZ) (zx : All64 xZ) (bx : I64 xB) (hb : Rd w yA yZ) (zy : All64 yZ) (by_ : I64 yB) :
    Calls Tryd.prog 48 #[.agg #[.int .i64 xB, .slice xA xZ.length xC], .agg #[.int .i64 yB, .slice yA yZ.length yC]] w (addRPost xB xZ yB yZ w) := by
  go_enter Tryd.func48, Tryd.ntmps48
  go_wp2_with fail
  obtain ⟨u, hu⟩ : ∃ u, u = ((w.alloc (.cells #[.int .i64 xB, .slice xA xZ.length xC] 47)).alloc (.cells #[.int .i64 yB, .slice yA yZ.length yC] 47)).alloc (.cells #[.int .i64 0, .slice none 0 0] 47) := ⟨_, rfl⟩
  rw [← hu]
  have hbel : Below w.heap.size w u := by rw [hu]; exact (by repeat (first | exact Below.refl _ _ | refine Below.setCell ?_ (by first | omega | (simp <;> omega)) _ | refine Below.alloc ?_ (by first | omega | (simp <;> omega)) _ | refine Below.drew ?_))
  have ax : Bx u w.heap.size 47 #[.int .i64 xB, .slice xA xZ.length xC] := by rw [hu]; exact ((Bx.new _ _ _).alloc _).alloc _
  have ay : Bx u (w.heap.size + 1) 47 #[.int .i64 yB, .slice yA yZ.length yC] := by rw [hu]; exact Bx.alloc (by simpa using Bx.new (w.alloc (.cells #[.int .i64 xB, .slice xA xZ.length xC] 47)) #[.int .i64 yB, .slice yA yZ.length yC] 47) _
  have ar : Bx u (w.heap.size + 1 + 1) 47 #[.int .i64 0, .slice none 0 0] := by rw [hu]; simpa using Bx.new ((w.alloc (.cells #[.int .i64 xB, .slice xA xZ.length xC] 47)).alloc (.cells #[.int .i64 yB, .slice yA yZ.length yC] 47)) #[.int .i64 0, .slice none 0 0] 47
  replace ha := ha.below hbel
  replace hb := hb.below hbel
  clear hu
  refine (pairCode_any xB xA xC xZ yB yA yC yZ u ha zx bx hb zy by_).mono ?_
  rintro e v ⟨rfl, hb1⟩
  replace ha := ha.below hb1
  replace hb := hb.below hb1
  replace ax := ax.below hb1
  replace ay := ay.below hb1
  replace ar := ar.below hb1
  replace hbel := hbel.trans (hb1.mono hbel.size)
  clear hb1 u
  have c0 := ax.at_ 0 rfl
  have c1 := ax.at_ 1 rfl
  have d0 := ay.at_ 0 rfl
  have d1 := ay.at_ 1 rfl
  by_cases h : twoE xB xZ yB yZ = 0
  · have HX := Lib.hid (okB_spec (twoE_zero h).1)
    have HW := Lib.hid (twoE_zero h)
    have H := Lib.hid h
    have ht : (twoE xB xZ yB yZ != 0) = false := by simp [h]
    have HY := Lib.hid (show ∀ k, k < xZ.length → 0 ≤ nth yZ k ∧ nth yZ k < xB by have h1 := HW.out.2.2; intro k hk; have h2 := digit_of_ok HW.out.2.1 k (by omega); omega)
    clear h
    go_wp2_with fail
    refine (plus_any xB xA yA xC yC xZ yZ v ha hb HX.out.1 HX.out.2.1 HX.out.2.2.2.1 HW.out.2.2.2 (digit_of_ok HW.out.1) HY.out).mono ?_
    rintro e w2 ⟨A1, C1, A2, C2, rfl, own1, own2, hb2⟩
    have hA := all64_tab (HX.out.2.1) (sumD_bd HX.out.1 (digit_of_ok HW.out.1) HY.out)
    have c0 := kept hb2 c0
    have hvs := ar.lt
    replace ar := ar.below hb2
    replace hbel := hbel.trans (hb2.mono hbel.size)
    clear hb2
    cases hk : okB xB (tab (sumD xB xZ yZ) xZ.length) with
    | true =>
      have HR := Lib.hid (show addR xB xZ yB yZ = (xB, tab (sumD xB xZ yZ) xZ.length, cK xB xZ yZ xZ.length, 0) by simp [addR, H.out, hk])
      have hfin := finish_ok xB A1 C1 (tab (sumD xB xZ yZ) xZ.length) w2 own1.rd hA bx hk
      rw [tab_len] at hfin
      go_wp2_with fail
      refine hfin.mono ?_
      rintro e w3 ⟨rfl, hb2⟩
      replace ar := ar.below hb2
      replace own1 := own1.below hb2
      replace own2 := own2.below hb2
      replace hbel := hbel.trans (hb2.mono hbel.size)
      have hs2 := hb2.size
      have hws := ar.lt
      clear hb2 hk hfin
      go_wp2
      obtain ⟨w4, hw4⟩ : ∃ w4, w4 = w3.alloc (.cells #[.int .i64 xB, .slice A1 xZ.length C1] 47) := ⟨_, rfl⟩
      have hb4 : Below w3.heap.size w3 w4 := by rw [hw4]; exact (Below.refl _ _).alloc (Nat.le_refl _) _
      have at_ : Bx w4 w3.heap.size 47 #[.int .i64 xB, .slice A1 xZ.length C1] := by rw [hw4]; exact Bx.new _ _ _
      rw [← hw4]
      replace ar := ar.below hb4
      replace own1 := own1.below hb4
      replace own2 := own2.below hb4
      replace hbel := hbel.trans (hb4.mono hbel.size)
      have hs4 := hb4.size
      clear hb4 hw4
      have b0 := at_.at_ 0 rfl
      have b1 := at_.at_ 1 rfl
      have r0 := ar.at_ 0 rfl
      have r1 := ar.at_ 1 rfl
      have f0 := ar.thaw 0
      have f1 := ar.thaw 1
      obtain ⟨p3, o3, rfl, hc3⟩ := own2.rd.at_ (k := xZ.length) (by rw [tab_len]; omega)
      rw [tab_nth (by omega)] at hc3
      have hi3 : (xZ.length : Int) < (xZ.length : Int) + 1 := by omega
      have hne : w3.heap.size ≠ w.heap.size + 1 + 1 := by omega
      have hp3 : p3 ≠ w.heap.size + 1 + 1 := by
        have hrow := own2.row.lt p3 rfl
        omega
      refine wp_region_marked (fun w' => w'.cell? ⟨w3.heap.size, 0, none⟩ = some (.int .i64 xB) ∧ w'.cell? ⟨w3.heap.size, 1, none⟩ = some (.slice A1 xZ.length C1) ∧ w'.cell? ⟨p3, o3 + xZ.length, none⟩ = some (.int .i64 (cK xB xZ yZ xZ.length))) 7 (by kernel_rfl) ?_
      have hS := And.intro b0 (And.intro b1 hc3)
      refine wpAnyM_take (i := 0) (v := ?_) rfl (by kernel_rfl) (by kernel_rfl) (by kernel_rfl) (by kernel_rfl) (by kernel_rfl) (fun _ _ _ h => h) hS (.inl ⟨by rfl, ?_⟩) ?_
      rotate_left 1
      · intro w' hS'; go_simp; try with_reducible rfl
      simp only [Act.put, List.setIfInBounds_toArray]
      refine wpAnyM_take (i := 1) (v := ?_) rfl (by kernel_rfl) (by kernel_rfl) (by kernel_rfl) (by kernel_rfl) (by kernel_rfl) (fun _ _ _ h => h) hS (.inl ⟨by rfl, ?_⟩) ?_
      rotate_left 1
      · intro w' hS'; go_simp; try with_reducible rfl
      simp only [Act.put]
      refine wpAnyM_take (i := 2) (v := ?_) rfl (by kernel_rfl) (by kernel_rfl) (by kernel_rfl) (by kernel_rfl) (by kernel_rfl) (fun _ _ _ h => h) hS (.inl ⟨by rfl, ?_⟩) ?_
      rotate_left 1
      · intro w' hS'; go_simp; try with_reducible rfl
      simp only [Act.put]
      refine wpAnyM_take (i := 3) (v := ?_) rfl (by kernel_rfl) (by kernel_rfl) (by kernel_rfl) (by kernel_rfl) (by kernel_rfl) (fun _ _ _ h => h) hS (.inl ⟨by rfl, ?_⟩) ?_
      rotate_left 1
      · intro w' hS'; go_simp; try with_reducible rfl
      simp only [Act.put]
      refine wpAnyM_take (i := 4) (v := ?_) rfl (by kernel_rfl) (by kernel_rfl) (by kernel_rfl) (by kernel_rfl) (by kernel_rfl) (fun _ _ _ h => h) hS (.inl ⟨by rfl, ?_⟩) ?_
      rotate_left 1
      · intro w' hS'; go_simp; try with_reducible rfl
      simp only [Act.put]
      refine wpAnyM_take (i := 5) (v := ?_) rfl (by kernel_rfl) (by kernel_rfl) (by kernel_rfl) (by kernel_rfl) (by kernel_rfl) (fun _ _ _ h => h) hS (.inl ⟨by rfl, ?_⟩) ?_
      rotate_left 1
      · intro w' hS'; go_simp; try with_reducible rfl
      simp only [Act.put]
      refine wpAnyM_one (i := 6) (by kernel_rfl) rfl (by rfl) (fun K hK => ?_)
      go_simp
      refine hK _ _ (.inr ⟨cell_far (cell_far b0 hne _) hne _, cell_far (cell_far b1 hne _) hne _, cell_far (cell_far hc3 hp3 _) hp3 _⟩) ?_
      try simp only [Act.put, List.setIfInBounds_toArray]
      clear hK K
      refine wpAnyM_one (i := 7) (by kernel_rfl) rfl (by rfl) (fun K hK => ?_)
      go_simp
      refine hK _ _ (.inl rfl) ?_
      try simp only [Act.put, List.setIfInBounds_toArray]
      clear hK K
      refine wpAnyM_one (i := 8) (by kernel_rfl) rfl (by rfl) (fun K hK => ?_)
      go_simp
      refine hK _ _ (.inl rfl) ?_
      clear hK K
      refine wpAnyM_done (by kernel_rfl) ?_ _
      go_wp2
      exact bodyPost_ret (v := .tuple #[.agg #[.int .i64 xB, .slice A1 xZ.length C1], .int .i64 (cK xB xZ yZ xZ.length), .int .i64 0]) (by simp [results, Tryd.results48, go_sem, r0, r1]) rfl
        (addRPost_ok HR.out (tab_len _ _) rfl (lo := v.heap.size) (hi := w2.heap.size) ((own1.drew.setCell (p := ⟨w.heap.size + 1 + 1, 0, none⟩) (.inl (by simp; omega)) _).setCell (p := ⟨w.heap.size + 1 + 1, 1, none⟩) (.inl (by simp; omega)) _) (by omega) (by simp; omega) (by repeat (first | exact hbel | refine Below.setCell ?_ (by first | omega | (simp <;> omega)) _ | refine Below.alloc ?_ (by first | omega | (simp <;> omega)) _ | refine Below.drew ?_)))
    | false =>
      have HR := Lib.hid (show addR xB xZ yB yZ = (0, [], 0, 5) by simp [addR, H.out, hk])
      have hfin := finish_full xB A1 C1 (tab (sumD xB xZ yZ) xZ.length) w2 own1.rd hA bx hk
      rw [tab_len] at hfin
      go_wp2_with fail
      refine hfin.mono ?_
      rintro e w3 ⟨rfl, hb2⟩
      replace ar := ar.below hb2
      replace hbel := hbel.trans (hb2.mono hbel.size)
      clear hb2 hk hfin
      have r0 := ar.at_ 0 rfl
      have r1 := ar.at_ 1 rfl
      have f0 := ar.thaw 0
      have f1 := ar.thaw 1
      have hws := ar.lt
      have zz := ar.put2 (.int .i64 0) (.slice none 0 0) (.cells #[.int .i64 0, .slice none 0 0] 47)
      go_wp2
      exact bodyPost_ret (v := .tuple #[.agg #[.int .i64 0, .slice none 0 0], .int .i64 0, .int .i64 5]) (by simp [results, Tryd.results48, go_sem, zz.1, zz.2]) rfl
        (addRPost_err HR.out rfl (by repeat (first | exact hbel | refine Below.setCell ?_ (by first | omega | (simp <;> omega)) _ | refine Below.alloc ?_ (by first | omega | (simp <;> omega)) _ | refine Below.drew ?_)))
  · have ht : (twoE xB xZ yB yZ != 0) = true := by simp [h]
    have HR := Lib.hid (show addR xB xZ yB yZ = (0, [], 0, twoE xB xZ yB yZ) by simp [addR, h])
    have r0 := ar.at_ 0 rfl
    have r1 := ar.at_ 1 rfl
    have f0 := ar.thaw 0
    have f1 := ar.thaw 1
    clear h
    go_wp2
    exact bodyPost_ret (v := .tuple #[.agg #[.int .i64 0, .slice none 0 0], .int .i64 0, .int .i64 (twoE xB xZ yB yZ)]) (by simp [results, Tryd.results48, go_sem, r0, r1]) rfl
      (addRPost_err HR.out rfl (by repeat (first | exact hbel | refine Below.setCell ?_ (by first | omega | (simp <;> omega)) _ | refine Below.alloc ?_ (by first | omega | (simp <;> omega)) _ | refine Below.drew ?_)))
end Go.Proofs.YtgfopieojpjddaaDoor

/- CmpI -/
namespace Go.Proofs.YtgfopieojpjddaaDoor
open Go.RowKit

theorem isNaN_any (x : Int) (w : World) : Calls Tryd.prog 138 #[.int .i64 x] w fun e w' => e = .returned (.bool false) ∧ w' = w := by
  have h : (x != x) = false := by simp
  go_enter Tryd.func138, Tryd.ntmps138
  go_wp2
  go_ret
  exact ⟨rfl, rfl⟩
theorem compare_any (x y r : Int) (w : World) (hr : (x < y ∧ r = -1) ∨ (y < x ∧ r = 1) ∨ (x = y ∧ r = 0)) : Calls Tryd.prog 102 #[.int .i64 x, .int .i64 y] w fun e w' => e = .returned (.int .i64 r) ∧ w' = w := by
  have HN := fun z => Lib.hid (isNaN_any z w)
  rcases hr with ⟨h, rfl⟩ | ⟨h, rfl⟩ | ⟨rfl, rfl⟩
  · go_enter Tryd.func102, Tryd.ntmps102
    go_wp2_with (go_at_call 138; refine (HN _).out.mono ?_; rintro e w1 ⟨rfl, hq⟩; subst w1)
    go_ret
    exact ⟨rfl, rfl⟩
  · have h' : ¬ x < y := by omega
    go_enter Tryd.func102, Tryd.ntmps102
    go_wp2_with (go_at_call 138; refine (HN _).out.mono ?_; rintro e w1 ⟨rfl, hq⟩; subst w1)
    go_ret
    exact ⟨rfl, rfl⟩
  · go_enter Tryd.func102, Tryd.ntmps102
    go_wp2_with (go_at_call 138; refine (HN _).out.mono ?_; rintro e w1 ⟨rfl, hq⟩; subst w1)
    go_ret
    exact ⟨rfl, rfl⟩

theorem cmpR_how {b d : Int} {xs ys : List Int} (h : twoE b xs d ys = 0) : ∃ r, cmpR b xs d ys = (r, 0) ∧ ((valR b xs < valR d ys ∧ r = -1) ∨ (valR d ys < valR b xs ∧ r = 1) ∨ (valR b xs = valR d ys ∧ r = 0)) := by
  unfold cmpR
  rw [if_pos h]
  refine ⟨_, rfl, ?_⟩
  by_cases h1 : valR b xs < valR d ys
  · rw [if_pos h1]; exact .inl ⟨h1, rfl⟩
  · rw [if_neg h1]
    by_cases h2 : valR d ys < valR b xs
    · rw [if_pos h2]; exact .inr (.inl ⟨h2, rfl⟩)
    · rw [if_neg h2]; exact .inr (.inr ⟨by omega, rfl⟩)

set_option maxRecDepth 100000 in
set_option maxHeartbeats 1000000 in
theorem implCompareRegisters (xB : Int) (xA : Option Addr) (xC : Nat) (xZ : List Int) (yB : Int) (yA : Option Addr) (yC : Nat) (yZ : List Int) (w : World) (ha : Rd w xA xZ) (zx : All64 xZ) (bx : I64 xB) (hb : Rd w yA yZ) (zy : All64 yZ) (by_ : I64 yB) :
    Calls Tryd.prog 50 #[.agg #[.int .i64 xB, .slice xA xZ.length xC], .agg #[.int .i64 yB, .slice yA yZ.length yC]] w fun e w' => e = .returned (.tuple #[.int .i64 (cmpR xB xZ yB yZ).1, .int .i64 (cmpR xB xZ yB yZ).2]) ∧ Below w.heap.size w w' := by
  go_enter Tryd.func50, Tryd.ntmps50
  go_wp2_with fail
  obtain ⟨u, hu⟩ : ∃ u, u = (w.alloc (.cells #[.int .i64 xB, .slice xA xZ.length xC] 47)).alloc (.cells #[.int .i64 yB, .slice yA yZ.length yC] 47) := ⟨_, rfl⟩
  rw [← hu]
  have hbel : Below w.heap.size w u := by rw [hu]; exact (by repeat (first | exact Below.refl _ _ | refine Below.setCell ?_ (by first | omega | (simp <;> omega)) _ | refine Below.alloc ?_ (by first | omega | (simp <;> omega)) _ | refine Below.drew ?_))
  have ax : Bx u w.heap.size 47 #[.int .i64 xB, .slice xA xZ.length xC] := by rw [hu]; exact (Bx.new _ _ _).alloc _
  have ay : Bx u (w.heap.size + 1) 47 #[.int .i64 yB, .slice yA yZ.length yC] := by rw [hu]; simpa using Bx.new (w.alloc (.cells #[.int .i64 xB, .slice xA xZ.length xC] 47)) #[.int .i64 yB, .slice yA yZ.length yC] 47
  replace ha := ha.below hbel
  replace hb := hb.below hbel
  clear hu
  refine (pairCode_any xB xA xC xZ yB yA yC yZ u ha zx bx hb zy by_).mono ?_
  rintro e v ⟨rfl, hb1⟩
  replace ha := ha.below hb1
  replace hb := hb.below hb1
  replace ax := ax.below hb1
  replace ay := ay.below hb1
  replace hbel := hbel.trans (hb1.mono hbel.size)
  clear hb1 u
  have c0 := ax.at_ 0 rfl
  have c1 := ax.at_ 1 rfl
  have d0 := ay.at_ 0 rfl
  have d1 := ay.at_ 1 rfl
  by_cases h : twoE xB xZ yB yZ = 0
  · obtain ⟨r, hr, hw⟩ := cmpR_how h
    have HR := Lib.hid hr
    have HX := Lib.hid (okB_spec (twoE_zero h).1)
    have HY := Lib.hid (okB_spec (twoE_zero h).2.1)
    have HW := Lib.hid hw
    have ht : (twoE xB xZ yB yZ != 0) = false := by simp [h]
    clear h hr hw
    go_wp2_with fail
    refine (value_any xB xA xC xZ v HX.out.1 HX.out.2.1 HX.out.2.2.2.2.1 ha).mono ?_
    rintro e w2 ⟨rfl, hb2⟩
    rw [valOr_le HX.out.2.2.2.2.2]
    have d0 := kept hb2 d0
    have d1 := kept hb2 d1
    replace hb := hb.below hb2
    replace hbel := hbel.trans (hb2.mono hbel.size)
    clear hb2
    go_wp2_with fail
    refine (value_any yB yA yC yZ w2 HY.out.1 HY.out.2.1 HY.out.2.2.2.2.1 hb).mono ?_
    rintro e w3 ⟨rfl, hb2⟩
    rw [valOr_le HY.out.2.2.2.2.2]
    go_wp2_with fail
    refine (compare_any _ _ r _ HW.out).mono ?_
    rintro e w4 ⟨rfl, hq⟩
    subst w4
    go_wp2
    refine bodyPost_ret (v := .tuple #[.int .i64 r, .int .i64 0]) (by simp [results, Tryd.results50, go_sem]) rfl ?_
    exact ⟨by rw [HR.out], hbel.trans (hb2.mono hbel.size)⟩
  · have HR := Lib.hid (show cmpR xB xZ yB yZ = (0, twoE xB xZ yB yZ) by simp [cmpR, h])
    have ht : (twoE xB xZ yB yZ != 0) = true := by simp [h]
    clear h
    go_wp2
    refine bodyPost_ret (v := .tuple #[.int .i64 0, .int .i64 (twoE xB xZ yB yZ)]) (by simp [results, Tryd.results50, go_sem]) rfl ?_
    exact ⟨by rw [HR.out], hbel⟩
end Go.Proofs.YtgfopieojpjddaaDoor

/- CplI -/
namespace Go.Proofs.YtgfopieojpjddaaDoor
open Go.RowKit

theorem cplD_bd {B : Int} {xs : List Int} (hx : ∀ k, k < xs.length → 0 ≤ nth xs k ∧ nth xs k < B) : ∀ k, k < xs.length → 0 ≤ cplD B xs k ∧ cplD B xs k < B := by
  intro k hk
  have := hx k hk
  unfold cplD
  omega
theorem shD_bd {B : Int} {xs : List Int} {m : Int} (hB : 2 ≤ B) (hx : ∀ k, k < xs.length → 0 ≤ nth xs k ∧ nth xs k < B) : ∀ k, k < xs.length → 0 ≤ shD xs m k ∧ shD xs m k < B := by
  intro k hk
  unfold shD
  by_cases h : 0 ≤ (k : Int) - m ∧ (k : Int) - m ≤ (xs.length : Int) - 1
  · rw [if_pos h]; exact hx _ (by omega)
  · rw [if_neg h]; omega

set_option maxRecDepth 100000 in
set_option maxHeartbeats 2000000 in
theorem implComplementOf (xB : Int) (xA : Option Addr) (xC : Nat) (xZ : List Int) (w : World) (ha : Rd w xA xZ) (z : All64 xZ) (b : I64 xB) :
    Calls Tryd.prog 53 #[.agg #[.int .i64 xB, .slice xA xZ.length xC]] w (RegC (cplR xB xZ) w) := by
  go_enter Tryd.func53, Tryd.ntmps53
  go_wp2_with fail
  obtain ⟨u, hu⟩ : ∃ u, u = (w.alloc (.cells #[.int .i64 xB, .slice xA xZ.length xC] 47)).alloc (.cells #[.int .i64 0, .slice none 0 0] 47) := ⟨_, rfl⟩
  rw [← hu]
  have hbel : Below w.heap.size w u := by rw [hu]; exact (by repeat (first | exact Below.refl _ _ | refine Below.setCell ?_ (by first | omega | (simp <;> omega)) _ | refine Below.alloc ?_ (by first | omega | (simp <;> omega)) _ | refine Below.drew ?_))
  have ax : Bx u w.heap.size 47 #[.int .i64 xB, .slice xA xZ.length xC] := by rw [hu]; exact (Bx.new _ _ _).alloc _
  have ar : Bx u (w.heap.size + 1) 47 #[.int .i64 0, .slice none 0 0] := by rw [hu]; simpa using Bx.new (w.alloc (.cells #[.int .i64 xB, .slice xA xZ.length xC] 47)) #[.int .i64 0, .slice none 0 0] 47
  clear hu
  replace ha := ha.below hbel
  refine (implValidRegister xB xA xC xZ u ha z b).mono ?_
  rintro e v ⟨rfl, hb1⟩
  replace ax := ax.below hb1
  replace ar := ar.below hb1
  replace ha := ha.below hb1
  replace hbel := hbel.trans (hb1.mono hbel.size)
  clear hb1 u
  have hvs := ar.lt
  have c0 := ax.at_ 0 rfl
  have c1 := ax.at_ 1 rfl
  cases h : okB xB xZ with
  | false =>
    have HR := Lib.hid (show cplR xB xZ = (0, [], 1) by simp [cplR, h])
    have r0 := ar.at_ 0 rfl
    have r1 := ar.at_ 1 rfl
    have f0 := ar.thaw 0
    have f1 := ar.thaw 1
    clear h
    go_wp2
    exact bodyPost_ret (v := .tuple #[.agg #[.int .i64 0, .slice none 0 0], .int .i64 1]) (by simp [results, Tryd.results53, go_sem, r0, r1]) rfl
      (regC_err HR.out rfl (by repeat (first | exact hbel | refine Below.setCell ?_ (by first | omega | (simp <;> omega)) _ | refine Below.alloc ?_ (by first | omega | (simp <;> omega)) _ | refine Below.drew ?_)))
  | true =>
    have HO := Lib.hid (okB_spec h)
    have HD := Lib.hid (digit_of_ok h)
    have HR := Lib.hid (show cplR xB xZ = finR xB (tab (cplD xB xZ) xZ.length) by simp [cplR, h])
    have hA := all64_tab HO.out.2.1 (cplD_bd HD.out)
    clear h
    cases hk : okB xB (tab (cplD xB xZ) xZ.length) with
    | true =>
      have HF := Lib.hid (HR.out.trans (show finR xB (tab (cplD xB xZ) xZ.length) = (xB, tab (cplD xB xZ) xZ.length, 0) by simp [finR, hk]))
      go_wp2
      refine wp_region_marked (fun w' => Below v.heap.size v w') 10 (by kernel_rfl) ?_
      have hS : Below v.heap.size v v.drew := (Below.refl _ _).drew
      have k0 := kept_all c0
      have k1 := kept_all c1
      refine wpAnyM_take (i := 0) (v := ?_) rfl (by kernel_rfl) (by kernel_rfl) (by kernel_rfl) (by kernel_rfl) (by kernel_rfl) (fun _ _ _ h => h) hS (.inl ⟨by rfl, ?_⟩) ?_
      rotate_left 1
      · intro w' hS'; go_simp; try with_reducible rfl
      simp only [Act.put, List.setIfInBounds_toArray]
      refine wpAnyM_take (i := 1) (v := ?_) rfl (by kernel_rfl) (by kernel_rfl) (by kernel_rfl) (by kernel_rfl) (by kernel_rfl) (fun _ _ _ h => h) hS (.inl ⟨by rfl, ?_⟩) ?_
      rotate_left 1
      · intro w' hS'; go_simp; try with_reducible rfl
      simp only [Act.put]
      refine wpAnyM_take (i := 2) (v := ?_) rfl (by kernel_rfl) (by kernel_rfl) (by kernel_rfl) (by kernel_rfl) (by kernel_rfl) (fun _ _ _ h => h) hS (.inl ⟨by rfl, ?_⟩) ?_
      rotate_left 1
      · intro w' hS'; go_simp; try with_reducible rfl
      simp only [Act.put]
      refine wpAnyM_take (i := 3) (v := ?_) rfl (by kernel_rfl) (by kernel_rfl) (by kernel_rfl) (by kernel_rfl) (by kernel_rfl) (fun _ _ _ h => h) hS (.inl ⟨by rfl, ?_⟩) ?_
      rotate_left 1
      · intro w' hS'; go_simp; try with_reducible rfl
      simp only [Act.put]
      refine wpAnyM_take (i := 4) (v := ?_) rfl (by kernel_rfl) (by kernel_rfl) (by kernel_rfl) (by kernel_rfl) (by kernel_rfl) (fun _ _ _ h => h) hS (.inl ⟨by rfl, ?_⟩) ?_
      rotate_left 1
      · intro w' hS'; go_simp; try with_reducible rfl
      simp only [Act.put]
      refine wpAnyM_take (i := 5) (v := ?_) rfl (by kernel_rfl) (by kernel_rfl) (by kernel_rfl) (by kernel_rfl) (by kernel_rfl) (fun _ _ _ h => h) hS (.inl ⟨by rfl, ?_⟩) ?_
      rotate_left 1
      · intro w' hS'; go_simp; try with_reducible rfl
      simp only [Act.put]
      refine wpAnyM_one (i := 6) (by kernel_rfl) rfl (by rfl) (fun K hK => ?_)
      go_simp
      refine (complement_any xB xA xC xZ v.drew (ha.below hS) HO.out.1 HO.out.2.1 HO.out.2.2.2.1 HD.out).mono ?_
      rintro e w2 ⟨A1, C1, rfl, own1, hb2⟩
      replace hS : Below v.heap.size v w2 := hS.trans (hb2.mono (by simp))
      replace own1 : Own 2 w2 v.heap.size w2.heap.size (.slice A1 xZ.length C1) (tab (cplD xB xZ) xZ.length) := by simpa using own1
      refine hK _ _ (.inr hS) ?_
      try simp only [Act.put, List.setIfInBounds_toArray]
      clear hK K hb2
      refine wpAnyM_one (i := 7) (by kernel_rfl) rfl (by rfl) (fun K hK => ?_)
      go_simp
      have hfin := finish_ok xB A1 C1 (tab (cplD xB xZ) xZ.length) w2 own1.rd hA b hk
      rw [tab_len] at hfin
      refine hfin.mono ?_
      rintro e w3 ⟨rfl, hb2⟩
      have hws : w2.heap.size ≤ w3.heap.size := hb2.size
      replace own1 := own1.below hb2
      replace hS : Below v.heap.size v w3 := hS.trans (hb2.mono hS.size)
      refine hK _ _ (.inr hS) ?_
      try simp only [Act.put, List.setIfInBounds_toArray]
      clear hK K hb2 hfin
      replace ar := ar.below hS
      replace hbel := hbel.trans (hS.mono hbel.size)
      have r0 := ar.at_ 0 rfl
      have r1 := ar.at_ 1 rfl
      have f0 := ar.thaw 0
      have f1 := ar.thaw 1
      refine wpAnyM_take (i := 8) (v := ?_) rfl (by kernel_rfl) (by kernel_rfl) (by kernel_rfl) (by kernel_rfl) (by kernel_rfl) (fun _ _ _ h => h) hS (.inl ⟨by rfl, ?_⟩) ?_
      rotate_left 1
      · intro w' hS'; go_simp; try with_reducible rfl
      simp only [Act.put, List.setIfInBounds_toArray]
      refine wpAnyM_take (i := 9) (v := ?_) rfl (by kernel_rfl) (by kernel_rfl) (by kernel_rfl) (by kernel_rfl) (by kernel_rfl) (fun _ _ _ h => h) hS (.inl ⟨by rfl, ?_⟩) ?_
      rotate_left 1
      · intro w' hS'; go_simp; try with_reducible rfl
      simp only [Act.put]
      refine wpAnyM_one (i := 10) (by kernel_rfl) rfl (by rfl) (fun K hK => ?_)
      go_simp
      refine hK _ _ (.inl rfl) ?_
      try simp only [Act.put, List.setIfInBounds_toArray]
      clear hK K
      refine wpAnyM_one (i := 11) (by kernel_rfl) rfl (by rfl) (fun K hK => ?_)
      go_simp
      refine hK _ _ (.inl rfl) ?_
      clear hK K
      refine wpAnyM_done (by kernel_rfl) ?_ _
      go_wp2
      exact bodyPost_ret (v := .tuple #[.agg #[.int .i64 xB, .slice A1 xZ.length C1], .int .i64 0]) (by simp [results, Tryd.results53, go_sem, r0, r1]) rfl
        (regC_ok HF.out (by rw [tab_len]) (lo := v.heap.size) (hi := w2.heap.size) (by rw [tab_len]; exact (own1.setCell (p := ⟨w.heap.size + 1, 0, none⟩) (.inl hvs) _).setCell (p := ⟨w.heap.size + 1, 1, none⟩) (.inl hvs) _) (by omega) (by simp; omega) (by repeat (first | exact hbel | refine Below.setCell ?_ (by first | omega | (simp <;> omega)) _ | refine Below.alloc ?_ (by first | omega | (simp <;> omega)) _ | refine Below.drew ?_)))
    | false =>
      have HF := Lib.hid (HR.out.trans (show finR xB (tab (cplD xB xZ) xZ.length) = (0, [], 5) by simp [finR, hk]))
      go_wp2
      refine wp_region_marked (fun w' => Below v.heap.size v w') 10 (by kernel_rfl) ?_
      have hS : Below v.heap.size v v.drew := (Below.refl _ _).drew
      have k0 := kept_all c0
      have k1 := kept_all c1
      refine wpAnyM_take (i := 0) (v := ?_) rfl (by kernel_rfl) (by kernel_rfl) (by kernel_rfl) (by kernel_rfl) (by kernel_rfl) (fun _ _ _ h => h) hS (.inl ⟨by rfl, ?_⟩) ?_
      rotate_left 1
      · intro w' hS'; go_simp; try with_reducible rfl
      simp only [Act.put, List.setIfInBounds_toArray]
      refine wpAnyM_take (i := 1) (v := ?_) rfl (by kernel_rfl) (by kernel_rfl) (by kernel_rfl) (by kernel_rfl) (by kernel_rfl) (fun _ _ _ h => h) hS (.inl ⟨by rfl, ?_⟩) ?_
      rotate_left 1
      · intro w' hS'; go_simp; try with_reducible rfl
      simp only [Act.put]
      refine wpAnyM_take (i := 2) (v := ?_) rfl (by kernel_rfl) (by kernel_rfl) (by kernel_rfl) (by kernel_rfl) (by kernel_rfl) (fun _ _ _ h => h) hS (.inl ⟨by rfl, ?_⟩) ?_
      rotate_left 1
      · intro w' hS'; go_simp; try with_reducible rfl
      simp only [Act.put]
      refine wpAnyM_take (i := 3) (v := ?_) rfl (by kernel_rfl) (by kernel_rfl) (by kernel_rfl) (by kernel_rfl) (by kernel_rfl) (fun _ _ _ h => h) hS (.inl ⟨by rfl, ?_⟩) ?_
      rotate_left 1
      · intro w' hS'; go_simp; try with_reducible rfl
      simp only [Act.put]
      refine wpAnyM_take (i := 4) (v := ?_) rfl (by kernel_rfl) (by kernel_rfl) (by kernel_rfl) (by kernel_rfl) (by kernel_rfl) (fun _ _ _ h => h) hS (.inl ⟨by rfl, ?_⟩) ?_
      rotate_left 1
      · intro w' hS'; go_simp; try with_reducible rfl
      simp only [Act.put]
      refine wpAnyM_take (i := 5) (v := ?_) rfl (by kernel_rfl) (by kernel_rfl) (by kernel_rfl) (by kernel_rfl) (by kernel_rfl) (fun _ _ _ h => h) hS (.inl ⟨by rfl, ?_⟩) ?_
      rotate_left 1
      · intro w' hS'; go_simp; try with_reducible rfl
      simp only [Act.put]
      refine wpAnyM_one (i := 6) (by kernel_rfl) rfl (by rfl) (fun K hK => ?_)
      go_simp
      refine (complement_any xB xA xC xZ v.drew (ha.below hS) HO.out.1 HO.out.2.1 HO.out.2.2.2.1 HD.out).mono ?_
      rintro e w2 ⟨A1, C1, rfl, own1, hb2⟩
      replace hS : Below v.heap.size v w2 := hS.trans (hb2.mono (by simp))
      replace own1 : Own 2 w2 v.heap.size w2.heap.size (.slice A1 xZ.length C1) (tab (cplD xB xZ) xZ.length) := by simpa using own1
      refine hK _ _ (.inr hS) ?_
      try simp only [Act.put, List.setIfInBounds_toArray]
      clear hK K hb2
      refine wpAnyM_one (i := 7) (by kernel_rfl) rfl (by rfl) (fun K hK => ?_)
      go_simp
      have hfin := finish_full xB A1 C1 (tab (cplD xB xZ) xZ.length) w2 own1.rd hA b hk
      rw [tab_len] at hfin
      refine hfin.mono ?_
      rintro e w3 ⟨rfl, hb2⟩
      have hws : w2.heap.size ≤ w3.heap.size := hb2.size
      replace own1 := own1.below hb2
      replace hS : Below v.heap.size v w3 := hS.trans (hb2.mono hS.size)
      refine hK _ _ (.inr hS) ?_
      try simp only [Act.put, List.setIfInBounds_toArray]
      clear hK K hb2 hfin
      replace ar := ar.below hS
      replace hbel := hbel.trans (hS.mono hbel.size)
      have r0 := ar.at_ 0 rfl
      have r1 := ar.at_ 1 rfl
      have f0 := ar.thaw 0
      have f1 := ar.thaw 1
      refine wpAnyM_take (i := 8) (v := ?_) rfl (by kernel_rfl) (by kernel_rfl) (by kernel_rfl) (by kernel_rfl) (by kernel_rfl) (fun _ _ _ h => h) hS (.inl ⟨by rfl, ?_⟩) ?_
      rotate_left 1
      · intro w' hS'; go_simp; try with_reducible rfl
      simp only [Act.put, List.setIfInBounds_toArray]
      refine wpAnyM_take (i := 9) (v := ?_) rfl (by kernel_rfl) (by kernel_rfl) (by kernel_rfl) (by kernel_rfl) (by kernel_rfl) (fun _ _ _ h => h) hS (.inl ⟨by rfl, ?_⟩) ?_
      rotate_left 1
      · intro w' hS'; go_simp; try with_reducible rfl
      simp only [Act.put]
      refine wpAnyM_one (i := 10) (by kernel_rfl) rfl (by rfl) (fun K hK => ?_)
      go_simp
      refine hK _ _ (.inl rfl) ?_
      try simp only [Act.put, List.setIfInBounds_toArray]
      clear hK K
      refine wpAnyM_one (i := 11) (by kernel_rfl) rfl (by rfl) (fun K hK => ?_)
      go_simp
      refine hK _ _ (.inl rfl) ?_
      clear hK K
      refine wpAnyM_done (by kernel_rfl) ?_ _
      go_wp2
      exact bodyPost_ret (v := .tuple #[.agg #[.int .i64 0, .slice none 0 0], .int .i64 5]) (by simp [results, Tryd.results53, go_sem, r0, r1]) rfl
        (regC_err HF.out rfl (by repeat (first | exact hbel | refine Below.setCell ?_ (by first | omega | (simp <;> omega)) _ | refine Below.alloc ?_ (by first | omega | (simp <;> omega)) _ | refine Below.drew ?_)))

end Go.Proofs.YtgfopieojpjddaaDoor
