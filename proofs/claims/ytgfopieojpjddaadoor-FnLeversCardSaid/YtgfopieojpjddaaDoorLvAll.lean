/-
  Several texts in one: AppAt, DecI, DrawO, Own2, DrawR, FltT, LvD, ShdM, RgM, RfM, LvM, ReadI, RfI.
-/
import Derived.Test.YtgfopieojpjddaaDoorApp
import Derived.Test.YtgfopieojpjddaaDoorDec
import Derived.Test.YtgfopieojpjddaaDoorShFmt
import Derived.Lib.LaidTab
import Derived.Lib.ItoaNum
import Derived.KernelRfl
import Derived.Lib.AppendIntMem
import Derived.Test.YtgfopieojpjddaaDoorSrc
import Derived.Test.YtgfopieojpjddaaDoorBase
import Derived.Test.YtgfopieojpjddaaDoorOrdC
import Derived.Test.YtgfopieojpjddaaDoorRegC
import Derived.Test.YtgfopieojpjddaaDoorRow
import Derived.Deep.Cut
import Derived.Test.YtgfopieojpjddaaDoorWithin
import Derived.Test.YtgfopieojpjddaaDoorInS
import Derived.Test.YtgfopieojpjddaaDoorLevM
import Derived.Test.YtgfopieojpjddaaDoorAr
import Derived.Test.YtgfopieojpjddaaDoorSplitM
import Derived.Test.YtgfopieojpjddaaDoorNum
import Derived.Test.YtgfopieojpjddaaDoorVal
import Derived.Lib.IndexMore
import Derived.Lib.Strings
import Derived.Test.YtgfopieojpjddaaDoorShNum
import Derived.Lib.SmallJoins
import Derived.Test.YtgfopieojpjddaaDoorShCut
namespace Go.Proofs.YtgfopieojpjddaaDoor
open Go.RowKit

section
variable {P : Program} {ops : Array Oper} {rest : List Oper} {o : Oper} {a : Act} {Q : Exit → Act → World → Prop} {w : World}
theorem wp_appAt {K : Act → World → Prop} (s x : Operand) (t e : TypeId) (ho : o.op = .call { callee := .builtin .append, args := #[s, x], argTypes := #[t, t] })
    (ht : P.underlying t = some (.slice e)) (hinfo : (P.info? e).map (fun i => (i.zero, i.size, i.bytes)) = some (some (.int .i64 0), 1, 8)) {g n : Nat} {A : Option Addr} {C : Nat} {zs : List Int}
    (hs : a.eval s = .slice A n C) (hown : Own e w g (g + 1) (.slice A n C) zs) (hl : zs.length = n)
    (ad : Addr) (c : Nat) (z : Int) (hx : a.eval x = .slice (some ad) 1 c) (hc : w.cell? (ad.add 0) = some (.int .i64 z)) (hn : n < 1000000000) (hlo : g ≤ w.heap.size)
    (h : ∀ g' C' w', g' = g ∨ g' = w.heap.size → Own e w' g' (g' + 1) (.slice (some ⟨g', 0, none⟩) (n + 1) C') (zs ++ [z]) → Touch g (g + 1) w w' → K (a.put o.dst (.slice (some ⟨g', 0, none⟩) (n + 1) C')) w') :
    o.wp P a w K Q := by
  obtain ⟨i, hi1, hi2, hi3, hi4⟩ := info_parts hinfo
  have row := hown.row
  rw [hl] at row
  obtain ⟨v', w', hr, h2, h3, _, h5⟩ := run_append_own_at (P := P) w g t o.type e i _ 1 8 ht hi1 hi2 hi3 hi4 rfl (by omega) _ n _ row ad 1 c [.int .i64 z] rfl (by
    intro j v hj
    match j, hj with
    | 0, hj => simp at hj; subst hj; exact hc) (by intro u hu; simp at hu; subst hu; rfl) (by unfold maxLen; omega) (by omega) hlo
  unfold Oper.wp execOp
  simp only [ho, resolve, invoke, builtin, Sem.run_bind, Sem.run_pure, Result.andThen_ok, List.map_toArray, List.map_cons, List.map_nil, hs, hx, hr]
  rcases h2.2 with ⟨_, h0⟩ | ⟨g', cap, cur, hv, hg, r⟩
  · omega
  · subst hv
    have hk : g' = g ∨ g' = w.heap.size := by
      rcases h5 with h5 | h5
      · rw [show (Value.slice (some ⟨g', 0, none⟩) (n + 1) cap).ownBlock = some g' from rfl] at h5
        have := hown.lo_le h5.symm
        exact .inl (by omega)
      · rw [show (Value.slice (some ⟨g', 0, none⟩) (n + 1) cap).ownBlock = some g' from rfl] at h5
        injection h5 with h5
        exact .inr h5
    have hT : Touch g (g + 1) w w' := ⟨h3.os, h3.tape, h3.output, h3.size, fun k hk' ho' => h3.block k hk' (by
      intro he
      have := hown.lo_le he.symm
      omega)⟩
    refine h g' cap w' hk ⟨⟨by simp [hl], .inr ⟨g', cap, cur, by simp [hl], Nat.le_refl _, ?_⟩⟩, ?_, by simp; omega⟩ hT
    · simpa [hl] using r
    · intro k hk'
      simp [Value.ownBlock] at hk'
      omega
theorem wpList_appAt (hgd : o.guard = none) (s x : Operand) (t e : TypeId) (ho : o.op = .call { callee := .builtin .append, args := #[s, x], argTypes := #[t, t] })
    (ht : P.underlying t = some (.slice e)) (hinfo : (P.info? e).map (fun i => (i.zero, i.size, i.bytes)) = some (some (.int .i64 0), 1, 8)) {g n : Nat} {A : Option Addr} {C : Nat} {zs : List Int}
    (hs : a.eval s = .slice A n C) (hown : Own e w g (g + 1) (.slice A n C) zs) (hl : zs.length = n)
    (ad : Addr) (c : Nat) (z : Int) (hx : a.eval x = .slice (some ad) 1 c) (hc : w.cell? (ad.add 0) = some (.int .i64 z)) (hn : n < 1000000000) (hlo : g ≤ w.heap.size)
    (h : ∀ g' C' w', g' = g ∨ g' = w.heap.size → Own e w' g' (g' + 1) (.slice (some ⟨g', 0, none⟩) (n + 1) C') (zs ++ [z]) → Touch g (g + 1) w w' → wpList P ops Q rest (a.put o.dst (.slice (some ⟨g', 0, none⟩) (n + 1) C')) w') :
    wpList P ops Q (o :: rest) a w :=
  wpList_plain hgd fun _ hK => wp_appAt s x t e ho ht hinfo hs hown hl ad c z hx hc hn hlo fun g' C' w' h0 h1 h2 => hK _ _ (h g' C' w' h0 h1 h2)
end

/-- The library's table of powers of ten, as its text lays it. -/
def PowTab (w : World) : Prop := Lib.TabIs Tryd.prog w "internal/strconv.uint64pow10" .u64 Lib.pow10Tab
theorem tabIs_below {n : String} {g : Nat} {k : IntKind} {zs : List Int} {w w' : World} (hg : Tryd.prog.globalNamed n = some g) (h : Lib.TabIs Tryd.prog w n k zs) (hb : Below w.heap.size w w') : Lib.TabIs Tryd.prog w' n k zs := by
  unfold Lib.TabIs World.var? at h ⊢
  rw [hg] at h ⊢
  simp only [Option.bind_some] at h ⊢
  have hl : g < w.heap.size := by
    rcases Nat.lt_or_ge g w.heap.size with h1 | h1
    · exact h1
    · rw [Array.getElem?_eq_none h1] at h; cases h
  rw [hb.block g hl]
  exact h
theorem powTab_below {w w' : World} (h : PowTab w) (hb : Below w.heap.size w w') : PowTab w' := tabIs_below (g := 6) (by kernel_rfl) h hb

theorem i64_bd {n : Int} (h : I64 n) : -9223372036854775808 ≤ n ∧ n ≤ 9223372036854775807 := by
  unfold I64 at h
  simp [Lit.wf, IntKind.min, IntKind.max, IntKind.signed, IntKind.bits] at h
  exact h

theorem implDecimal (n : Int) (w : World) (b : I64 n) (hD : PowTab w) :
    Calls Tryd.prog 73 #[.int .i64 n] w fun e w' => e = .returned (.string ⟨(Lib.itoa n).toArray⟩) ∧ Below w.heap.size w w' := by
  obtain ⟨h0, h1⟩ := i64_bd b
  have c := fun w => Tryd.strconv_FormatInt_10 n h0 h1 w
  have c1 := c w hD
  clear c hD b
  go_enter Tryd.func73, Tryd.ntmps73
  go_wp2_with (go_at_call 123; refine c1.mono ?_; rintro e w' ⟨rfl, hg⟩)
  obtain ⟨k, os, rfl⟩ := hg
  go_ret
  exact ⟨rfl, Lib.below_grow _ _ (Nat.le_refl _) _ _⟩
theorem one_any (g K : Nat) (n : Int) (w : World) (h : Src w g K) (hK : K ≤ 900000) (hn : n ≤ 10000) :
    Calls Tryd.prog 129 #[.pointer (some ⟨g, 0, none⟩), .int .i64 n] w fun e w' => ∃ z : Bool, e = .returned (.bool z) ∧ Src w' g (K + 2) ∧ Touch g (g + 1) w w' := by
  go_enter Tryd.func129, Tryd.ntmps129
  go_wp2_with fail
  refine (pick_any g K n w h hK hn).mono ?_
  rintro e w1 ⟨x, rfl, x0, x1, hs1, ht1⟩
  go_wp2_with fail
  exact bodyPost_ret (v := .bool (x == 0)) (by simp [results, Tryd.results129, go_sem]) rfl ⟨_, rfl, hs1, ht1⟩

theorem Touch.widen {lo hi lo' hi' : Nat} {w w' : World} (h : Touch lo hi w w') (h1 : lo' ≤ lo) (h2 : hi ≤ hi') : Touch lo' hi' w w' :=
  ⟨h.os, h.tape, h.output, h.size, fun k hk ho => h.block k hk (by omega)⟩
theorem Touch.then_ {a b lo hi : Nat} {w w1 w2 : World} (h : Touch a b w w1) (k : Touch lo hi w1 w2) (hl : w.heap.size ≤ lo) : Touch a b w w2 :=
  ⟨k.os.trans h.os, k.tape.trans h.tape, k.output.trans h.output, Nat.le_trans h.size k.size, fun i hi ho => (k.block i (by have := h.size; omega) (.inl (by omega))).trans (h.block i hi ho)⟩
/-- What is owned lies below the heap's size. -/
theorem Own.tight {t : TypeId} {w : World} {lo hi : Nat} {v : Value} {zs : List Int} (h : Own t w lo hi v zs) : Own t w lo (min hi w.heap.size) v zs :=
  ⟨h.row, fun k hk => by have := h.lo_le hk; omega, h.len⟩

/-- Two rows that can be read. -/
structure Rd2 (w : World) (a : Option Addr) (z1 : List Int) (b : Option Addr) (z2 : List Int) : Prop where
  p : Rd w a z1
  q : Rd w b z2
theorem Rd2.below {w w' : World} {a b : Option Addr} {z1 z2 : List Int} (h : Rd2 w a z1 b z2) (hb : Below w.heap.size w w') : Rd2 w' a z1 b z2 := ⟨h.p.below hb, h.q.below hb⟩
theorem Rd2.drewN {w : World} {a b : Option Addr} {z1 z2 : List Int} (h : Rd2 w a z1 b z2) (n : Nat) : Rd2 (w.drewN n) a z1 b z2 := ⟨h.p.drewN n, h.q.drewN n⟩
theorem Rd2.len {w : World} {a b : Option Addr} {z1 z2 : List Int} (h : Rd2 w a z1 b z2) : z1.length ≤ 1000000000 ∧ z2.length ≤ 1000000000 := ⟨h.p.len, h.q.len⟩

/-- Two rows that came in: of whatever length. -/
structure Raw2 (w : World) (a : Option Addr) (z1 : List Int) (b : Option Addr) (z2 : List Int) : Prop where
  p : Raw w a z1
  q : Raw w b z2
theorem Raw2.len {w : World} {a b : Option Addr} {z1 z2 : List Int} (h : Raw2 w a z1 b z2) : z1.length ≤ 9223372036854775807 ∧ z2.length ≤ 9223372036854775807 := ⟨h.p.len, h.q.len⟩
theorem Raw2.wf {w : World} {a b : Option Addr} {z1 z2 : List Int} (h : Raw2 w a z1 b z2) : All64 z1 ∧ All64 z2 := ⟨h.p.wf, h.q.wf⟩
theorem Raw2.rd {w : World} {a b : Option Addr} {z1 z2 : List Int} (h : Raw2 w a z1 b z2) (hl : z1.length + z2.length ≤ 1000000000) : Rd2 w a z1 b z2 := ⟨h.p.rd (by omega), h.q.rd (by omega)⟩

/-- Two slices of the call's own, among the blocks lo .. hi - 1, apart from each other. -/
structure Own2 (t : TypeId) (w : World) (lo hi : Nat) (u : Value) (z1 : List Int) (v : Value) (z2 : List Int) : Prop where
  ex : ∃ l1 h1 l2 h2, Own t w l1 h1 u z1 ∧ Own t w l2 h2 v z2 ∧ lo ≤ l1 ∧ h1 ≤ hi ∧ lo ≤ l2 ∧ h2 ≤ hi ∧ (h1 ≤ l2 ∨ h2 ≤ l1)
section
variable {t : TypeId} {w w' : World} {lo hi : Nat} {u v : Value} {z1 z2 : List Int}
theorem Own2.touch {a b : Nat} (h : Own2 t w lo hi u z1 v z2) (ht : Touch a b w w') (hd : hi ≤ a ∨ b ≤ lo) : Own2 t w' lo hi u z1 v z2 := by
  obtain ⟨l1, h1, l2, h2, o1, o2, s⟩ := h.ex
  exact ⟨l1, h1, l2, h2, o1.touch ht (by omega), o2.touch ht (by omega), s⟩
theorem Own2.below (h : Own2 t w lo hi u z1 v z2) (hb : Below w.heap.size w w') : Own2 t w' lo hi u z1 v z2 := by
  obtain ⟨l1, h1, l2, h2, o1, o2, s⟩ := h.ex
  exact ⟨l1, h1, l2, h2, o1.below hb, o2.below hb, s⟩
theorem Own2.low {L : Nat} (h : Own2 t w lo hi u z1 v z2) (hb : Below L w w') (hg : hi ≤ L) : Own2 t w' lo hi u z1 v z2 := by
  obtain ⟨l1, h1, l2, h2, o1, o2, s⟩ := h.ex
  exact ⟨l1, h1, l2, h2, Own.lo o1 hb (by omega), Own.lo o2 hb (by omega), s⟩
theorem Own2.drewN (h : Own2 t w lo hi u z1 v z2) (n : Nat) : Own2 t (w.drewN n) lo hi u z1 v z2 := h.below (bel_drewN (Below.refl _ _) n)
theorem Own2.drew (h : Own2 t w lo hi u z1 v z2) : Own2 t w.drew lo hi u z1 v z2 := h.below ((Below.refl _ _).drew)
theorem Own2.alloc (h : Own2 t w lo hi u z1 v z2) (o : Obj) : Own2 t (w.alloc o) lo hi u z1 v z2 := h.below ((Below.refl _ _).alloc (Nat.le_refl _) o)
theorem Own2.setCell (h : Own2 t w lo hi u z1 v z2) {p : Addr} (hp : p.block < lo ∨ hi ≤ p.block) (x : Value) : Own2 t (w.setCell p x) lo hi u z1 v z2 := by
  obtain ⟨l1, h1, l2, h2, o1, o2, s⟩ := h.ex
  exact ⟨l1, h1, l2, h2, o1.setCell (by omega) x, o2.setCell (by omega) x, s⟩
theorem Own2.wide {lo' hi' : Nat} (h : Own2 t w lo hi u z1 v z2) (hl : lo' ≤ lo) (hh : hi ≤ hi') : Own2 t w lo' hi' u z1 v z2 := by
  obtain ⟨l1, h1, l2, h2, o1, o2, s⟩ := h.ex
  exact ⟨l1, h1, l2, h2, o1, o2, by omega⟩
theorem Own2.len (h : Own2 t w lo hi u z1 v z2) : z1.length ≤ 1000000000 ∧ z2.length ≤ 1000000000 := by
  obtain ⟨l1, h1, l2, h2, o1, o2, s⟩ := h.ex
  exact ⟨o1.len, o2.len⟩
theorem Own2.rd {a b : Option Addr} {n c m d : Nat} (h : Own2 t w lo hi (.slice a n c) z1 (.slice b m d) z2) : Rd2 w a z1 b z2 := by
  obtain ⟨l1, h1, l2, h2, o1, o2, s⟩ := h.ex
  exact ⟨o1.rd, o2.rd⟩
theorem own2_nil (lo hi : Nat) (hl : lo ≤ hi) : Own2 t w lo hi (.slice none 0 0) [] (.slice none 0 0) [] :=
  ⟨lo, lo, lo, lo, ⟨World.ownsRow_nil _ _ _ _, by simp [Value.ownBlock], by simp⟩, ⟨World.ownsRow_nil _ _ _ _, by simp [Value.ownBlock], by simp⟩, by omega⟩
end

theorem l02Most_any (b : Int) (w : World) (h0 : 2 ≤ b) (h1 : b ≤ 16) :
    Calls Tryd.prog 131 #[.int .i64 b] w fun e w' => ∃ n : Nat, e = .returned (.int .i64 (n : Nat)) ∧ 1 ≤ n ∧ n ≤ 16 ∧ w' = w := by
  have bb : 4 ≤ b * b ∧ b * b ≤ 256 := ⟨Int.mul_le_mul h0 h0 (by omega) (by omega), Int.mul_le_mul h1 h1 (by omega) (by omega)⟩
  go_enter Tryd.func131, Tryd.ntmps131
  go_wp2_with fail
  go_loop [3, 4] (fun n p => ∃ (k : Nat) (c : Int), n = .int .i64 (k : Nat) ∧ p = .int .i64 c ∧ 1 ≤ k ∧ k ≤ 16 ∧ 0 ≤ c ∧ c ≤ 20000000000000) (fun n _ => 16 - (intOf n).toNat)
  case atStart => exact ⟨1, b * b, rfl, rfl, by omega, by omega, by omega, by omega⟩
  case round =>
    clear bb
    obtain ⟨k, c, rfl, rfl, hk1, hk2, c0, c1⟩ := hrel
    by_cases hc : c - 1 ≤ 1000000000000
    · by_cases hk : k < 16
      · have hm : 0 ≤ c * b ∧ c * b ≤ 1000000000001 * 16 := ⟨Int.mul_nonneg c0 (by omega), Int.mul_le_mul (by omega) h1 (by omega) (by omega)⟩
        obtain ⟨d, hd⟩ : ∃ d, d = c * b := ⟨_, rfl⟩
        rw [← hd] at hm
        have v1 : IntKind.i64.wrap (c * b) = d := by rw [← hd]; exact IntWalk.i64_in _ (by omega)
        clear hd
        go_wp2_with fail
        clear v1
        go_round
        case rel => exact ⟨k + 1, d, by go_num, rfl, by omega, by omega, by omega, by omega⟩
        case measure => (simp [intOf]) <;> omega
      · go_wp2_with fail
        refine bodyPost_ret (v := .int .i64 (k : Nat)) (by simp [results, Tryd.results131, go_sem]) rfl ⟨k, rfl, hk1, hk2, rfl⟩
    · go_wp2_with fail
      refine bodyPost_ret (v := .int .i64 (k : Nat)) (by simp [results, Tryd.results131, go_sem]) rfl ⟨k, rfl, hk1, hk2, rfl⟩

/-- Digits of a base. -/
def DigsOf (b : Int) (ds : List Int) : Prop := ∀ d ∈ ds, 0 ≤ d ∧ d < b
theorem digsOf_nil (b : Int) : DigsOf b [] := fun d hd => by cases hd
set_option maxHeartbeats 4000000 in
theorem drawDigits_any (s K : Nat) (b : Int) (n : Nat) (w : World) (h : Src w s K) (hK : K ≤ 800000) (b0 : 2 ≤ b) (b1 : b ≤ 16) (hn : n ≤ 100) :
    Calls Tryd.prog 86 #[.pointer (some ⟨s, 0, none⟩), .int .i64 b, .int .i64 (n : Nat)] w fun e w' => ∃ ds A C, e = .returned (.slice A n C) ∧ List.length ds = n ∧ DigsOf b ds ∧
      Own 2 w' w.heap.size w'.heap.size (.slice A n C) ds ∧ Touch s (s + 1) w w' ∧ Src w' s (K + 4 * n) := by
  have hs := h.lt
  obtain ⟨G, hG⟩ : ∃ G, G = w.heap.size := ⟨_, rfl⟩
  obtain ⟨u, hu⟩ : ∃ u, u = w.alloc (.cells #[] 2) := ⟨_, rfl⟩
  have hbu : Below w.heap.size w u := by rw [hu]; exact (by repeat (first | exact Below.refl _ _ | refine Below.setCell ?_ (by first | omega | (simp <;> omega)) _ | refine Below.alloc ?_ (by first | omega | (simp <;> omega)) _ | refine Below.drew ?_))
  have hsu : u.heap.size = G + 1 := by rw [hu, hG]; simp
  have oq : Own 2 u G (G + 1) (.slice (some ⟨G, 0, none⟩) 0 0) [] := by
    rw [hu, hG]
    exact own_of_row (zs := []) (by simpa using row_new 2 1 w #[] 0 (by simp) (by omega)) rfl (by simp)
  have su : Src u s K := h.lo hbu hs
  have tu : Touch s (s + 1) w u := Below.touch hbu
  have HU := Lib.hid hu
  have HG := Lib.hid hG
  have hsG : s < G := by omega
  clear hu h hbu
  go_enter Tryd.func86, Tryd.ntmps86
  go_wp2_with fail
  rw [← HU.out, ← hG]
  clear hG
  go_loopw [7, 8, 9] (fun o k _ wr => ∃ (j : Nat) (ds : List Int) (g : Nat) (E : Nat), j ≤ n ∧ k = .int .i64 (j : Nat) ∧ ds.length = j ∧ o = .slice (some ⟨g, 0, none⟩) j E ∧ DigsOf b ds ∧ G ≤ g ∧ Own 2 wr g (g + 1) (.slice (some ⟨g, 0, none⟩) j E) ds ∧ Touch s (s + 1) w wr ∧ Src wr s (K + 4 * j)) (fun _ k _ _ => n - (intOf k).toNat)
  case atStart => exact ⟨0, [], G, 0, Nat.zero_le _, rfl, rfl, rfl, digsOf_nil b, Nat.le_refl _, oq, tu, su⟩
  case round =>
    clear oq tu su
    obtain ⟨j, ds, g, E, hj, rfl, hl, rfl, hd, hg, ow, ht, hsrc⟩ := hrel
    have HL := Lib.hid hl
    clear hl
    have hsz := ht.size
    have hgl := ow.lo_le (k := g) rfl
    by_cases hlt : j < n
    · go_wp2_with fail
      refine (pick_any s _ b _ hsrc (by omega) (by omega)).mono ?_
      rintro e w1 ⟨z, rfl, z0, z1, hs1, ht1⟩
      have hl1 := ht1.size
      replace ow := ow.touch ht1 (.inr (by omega))
      replace ht := ht.trans ht1
      clear ht1 hsrc
      go_wp2_with fail
      refine (one_any s _ 3 _ hs1 (by omega) (by omega)).mono ?_
      rintro e w2 ⟨x, rfl, hs2, ht2⟩
      have hl2 := ht2.size
      replace ow := ow.touch ht2 (.inr (by omega))
      replace ht := ht.trans ht2
      clear ht2 hs1
      have fin : ∀ (y : Int), 0 ≤ y → y < b → ∀ g' E' w5, (g' = g ∨ g' = (w2.alloc (.cells #[.int .i64 y] 2)).heap.size) → Own 2 w5 g' (g' + 1) (.slice (some ⟨g', 0, none⟩) (j + 1) E') (ds ++ [y]) → Touch g (g + 1) (w2.alloc (.cells #[.int .i64 y] 2)) w5 →
          G ≤ g' ∧ DigsOf b (ds ++ [y]) ∧ Touch s (s + 1) w w5 ∧ Src w5 s (K + 4 * (j + 1)) := by
        intro y y0 y1 g' E' w5 hg' ow' ht5
        have tt : Touch G (w5.heap.size + w2.heap.size + 1) w2 w5 := ((Touch.refl G (w5.heap.size + w2.heap.size + 1) w2).alloc _).trans (ht5.widen (by omega) (by have := hgl.2.2; omega))
        have hgg : g' = g ∨ g' = w2.heap.size + 1 := by simpa using hg'
        refine ⟨by omega, ?_, ht.then_ tt (by have := HG.out; omega), (hs2.touch tt hsG).mono (by omega)⟩
        intro d hd'
        rcases List.mem_append.1 hd' with h1 | h1
        · exact hd d h1
        · rw [List.mem_singleton] at h1; subst h1; exact ⟨y0, y1⟩
      have v1 : IntKind.i64.wrap (b - 1) = b - 1 := fits_int _ (by omega) (by omega)
      cases x with
      | true =>
        go_wp2_with (at_builtin; go_must (refine wpList_appAt rfl (.tmp 23) (.tmp 25) 45 2 rfl Tryd.underlying45 info_int64 rfl (ow.alloc _) HL.out ⟨w2.heap.size, 0, none⟩ 1 (b - 1) rfl (cell_new1 w2 _ _) (by omega) (by simp <;> omega) ?_); intro g' E' w5 hg' own5 ht5; have hf := Lib.hid (fin (b - 1) (by omega) (by omega) g' E' w5 hg' own5 ht5); clear ht5 hg')
        clear fin
        go_roundw
        case rel => exact ⟨j + 1, ds ++ [b - 1], g', E', by omega, by go_num, by simp [HL.out], rfl, hf.out.2.1, hf.out.1, own5, hf.out.2.2.1, hf.out.2.2.2⟩
        case measure => (simp [intOf]) <;> omega
      | false =>
        go_wp2_with (at_builtin; go_must (refine wpList_appAt rfl (.tmp 23) (.tmp 25) 45 2 rfl Tryd.underlying45 info_int64 rfl (ow.alloc _) HL.out ⟨w2.heap.size, 0, none⟩ 1 (z) rfl (cell_new1 w2 _ _) (by omega) (by simp <;> omega) ?_); intro g' E' w5 hg' own5 ht5; have hf := Lib.hid (fin (z) (by omega) (by omega) g' E' w5 hg' own5 ht5); clear ht5 hg')
        clear fin
        go_roundw
        case rel => exact ⟨j + 1, ds ++ [z], g', E', by omega, by go_num, by simp [HL.out], rfl, hf.out.2.1, hf.out.1, own5, hf.out.2.2.1, hf.out.2.2.2⟩
        case measure => (simp [intOf]) <;> omega
    · obtain rfl : j = n := by omega
      go_wp2_with fail
      exact bodyPost_ret (v := .slice (some ⟨g, 0, none⟩) j E) (by simp [results, Tryd.results86, go_sem]) rfl ⟨ds, some ⟨g, 0, none⟩, E, rfl, HL.out, hd, ow.wide (by have := HG.out; omega) (by omega), ht, hsrc⟩

/-- A register that has been drawn. -/
structure DrawnR (b : Int) (ds : List Int) (m : Nat) : Prop where
  b0 : 2 ≤ b
  b1 : b ≤ 12
  n0 : 1 ≤ ds.length
  n1 : ds.length ≤ m
  digs : DigsOf b ds
/-- A register in a box, whose base has been chosen. -/
def RegAt (w : World) (B : Nat) (wx : World) : Prop := ∃ b : Int, 2 ≤ b ∧ b ≤ 12 ∧ Bx wx B 47 #[.int .i64 b, .slice none 0 0] ∧ Touch B (B + 1) w wx
set_option maxHeartbeats 8000000 in
theorem draw02_any (s K m : Nat) (w : World) (h : Src w s K) (hK : K ≤ 700000) (m0 : 1 ≤ m) (m1 : m ≤ 16) :
    Calls Tryd.prog 85 #[.pointer (some ⟨s, 0, none⟩), .int .i64 (m : Nat)] w fun e w' => ∃ b ds A C, e = .returned (.agg #[.int .i64 b, .slice A (List.length ds) C]) ∧ DrawnR b ds m ∧
      Own 2 w' w.heap.size w'.heap.size (.slice A ds.length C) ds ∧ Touch s (s + 1) w w' ∧ Src w' s (K + 6 + 4 * m) := by
  have hs := h.lt
  obtain ⟨r, hr⟩ : ∃ r, r = w.heap.size := ⟨_, rfl⟩
  obtain ⟨u, hu⟩ : ∃ u, u = w.alloc (.cells #[.int .i64 0, .slice none 0 0] 47) := ⟨_, rfl⟩
  have br : Bx u r 47 #[.int .i64 0, .slice none 0 0] := by rw [hu, hr]; exact Bx.new _ _ _
  have hbu : Below w.heap.size w u := by rw [hu]; exact (by repeat (first | exact Below.refl _ _ | refine Below.setCell ?_ (by first | omega | (simp <;> omega)) _ | refine Below.alloc ?_ (by first | omega | (simp <;> omega)) _ | refine Below.drew ?_))
  have hsu : u.heap.size = r + 1 := by rw [hu, hr]; simp
  have su : Src u s K := h.lo hbu hs
  have tu : Touch s (s + 1) w u := Below.touch hbu
  have HU := Lib.hid hu
  have HR := Lib.hid hr
  clear hu h hbu
  have hsr : s < r := by omega
  go_enter Tryd.func85, Tryd.ntmps85
  go_wp2_with fail
  rw [← HU.out, ← hr]
  clear hr
  refine (pick_any s K 11 u su (by omega) (by omega)).mono ?_
  rintro e w1 ⟨z, rfl, z0, z1, hs1, ht1⟩
  have v1 : IntKind.i64.wrap (2 + z) = 2 + z := fits_int _ (by omega) (by omega)
  have hl1 := ht1.size
  replace br := br.touch ht1 (by omega)
  replace tu := tu.trans ht1
  clear ht1 su
  go_wp2_with fail
  obtain ⟨B, hB⟩ : ∃ B, B = w1.heap.size := ⟨_, rfl⟩
  obtain ⟨v, hv⟩ : ∃ v, v = w1.alloc (.cells #[.int .i64 (2 + z), .slice none 0 0] 47) := ⟨_, rfl⟩
  rw [← hv, ← hB]
  have hbv : Below w1.heap.size w1 v := by rw [hv]; exact (by repeat (first | exact Below.refl _ _ | refine Below.setCell ?_ (by first | omega | (simp <;> omega)) _ | refine Below.alloc ?_ (by first | omega | (simp <;> omega)) _ | refine Below.drew ?_))
  have bB : Bx v B 47 #[.int .i64 (2 + z), .slice none 0 0] := by rw [hv, hB]; exact Bx.new _ _ _
  have hvz : v.heap.size = B + 1 := by rw [hv, hB]; simp
  have sv := hs1.lo hbv (by omega)
  replace tu := tu.trans (Below.touch hbv)
  replace br := br.below hbv
  clear hv hbv hs1
  have hrB : r < B := by omega
  refine (one_any s _ 2 v sv (by omega) (by omega)).mono ?_
  rintro e w2 ⟨x, rfl, hs2, ht2⟩
  have hl2 := ht2.size
  replace bB := bB.touch ht2 (by omega)
  replace br := br.touch ht2 (by omega)
  replace tu := tu.trans ht2
  clear ht2 sv
  have HB := Lib.hid hB
  have hb0 : 2 ≤ 2 + z ∧ 2 + z ≤ 12 := by omega
  clear hB z0 z1 v1
  go_upto_if 11 with fail
  go_cut [5] from 12 (fun s5 wx => s5 = .pointer (some ⟨B, 0, none⟩) ∧ RegAt w2 B wx)
  case first =>
    have c0 := bB.at_ 0 rfl
    have f0 := bB.thaw 0
    have hBl := bB.lt
    cases x with
    | true =>
      go_wp2_with fail
      go_meet
      case rel => exact ⟨rfl, 10, by omega, by omega, bB.set_ 0 (.int .i64 10), (Touch.refl _ _ _).setCell (by simp) (by simp) _⟩
    | false =>
      go_wp2_with fail
      go_meet
      case rel => exact ⟨rfl, 2 + z, hb0.1, hb0.2, bB, Touch.refl _ _ _⟩
  case rest =>
    obtain ⟨rfl, b, b0, b1, b3, ht3⟩ := hcut
    obtain ⟨w3, rfl⟩ : ∃ v, v = wc := ⟨_, rfl⟩
    have hl3 := ht3.size
    replace br := br.touch ht3 (by omega)
    have hs3 := hs2.touch ht3 (by omega)
    replace tu := tu.then_ ht3 (by have := HR.out; omega)
    clear bB hs2 ht3
    have hB3 := b3.lt
    have k0 : ∀ w', Touch s (s + 1) w3 w' → w'.cell? ⟨B, 0, none⟩ = some (.int .i64 b) := fun _ h => keptT h (b3.at_ 0 rfl) (by omega)
    go_upto_region 4 with fail
    refine wp_region_marked (fun w' => Touch s (s + 1) w3 w') 12 (by kernel_rfl) ?_
    have hS : Touch s (s + 1) w3 w3.drew := ⟨rfl, rfl, rfl, Nat.le_refl _, fun _ _ _ => rfl⟩
    refine wpAnyM_take (i := 0) (v := ?_) rfl (by kernel_rfl) (by kernel_rfl) (by kernel_rfl) (by kernel_rfl) (by kernel_rfl) (fun _ _ _ h => h) hS (.inl ⟨by rfl, ?_⟩) ?_
    rotate_left 1
    · intro w' hS'; go_simp; try with_reducible rfl
    simp only [Act.put, List.setIfInBounds_toArray, List.set_cons_succ, List.set_cons_zero, List.getElem_toArray, List.getElem_cons_zero]
    refine wpAnyM_take (i := 1) (v := ?_) rfl (by kernel_rfl) (by kernel_rfl) (by kernel_rfl) (by kernel_rfl) (by kernel_rfl) (fun _ _ _ h => h) hS (.inl ⟨by rfl, ?_⟩) ?_
    rotate_left 1
    · intro w' hS'; go_simp; try with_reducible rfl
    simp only [Act.put, List.setIfInBounds_toArray, List.set_cons_succ, List.set_cons_zero, List.getElem_toArray, List.getElem_cons_succ, List.getElem_cons_zero]
    refine wpAnyM_take (i := 2) (v := ?_) rfl (by kernel_rfl) (by kernel_rfl) (by kernel_rfl) (by kernel_rfl) (by kernel_rfl) (fun _ _ _ h => h) hS (.inl ⟨by rfl, ?_⟩) ?_
    rotate_left 1
    · intro w' hS'; go_simp; try with_reducible rfl
    simp only [Act.put, List.setIfInBounds_toArray, List.set_cons_succ, List.set_cons_zero, List.getElem_toArray, List.getElem_cons_succ, List.getElem_cons_zero]
    refine wpAnyM_take (i := 3) (v := ?_) rfl (by kernel_rfl) (by kernel_rfl) (by kernel_rfl) (by kernel_rfl) (by kernel_rfl) (fun _ _ _ h => h) hS (.inl ⟨by rfl, ?_⟩) ?_
    rotate_left 1
    · intro w' hS'; go_simp; try with_reducible rfl
    simp only [Act.put, List.setIfInBounds_toArray, List.set_cons_succ, List.set_cons_zero, List.getElem_toArray, List.getElem_cons_succ, List.getElem_cons_zero]
    refine wpAnyM_take (i := 4) (v := ?_) rfl (by kernel_rfl) (by kernel_rfl) (by kernel_rfl) (by kernel_rfl) (by kernel_rfl) (fun _ _ _ h => h) hS (.inl ⟨by rfl, ?_⟩) ?_
    rotate_left 1
    · intro w' hS'; go_simp; try with_reducible rfl
    simp only [Act.put, List.setIfInBounds_toArray, List.set_cons_succ, List.set_cons_zero, List.getElem_toArray, List.getElem_cons_succ, List.getElem_cons_zero]
    refine wpAnyM_take (i := 5) (v := ?_) rfl (by kernel_rfl) (by kernel_rfl) (by kernel_rfl) (by kernel_rfl) (by kernel_rfl) (fun _ _ _ h => h) hS (.inl ⟨by rfl, ?_⟩) ?_
    rotate_left 1
    · intro w' hS'; go_simp; try with_reducible rfl
    simp only [Act.put, List.setIfInBounds_toArray, List.set_cons_succ, List.set_cons_zero, List.getElem_toArray, List.getElem_cons_succ, List.getElem_cons_zero]
    refine wpAnyM_take (i := 6) (v := ?_) rfl (by kernel_rfl) (by kernel_rfl) (by kernel_rfl) (by kernel_rfl) (by kernel_rfl) (fun _ _ _ h => h) hS (.inl ⟨by rfl, ?_⟩) ?_
    rotate_left 1
    · intro w' hS'; go_simp; try with_reducible rfl
    simp only [Act.put, List.setIfInBounds_toArray, List.set_cons_succ, List.set_cons_zero, List.getElem_toArray, List.getElem_cons_succ, List.getElem_cons_zero]
    clear k0
    refine wpAnyM_one (i := 7) (by kernel_rfl) rfl (by rfl) (fun K hK => ?_)
    go_simp
    refine (l02Most_any b w3.drew b0 (by omega)).mono ?_
    rintro e w4 ⟨n, rfl, n0, n1, rfl⟩
    refine hK _ _ (.inr hS) ?_
    try simp only [Act.put, List.setIfInBounds_toArray, List.set_cons_succ, List.set_cons_zero, List.getElem_toArray, List.getElem_cons_succ, List.getElem_cons_zero]
    clear hK K
    refine wpAnyM_one (i := 8) (by kernel_rfl) rfl (by rfl) (fun K hK => ?_)
    go_simp
    refine (l00Min_any (m : Nat) (n : Nat) w3.drew).mono ?_
    rintro e w4 ⟨rfl, hw⟩
    subst w4
    refine hK _ _ (.inr hS) ?_
    try simp only [Act.put, List.setIfInBounds_toArray, List.set_cons_succ, List.set_cons_zero, List.getElem_toArray, List.getElem_cons_succ, List.getElem_cons_zero]
    clear hK K
    refine wpAnyM_one (i := 9) (by kernel_rfl) rfl (by rfl) (fun K hK => ?_)
    go_simp
    refine (pick_any s _ _ w3.drew (hs3.lo (L := w3.heap.size) ((Below.refl _ _).drew) (by omega)) (by omega) (by omega)).mono ?_
    rintro e w5 ⟨x, rfl, x0, x1, hs5, ht5⟩
    have hx : x ≤ (m : Int) - 1 := by omega
    replace hS := hS.trans ht5
    refine hK _ _ (.inr hS) ?_
    try simp only [Act.put, List.setIfInBounds_toArray, List.set_cons_succ, List.set_cons_zero, List.getElem_toArray, List.getElem_cons_succ, List.getElem_cons_zero]
    clear hK K
    have v2 : IntKind.i64.wrap (1 + x) = 1 + x := fits_int _ (by omega) (by omega)
    obtain ⟨N, hN⟩ : ∃ N : Nat, 1 + x = (N : Int) := ⟨(1 + x).toNat, by omega⟩
    have hN0 : 1 ≤ N ∧ N ≤ m := by omega
    rw [hN] at v2
    refine wpAnyM_one (i := 10) (by kernel_rfl) rfl (by rfl) (fun K hK => ?_)
    go_simp
    refine hK _ _ (.inr hS) ?_
    try simp only [Act.put, List.setIfInBounds_toArray, List.set_cons_succ, List.set_cons_zero, List.getElem_toArray, List.getElem_cons_succ, List.getElem_cons_zero]
    clear hK K
    refine wpAnyM_one (i := 11) (by kernel_rfl) rfl (by rfl) (fun K hK => ?_)
    go_simp
    refine (drawDigits_any s _ b N w5 hs5 (by omega) b0 (by omega) (by omega)).mono ?_
    rintro e w6 ⟨ds, A, C, rfl, hds, hdg, ow, ht6, hs6⟩
    have hl5 := hS.size
    replace hS := hS.trans ht6
    refine hK _ _ (.inr hS) ?_
    try simp only [Act.put, List.setIfInBounds_toArray, List.set_cons_succ, List.set_cons_zero, List.getElem_toArray, List.getElem_cons_succ, List.getElem_cons_zero]
    clear hK K
    have hl6 := hS.size
    have b6 := b3.touch hS (by omega)
    have br6 := br.touch hS (by omega)
    have f1 := b6.thaw 1
    have c1 := b6.at_ 1 rfl
    refine wpAnyM_one (i := 12) (by kernel_rfl) rfl (by rfl) (fun K hK => ?_)
    go_simp
    refine hK _ _ (.inr hS) ?_
    try simp only [Act.put, List.setIfInBounds_toArray, List.set_cons_succ, List.set_cons_zero, List.getElem_toArray, List.getElem_cons_succ, List.getElem_cons_zero]
    clear hK K
    refine wpAnyM_one (i := 13) (by kernel_rfl) rfl (by rfl) (fun K hK => ?_)
    go_simp
    refine hK _ _ (.inl rfl) ?_
    clear hK K
    refine wpAnyM_done (by kernel_rfl) ?_ _
    obtain ⟨w7, hw7⟩ : ∃ v, v = w6.setCell ⟨B, 1, none⟩ (.slice A N C) := ⟨_, rfl⟩
    rw [← hw7]
    have b7 : Bx w7 B 47 #[.int .i64 b, .slice A N C] := by rw [hw7]; exact b6.set_ 1 _
    have br7 : Bx w7 r 47 #[.int .i64 0, .slice none 0 0] := by rw [hw7]; exact br6.far (by simp; omega) _
    have hwz : w7.heap.size = w6.heap.size := by rw [hw7]; simp
    have tt : Touch B (B + 1) w6 w7 := by rw [hw7]; exact (Touch.refl _ _ _).setCell (by simp) (by simp) _
    have ow7 : Own 2 w7 w5.heap.size w7.heap.size (.slice A N C) ds := by rw [hwz]; exact ow.touch tt (.inr (by omega))
    have tu7 := (tu.trans hS).then_ tt (by have := HR.out; omega)
    have hs7 := hs6.touch tt (by omega)
    clear hw7 c1 f1
    have d0 := b7.at_ 0 rfl
    have d1 := b7.at_ 1 rfl
    have c0 := br7.at_ 0 rfl
    have c1 := br7.at_ 1 rfl
    have f0 := br7.thaw 0
    have f1 := br7.thaw 1
    have hr7 := br7.lt
    have bz := (br7.set_ 0 (.int .i64 b)).set_ 1 (.slice A N C)
    have r0 := bz.at_ 0 rfl
    have r1 := bz.at_ 1 rfl
    go_wp2_with fail
    refine bodyPost_ret (v := .agg #[.int .i64 b, .slice A N C]) (by simp [results, Tryd.results85, go_sem, r0, r1]) rfl ?_
    subst hds
    refine ⟨b, ds, A, C, rfl, ⟨b0, b1, hN0.1, hN0.2, hdg⟩, ?_, ?_, ?_⟩
    · exact ((ow7.setCell (p := ⟨r, 0, none⟩) (.inl (by simp; omega)) (.int .i64 b)).setCell (p := ⟨r, 1, none⟩) (.inl (by simp; omega)) (.slice A ds.length C)).wide (by have := HR.out; omega) (by simp)
    · exact tu7.then_ (((Touch.refl r (r + 1) w7).setCell (by simp) (by simp) _).setCell (by simp) (by simp) _) (by have := HR.out; omega)
    · exact (hs7.touch (((Touch.refl r (r + 1) w7).setCell (by simp) (by simp) _).setCell (by simp) (by simp) _) (by omega)).mono (by omega)

set_option maxHeartbeats 8000000 in
theorem a2Registers_any (a : Option Addr) (zs : List Int) (c : Nat) (w : World) (h : RdU w a zs) :
    Calls Tryd.prog 41 #[.slice a zs.length c] w fun e w' => ∃ b xs ys A C D E, e = .returned (.tuple #[.agg #[.int .i64 b, .slice A (List.length xs) C], .agg #[.int .i64 b, .slice D (List.length ys) E]]) ∧
      DrawnR b xs 7 ∧ ys.length = xs.length ∧ DigsOf b ys ∧ Rd w' A xs ∧ Rd w' D ys ∧ Below w.heap.size w w' := by
  obtain ⟨r, hr⟩ : ∃ r, r = w.heap.size := ⟨_, rfl⟩
  obtain ⟨u, hu⟩ : ∃ u, u = (w.alloc (.cells #[.int .i64 0, .slice none 0 0] 47)).alloc (.cells #[.int .i64 0, .slice none 0 0] 47) := ⟨_, rfl⟩
  have br : Bx u r 47 #[.int .i64 0, .slice none 0 0] := by rw [hu, hr]; exact (Bx.new _ _ _).alloc _
  have bq : Bx u (r + 1) 47 #[.int .i64 0, .slice none 0 0] := by rw [hu, hr]; simpa using Bx.new (w.alloc (.cells #[.int .i64 0, .slice none 0 0] 47)) #[.int .i64 0, .slice none 0 0] 47
  have hbel : Below w.heap.size w u := by rw [hu]; exact (by repeat (first | exact Below.refl _ _ | refine Below.setCell ?_ (by first | omega | (simp <;> omega)) _ | refine Below.alloc ?_ (by first | omega | (simp <;> omega)) _ | refine Below.drew ?_))
  have hu0 : u.heap.size = r + 1 + 1 := by rw [hu, hr]; simp
  have HU := Lib.hid hu
  have HR := Lib.hid hr
  clear hu
  go_enter Tryd.func41, Tryd.ntmps41
  go_wp2_with fail
  rw [← HU.out, ← hr]
  clear hr
  refine (from_any a zs c u (h.below hbel)).mono ?_
  rintro e w1 ⟨g, rfl, hg, hs, hb⟩
  have hl1 := hb.size
  have hgl := hs.lt
  replace br := br.below hb
  replace bq := bq.below hb
  replace hbel := hbel.trans (hb.mono hbel.size)
  clear hb
  go_wp2_with fail
  refine (draw02_any g 0 7 w1 hs (by omega) (by omega) (by omega)).mono ?_
  rintro e w2 ⟨b, xs, A, C, rfl, dr, ox, ht2, hs2⟩
  have hl2 := ht2.size
  replace br := br.touch ht2 (by omega)
  replace bq := bq.touch ht2 (by omega)
  replace hbel := hbel.trans (ht2.below (by have := HR.out; omega) hbel.size)
  clear ht2 hs
  go_upto_region 3 with fail
  obtain ⟨B, hB⟩ : ∃ B, B = w2.heap.size := ⟨_, rfl⟩
  obtain ⟨v, hv⟩ : ∃ v, v = w2.alloc (.cells #[.int .i64 b, .slice A xs.length C] 47) := ⟨_, rfl⟩
  rw [← hv, ← hB]
  have hbv : Below w2.heap.size w2 v := by rw [hv]; exact (by repeat (first | exact Below.refl _ _ | refine Below.setCell ?_ (by first | omega | (simp <;> omega)) _ | refine Below.alloc ?_ (by first | omega | (simp <;> omega)) _ | refine Below.drew ?_))
  have bB : Bx v B 47 #[.int .i64 b, .slice A xs.length C] := by rw [hv, hB]; exact Bx.new _ _ _
  have hvz : v.heap.size = B + 1 := by rw [hv, hB]; simp
  have sv := hs2.lo hbv (by omega)
  replace ox := ox.below hbv
  replace br := br.below hbv
  replace bq := bq.below hbv
  replace hbel := hbel.trans (hbv.mono hbel.size)
  have HB := Lib.hid hB
  have hgB : g < B := by omega
  have hrB : r + 1 < g := by omega
  have hl12 : w2.heap.size ≤ B := by omega
  clear hv hbv hs2 hB
  have k0 : ∀ w', Touch r (g + 1) v w' → w'.cell? ⟨B, 0, none⟩ = some (.int .i64 b) := fun _ h => keptT h (bB.at_ 0 rfl) (by omega)
  have k1 : ∀ w', Touch r (g + 1) v w' → w'.cell? ⟨B, 1, none⟩ = some (.slice A xs.length C) := fun _ h => keptT h (bB.at_ 1 rfl) (by omega)
  refine wp_region_marked (fun w' => Touch r (g + 1) v w') 12 (by kernel_rfl) ?_
  have hS : Touch r (g + 1) v v.drew := ⟨rfl, rfl, rfl, Nat.le_refl _, fun _ _ _ => rfl⟩
  have hT : Touch g (g + 1) v v.drew := ⟨rfl, rfl, rfl, Nat.le_refl _, fun _ _ _ => rfl⟩
  refine wpAnyM_take (i := 0) (v := ?_) rfl (by kernel_rfl) (by kernel_rfl) (by kernel_rfl) (by kernel_rfl) (by kernel_rfl) (fun _ _ _ h => h) hS (.inl ⟨by rfl, ?_⟩) ?_
  rotate_left 1
  · intro w' hS'; go_simp; try with_reducible rfl
  simp only [Act.put, List.setIfInBounds_toArray, List.set_cons_succ, List.set_cons_zero, List.getElem_toArray, List.getElem_cons_zero]
  refine wpAnyM_take (i := 1) (v := ?_) rfl (by kernel_rfl) (by kernel_rfl) (by kernel_rfl) (by kernel_rfl) (by kernel_rfl) (fun _ _ _ h => h) hS (.inl ⟨by rfl, ?_⟩) ?_
  rotate_left 1
  · intro w' hS'; go_simp; try with_reducible rfl
  simp only [Act.put, List.setIfInBounds_toArray, List.set_cons_succ, List.set_cons_zero, List.getElem_toArray, List.getElem_cons_succ, List.getElem_cons_zero]
  refine wpAnyM_take (i := 2) (v := ?_) rfl (by kernel_rfl) (by kernel_rfl) (by kernel_rfl) (by kernel_rfl) (by kernel_rfl) (fun _ _ _ h => h) hS (.inl ⟨by rfl, ?_⟩) ?_
  rotate_left 1
  · intro w' hS'; go_simp; try with_reducible rfl
  simp only [Act.put, List.setIfInBounds_toArray, List.set_cons_succ, List.set_cons_zero, List.getElem_toArray, List.getElem_cons_succ, List.getElem_cons_zero]
  refine wpAnyM_take (i := 3) (v := ?_) rfl (by kernel_rfl) (by kernel_rfl) (by kernel_rfl) (by kernel_rfl) (by kernel_rfl) (fun _ _ _ h => h) hS (.inl ⟨by rfl, ?_⟩) ?_
  rotate_left 1
  · intro w' hS'; go_simp; try with_reducible rfl
  simp only [Act.put, List.setIfInBounds_toArray, List.set_cons_succ, List.set_cons_zero, List.getElem_toArray, List.getElem_cons_succ, List.getElem_cons_zero]
  refine wpAnyM_take (i := 4) (v := ?_) rfl (by kernel_rfl) (by kernel_rfl) (by kernel_rfl) (by kernel_rfl) (by kernel_rfl) (fun _ _ _ h => h) hS (.inl ⟨by rfl, ?_⟩) ?_
  rotate_left 1
  · intro w' hS'; go_simp; try with_reducible rfl
  simp only [Act.put, List.setIfInBounds_toArray, List.set_cons_succ, List.set_cons_zero, List.getElem_toArray, List.getElem_cons_succ, List.getElem_cons_zero]
  refine wpAnyM_take (i := 5) (v := ?_) rfl (by kernel_rfl) (by kernel_rfl) (by kernel_rfl) (by kernel_rfl) (by kernel_rfl) (fun _ _ _ h => h) hS (.inl ⟨by rfl, ?_⟩) ?_
  rotate_left 1
  · intro w' hS'; go_simp; try with_reducible rfl
  simp only [Act.put, List.setIfInBounds_toArray, List.set_cons_succ, List.set_cons_zero, List.getElem_toArray, List.getElem_cons_succ, List.getElem_cons_zero]
  refine wpAnyM_take (i := 6) (v := ?_) rfl (by kernel_rfl) (by kernel_rfl) (by kernel_rfl) (by kernel_rfl) (by kernel_rfl) (fun _ _ _ h => h) hS (.inl ⟨by rfl, ?_⟩) ?_
  rotate_left 1
  · intro w' hS'; go_simp; try with_reducible rfl
  simp only [Act.put, List.setIfInBounds_toArray, List.set_cons_succ, List.set_cons_zero, List.getElem_toArray, List.getElem_cons_succ, List.getElem_cons_zero]
  refine wpAnyM_take (i := 7) (v := ?_) rfl (by kernel_rfl) (by kernel_rfl) (by kernel_rfl) (by kernel_rfl) (by kernel_rfl) (fun _ _ _ h => h) hS (.inl ⟨by rfl, ?_⟩) ?_
  rotate_left 1
  · intro w' hS'; go_simp; try with_reducible rfl
  simp only [Act.put, List.setIfInBounds_toArray, List.set_cons_succ, List.set_cons_zero, List.getElem_toArray, List.getElem_cons_succ, List.getElem_cons_zero]
  refine wpAnyM_take (i := 8) (v := ?_) rfl (by kernel_rfl) (by kernel_rfl) (by kernel_rfl) (by kernel_rfl) (by kernel_rfl) (fun _ _ _ h => h) hS (.inl ⟨by rfl, ?_⟩) ?_
  rotate_left 1
  · intro w' hS'; go_simp; try with_reducible rfl
  simp only [Act.put, List.setIfInBounds_toArray, List.set_cons_succ, List.set_cons_zero, List.getElem_toArray, List.getElem_cons_succ, List.getElem_cons_zero]
  clear k0 k1
  refine wpAnyM_one (i := 9) (by kernel_rfl) rfl (by rfl) (fun K hK => ?_)
  go_simp
  refine (drawDigits_any g _ b xs.length v.drew (sv.lo (L := v.heap.size) ((Below.refl _ _).drew) (by omega)) (by omega) dr.b0 (by have := dr.b1; omega) (by have := dr.n1; omega)).mono ?_
  rintro e w3 ⟨ys, D, E, rfl, hys, hdg, oy, ht3, hs3⟩
  replace hT := hT.trans ht3
  replace hS := hS.trans (ht3.widen (by omega) (Nat.le_refl _))
  have hl3 := hS.size
  refine hK _ _ (.inr hS) ?_
  try simp only [Act.put, List.setIfInBounds_toArray, List.set_cons_succ, List.set_cons_zero, List.getElem_toArray, List.getElem_cons_succ, List.getElem_cons_zero]
  clear hK K
  refine wpAnyM_take (i := 10) (v := ?_) rfl (by kernel_rfl) (by kernel_rfl) (by kernel_rfl) (by kernel_rfl) (by kernel_rfl) (fun _ _ _ h => h) hS (.inl ⟨by rfl, ?_⟩) ?_
  rotate_left 1
  · intro w' hS'; go_simp; try with_reducible rfl
  simp only [Act.put, List.setIfInBounds_toArray, List.set_cons_succ, List.set_cons_zero, List.getElem_toArray, List.getElem_cons_succ, List.getElem_cons_zero]
  have ox3 := ox.touch hT (.inr (by omega))
  have br3 := br.touch hT (by omega)
  have bq3 := bq.touch hT (by omega)
  have hbel3 := hbel.trans (hT.below (by have := HR.out; omega) hbel.size)
  have f0 := br3.thaw 0
  have f1 := br3.thaw 1
  have c0 := br3.at_ 0 rfl
  have c1 := br3.at_ 1 rfl
  have hrl := br3.lt
  refine wpAnyM_one (i := 11) (by kernel_rfl) rfl (by rfl) (fun K hK => ?_)
  go_simp
  obtain ⟨w4, hw4⟩ : ∃ v, v = (w3.setCell ⟨r, 0, none⟩ (.int .i64 b)).setCell ⟨r, 1, none⟩ (.slice A xs.length C) := ⟨_, rfl⟩
  rw [← hw4]
  have tt : Touch r (r + 1) w3 w4 := by rw [hw4]; exact ((Touch.refl _ _ _).setCell (by simp) (by simp) _).setCell (by simp) (by simp) _
  have br4 : Bx w4 r 47 #[.int .i64 b, .slice A xs.length C] := by rw [hw4]; exact (br3.set_ 0 _).set_ 1 _
  have bq4 := bq3.touch tt (by omega)
  have ox4 := ox3.touch tt (.inr (by omega))
  have hvg : g < v.heap.size := by omega
  have oy4 := oy.touch tt (.inr (by simp; omega))
  have hbel4 := hbel3.trans (tt.below (by have := HR.out; omega) hbel3.size)
  have hl4 := tt.size
  clear hw4 f0 f1 c0 c1
  refine hK _ _ (.inr (hS.trans (tt.widen (Nat.le_refl _) (by omega)))) ?_
  try simp only [Act.put, List.setIfInBounds_toArray, List.set_cons_succ, List.set_cons_zero, List.getElem_toArray, List.getElem_cons_succ, List.getElem_cons_zero]
  clear hK K
  have f0 := bq4.thaw 0
  have f1 := bq4.thaw 1
  have c0 := bq4.at_ 0 rfl
  have c1 := bq4.at_ 1 rfl
  have hql := bq4.lt
  refine wpAnyM_one (i := 12) (by kernel_rfl) rfl (by rfl) (fun K hK => ?_)
  go_simp
  obtain ⟨w5, hw5⟩ : ∃ v, v = (w4.setCell ⟨r + 1, 0, none⟩ (.int .i64 b)).setCell ⟨r + 1, 1, none⟩ (.slice D xs.length E) := ⟨_, rfl⟩
  rw [← hw5]
  have t5 : Touch (r + 1) (r + 1 + 1) w4 w5 := by rw [hw5]; exact ((Touch.refl _ _ _).setCell (by simp) (by simp) _).setCell (by simp) (by simp) _
  have bq5 : Bx w5 (r + 1) 47 #[.int .i64 b, .slice D xs.length E] := by rw [hw5]; exact (bq4.set_ 0 _).set_ 1 _
  have br5 := br4.touch t5 (by omega)
  have ox5 := ox4.touch t5 (.inr (by omega))
  have oy5 := oy4.touch t5 (.inr (by simp; omega))
  have hbel5 := hbel4.trans (t5.below (by have := HR.out; omega) hbel4.size)
  clear hw5 f0 f1 c0 c1
  refine hK _ _ (.inl rfl) ?_
  clear hK K
  refine wpAnyM_done (by kernel_rfl) ?_ _
  have r0 := br5.at_ 0 rfl
  have r1 := br5.at_ 1 rfl
  have q0 := bq5.at_ 0 rfl
  have q1 := bq5.at_ 1 rfl
  go_wp2_with fail
  refine bodyPost_ret (v := .tuple #[.agg #[.int .i64 b, .slice A xs.length C], .agg #[.int .i64 b, .slice D xs.length E]]) (by simp [results, Tryd.results41, go_sem, r0, r1, q0, q1]) rfl ?_
  exact ⟨b, xs, ys, A, C, D, E, by rw [hys], dr, hys, hdg, ox5.rd, (by rw [← hys] at oy5; exact oy5.rd), hbel5⟩

/-- The table of words, as the program's variable holds it. -/
def FaultWords (w : World) : Prop :=
  w.cell? ⟨1, 0, none⟩ = some (.string ⟨#[]⟩) ∧ w.cell? ⟨1, 1, none⟩ = some (.string ⟨#[109, 105, 115, 115, 105, 110, 103]⟩) ∧ w.cell? ⟨1, 2, none⟩ = some (.string ⟨#[115, 116, 117, 99, 107]⟩) ∧ w.cell? ⟨1, 3, none⟩ = some (.string ⟨#[108, 97, 116, 101]⟩)
theorem faultWords_below {w w' : World} (h : FaultWords w) (hb : Below w.heap.size w w') : FaultWords w' := ⟨kept hb h.1, kept hb h.2.1, kept hb h.2.2.1, kept hb h.2.2.2⟩
def wdV (c : Int) : ByteArray :=
  match c with
  | 1 => ⟨#[109, 105, 115, 115, 105, 110, 103]⟩
  | 2 => ⟨#[115, 116, 117, 99, 107]⟩
  | 3 => ⟨#[108, 97, 116, 101]⟩
  | _ => ByteArray.empty
theorem wdV_out {c : Int} (h : c < 1 ∨ 3 < c) : wdV c = ByteArray.empty := by
  unfold wdV
  split <;> first | omega | rfl
/-- The text of a fault. -/
def ftV (x : Int × Int) : ByteArray := if inB x.1 1 3 = true then (if inB x.2 0 15 = true then wdV x.1 ++ ⟨#[32]⟩ ++ ⟨(Lib.itoa x.2).toArray⟩ else ByteArray.empty) else ByteArray.empty
theorem ftV_kind {k l : Int} (h : inB k 1 3 = false) : ftV (k, l) = ByteArray.empty := by simp [ftV, h]
theorem ftV_lever {k l : Int} (h : inB k 1 3 = true) (h2 : inB l 0 15 = false) : ftV (k, l) = ByteArray.empty := by simp [ftV, h, h2]
theorem ftV_ok {k l : Int} (h : inB k 1 3 = true) (h2 : inB l 0 15 = true) : ftV (k, l) = wdV k ++ ⟨#[32]⟩ ++ ⟨(Lib.itoa l).toArray⟩ := by simp [ftV, h, h2]

theorem itoa_16 {l : Int} (h : 0 ≤ l) (h2 : l ≤ 15) : (Lib.itoa l).length ≤ 2 := by
  obtain ⟨n, rfl⟩ := Int.eq_ofNat_of_zero_le h
  exact (show ∀ n : Fin 16, (Lib.itoa (n.1 : Int)).length ≤ 2 by decide +kernel) ⟨n, by omega⟩
set_option maxHeartbeats 1000000 in
theorem l08Word_any (c : Int) (w : World) : Calls Tryd.prog 82 #[.int .i64 c] w fun e w' => e = .returned (.string (wdV c)) ∧ w' = w := by
  by_cases h1 : c = 1
  · subst h1
    go_enter Tryd.func82, Tryd.ntmps82
    go_wp2
    go_ret
    exact ⟨rfl, rfl⟩
  · have t1 : (c == 1) = false := by simp [h1]
    by_cases h2 : c = 2
    · subst h2
      go_enter Tryd.func82, Tryd.ntmps82
      go_wp2
      go_ret
      exact ⟨rfl, rfl⟩
    · have t2 : (c == 2) = false := by simp [h2]
      by_cases h3 : c = 3
      · subst h3
        go_enter Tryd.func82, Tryd.ntmps82
        go_wp2
        go_ret
        exact ⟨rfl, rfl⟩
      · have t3 : (c == 3) = false := by simp [h3]
        have HW := Lib.hid (wdV_out (c := c) (by omega))
        clear h1 h2 h3
        go_enter Tryd.func82, Tryd.ntmps82
        go_wp2
        go_ret
        exact ⟨by rw [HW.out]; rfl, rfl⟩

theorem isFaultKind_at {b : Bool} (k : Int) (w : World) (h : inB k 1 3 = b) : Calls Tryd.prog 83 #[.int .i64 k] w fun e w' => e = .returned (.bool b) ∧ w' = w.alloc (.cells #[.int .i64 k] 2) := by
  subst h
  go_enter Tryd.func83, Tryd.ntmps83
  go_wp2_with (go_at_call 70; refine (within1_at _ _ k _ _ _ (by go_simp)).mono ?_; rintro e w1 ⟨rfl, hq⟩; subst w1)
  go_ret
  exact ⟨rfl, rfl⟩

set_option maxRecDepth 100000 in
set_option maxHeartbeats 4000000 in
theorem implFaultText (x : Int × Int) (w : World) (hxx : I64 x.1 ∧ I64 x.2) (hD : PowTab w ∧ FaultWords w) :
    Calls Tryd.prog 59 #[.agg #[.int .i64 x.1, .int .i64 x.2]] w fun e w' => e = .returned (.string (ftV x)) ∧ Below w.heap.size w w' := by
  obtain ⟨k, l⟩ := x
  have bl : I64 l := hxx.2
  clear hxx
  simp only
  obtain ⟨u, hu⟩ : ∃ u, u = w.alloc (.cells #[.int .i64 k, .int .i64 l] 53) := ⟨_, rfl⟩
  have hbel : Below w.heap.size w u := by rw [hu]; exact (by repeat (first | exact Below.refl _ _ | refine Below.setCell ?_ (by first | omega | (simp <;> omega)) _ | refine Below.alloc ?_ (by first | omega | (simp <;> omega)) _ | refine Below.drew ?_))
  have bx : Bx u w.heap.size 53 #[.int .i64 k, .int .i64 l] := by rw [hu]; exact Bx.new _ _ _
  obtain ⟨u1, hu1⟩ : ∃ u1, u1 = u.alloc (.cells #[.int .i64 k] 2) := ⟨_, rfl⟩
  have hb1 : Below u.heap.size u u1 := by rw [hu1]; exact (Below.refl _ _).alloc (Nat.le_refl _) _
  have bx1 := bx.below hb1
  have x0 := bx.at_ 0 rfl
  have x1 := bx.at_ 1 rfl
  have hsz := hbel.size
  have HU := Lib.hid hu
  have HU1 := Lib.hid hu1
  have hbel1 := hbel.trans (hb1.mono hsz)
  have z1 := bx1.at_ 1 rfl
  clear hu hu1 bx
  cases hc : inB k 1 3 with
  | false =>
    have HF := Lib.hid (isFaultKind_at k u hc)
    have HR := Lib.hid (ftV_kind (l := l) hc)
    clear hc
    go_enter Tryd.func59, Tryd.ntmps59
    go_upto_region 1 with fail
    rw [← HU.out]
    go_wp2_with (go_at_call 83; refine HF.out.mono ?_; rintro e w1 ⟨rfl, hq⟩; rw [← HU1.out] at hq; subst hq)
    go_ret
    exact ⟨by rw [HR.out]; rfl, hbel1⟩
  | true =>
    have HF := Lib.hid (isFaultKind_at k u hc)
    have HC := Lib.hid hc
    obtain ⟨u2, hu2⟩ : ∃ u2, u2 = u1.alloc (.cells #[.int .i64 l] 2) := ⟨_, rfl⟩
    have hb2 : Below u1.heap.size u1 u2 := by rw [hu2]; exact (Below.refl _ _).alloc (Nat.le_refl _) _
    have HW := Lib.hid (within1_at 0 15 l u2 u1.heap.size 1 (by rw [hu2]; exact (Bx.new _ _ _).at_ 0 rfl))
    have HU2 := Lib.hid hu2
    have bx2 := bx1.below hb2
    have hbel2 := hbel1.trans (hb2.mono hbel1.size)
    have y0 := bx2.at_ 0 rfl
    have y1 := bx2.at_ 1 rfl
    clear hu2
    cases hc2 : inB l 0 15 with
    | false =>
      rw [hc2] at HW
      have HR := Lib.hid (ftV_lever HC.out hc2)
      clear hc hc2
      go_enter Tryd.func59, Tryd.ntmps59
      go_upto_region 1 with fail
      rw [← HU.out]
      go_wp2_with (first | (go_at_call 83; refine HF.out.mono ?_; rintro e w1 ⟨rfl, hq⟩; rw [← HU1.out] at hq; subst hq) | (go_at_call 70; rw [← HU2.out]; refine HW.out.mono ?_; rintro e w' ⟨rfl, hq⟩; subst hq))
      go_ret
      exact ⟨by rw [HR.out]; rfl, hbel2⟩
    | true =>
      rw [hc2] at HW
      have HR := Lib.hid (ftV_ok HC.out hc2)
      obtain ⟨h1, h2⟩ := inB_true hc
      obtain ⟨h3, h4⟩ := inB_true hc2
      have hit := itoa_16 h3 h4
      obtain ⟨n0, n1, n2, n3⟩ := faultWords_below hD.2 hbel2
      have e1 := kept_all n1
      have e2 := kept_all n2
      have e3 := kept_all n3
      have f0 := kept_all y0
      have f1 := kept_all y1
      have hP := Lib.hid (fun v (hv : Below u2.heap.size u2 v) => implDecimal l v bl (powTab_below hD.1 (hbel2.trans (hv.mono hbel2.size))))
      have d2 : (9223372036854775807 < 8 + (Lib.itoa l).length) = False := eq_false (by omega)
      have d3 : (9223372036854775807 < 6 + (Lib.itoa l).length) = False := eq_false (by omega)
      have d4 : (9223372036854775807 < 5 + (Lib.itoa l).length) = False := eq_false (by omega)
      have hz2 := hbel2.size
      clear n0 n1 n2 n3 hc hc2 hD
      have hcc : k = 1 ∨ k = 2 ∨ k = 3 := by omega
      clear h1 h2
      rcases hcc with rfl | rfl | rfl
      all_goals
        go_enter Tryd.func59, Tryd.ntmps59
        go_upto_region 1 with fail
        rw [← HU.out]
        go_upto_region 3 with (first | (go_at_call 83; refine HF.out.mono ?_; rintro e w1 ⟨rfl, hq⟩; rw [← HU1.out] at hq; subst hq) | (go_at_call 70; rw [← HU2.out]; refine HW.out.mono ?_; rintro e w' ⟨rfl, hq⟩; subst hq))
        refine wp_region_marked (fun w2 => Below w'.heap.size w' w2) 8 (by kernel_rfl) ?_
        have hS : Below w'.heap.size w' w'.drew := (Below.refl _ _).drew
        refine wpAnyM_takeC (i := 0) (v := ?_) 8 rfl (by kernel_rfl) (by kernel_rfl) (by kernel_rfl) (by kernel_rfl) (by kernel_rfl) (by kernel_rfl) (fun _ _ _ h => h) hS (.inl ⟨by rfl, ?_⟩) ?_
        rotate_left 1
        · intro w' hS'; go_simp; try with_reducible rfl
        simp only [Act.put, List.setIfInBounds_toArray, List.set_cons_succ, List.set_cons_zero, List.getElem_toArray, List.getElem_cons_zero]
        refine wpAnyM_takeC (i := 1) (v := ?_) 8 rfl (by kernel_rfl) (by kernel_rfl) (by kernel_rfl) (by kernel_rfl) (by kernel_rfl) (by kernel_rfl) (fun _ _ _ h => h) hS (.inl ⟨by rfl, ?_⟩) ?_
        rotate_left 1
        · intro w' hS'; go_simp; try with_reducible rfl
        simp only [Act.put, List.setIfInBounds_toArray, List.set_cons_succ, List.set_cons_zero, List.getElem_toArray, List.getElem_cons_succ, List.getElem_cons_zero]
        refine wpAnyM_takeC (i := 2) (v := ?_) 8 rfl (by kernel_rfl) (by kernel_rfl) (by kernel_rfl) (by kernel_rfl) (by kernel_rfl) (by kernel_rfl) (fun _ _ _ h => h) hS (.inl ⟨by rfl, ?_⟩) ?_
        rotate_left 1
        · intro w' hS'; go_simp; try with_reducible rfl
        simp only [Act.put, List.setIfInBounds_toArray, List.set_cons_succ, List.set_cons_zero, List.getElem_toArray, List.getElem_cons_succ, List.getElem_cons_zero]
        refine wpAnyM_takeC (i := 3) (v := ?_) 8 rfl (by kernel_rfl) (by kernel_rfl) (by kernel_rfl) (by kernel_rfl) (by kernel_rfl) (by kernel_rfl) (fun _ _ _ h => h) hS (.inl ⟨by rfl, ?_⟩) ?_
        rotate_left 1
        · intro w' hS'; go_simp; try with_reducible rfl
        simp only [Act.put, List.setIfInBounds_toArray, List.set_cons_succ, List.set_cons_zero, List.getElem_toArray, List.getElem_cons_succ, List.getElem_cons_zero]
        refine wpAnyM_takeC (i := 4) (v := ?_) 8 rfl (by kernel_rfl) (by kernel_rfl) (by kernel_rfl) (by kernel_rfl) (by kernel_rfl) (by kernel_rfl) (fun _ _ _ h => h) hS (.inl ⟨by rfl, ?_⟩) ?_
        rotate_left 1
        · intro w' hS'; go_simp; try with_reducible rfl
        simp only [Act.put, List.setIfInBounds_toArray, List.set_cons_succ, List.set_cons_zero, List.getElem_toArray, List.getElem_cons_succ, List.getElem_cons_zero]
        refine wpAnyM_takeC (i := 5) (v := ?_) 8 rfl (by kernel_rfl) (by kernel_rfl) (by kernel_rfl) (by kernel_rfl) (by kernel_rfl) (by kernel_rfl) (fun _ _ _ h => h) hS (.inl ⟨by rfl, ?_⟩) ?_
        rotate_left 1
        · intro w' hS'; go_simp; try with_reducible rfl
        simp only [Act.put, List.setIfInBounds_toArray, List.set_cons_succ, List.set_cons_zero, List.getElem_toArray, List.getElem_cons_succ, List.getElem_cons_zero]
        refine wpAnyM_takeC (i := 6) (v := ?_) 8 rfl (by kernel_rfl) (by kernel_rfl) (by kernel_rfl) (by kernel_rfl) (by kernel_rfl) (by kernel_rfl) (fun _ _ _ h => h) hS (.inl ⟨by rfl, ?_⟩) ?_
        rotate_left 1
        · intro w' hS'; go_simp; try with_reducible rfl
        simp only [Act.put, List.setIfInBounds_toArray, List.set_cons_succ, List.set_cons_zero, List.getElem_toArray, List.getElem_cons_succ, List.getElem_cons_zero]
        refine wpAnyM_one (i := 7) (by kernel_rfl) rfl (by rfl) (fun K hK => ?_)
        go_simp
        refine (hP.out w'.drew hS).mono ?_
        rintro e w4 ⟨rfl, hb4⟩
        replace hS : Below w'.heap.size w' w4 := hS.trans (hb4.mono hS.size)
        refine hK _ _ (.inr hS) ?_
        try simp only [Act.put, List.setIfInBounds_toArray, List.set_cons_succ, List.set_cons_zero, List.getElem_toArray, List.getElem_cons_succ, List.getElem_cons_zero]
        clear hK K
        refine wpAnyM_one (i := 8) (by kernel_rfl) rfl (by rfl) (fun K hK => ?_)
        go_simp
        refine hK _ _ (.inl rfl) ?_
        clear hK K
        try simp only [Act.put, List.setIfInBounds_toArray, List.set_cons_succ, List.set_cons_zero, List.getElem_toArray, List.getElem_cons_succ, List.getElem_cons_zero]
        refine wpAnyM_one (i := 9) (by kernel_rfl) rfl (by rfl) (fun K hK => ?_)
        go_simp
        refine hK _ _ (.inl rfl) ?_
        clear hK K
        refine wpAnyM_done (by kernel_rfl) ?_ _
        try simp only [Act.put, List.setIfInBounds_toArray, List.set_cons_succ, List.set_cons_zero, List.getElem_toArray, List.getElem_cons_succ, List.getElem_cons_zero]
        go_wp2
        go_ret
        exact ⟨by rw [HR.out]; rfl, hbel2.trans (hS.mono hz2)⟩

theorem info_LeverFaultD : (Tryd.prog.info? 53).map (fun i => (i.zero, i.size, i.bytes)) = some (some (.agg #[.int .i64 0, .int .i64 0]), 2, 16) := by kernel_rfl
theorem faultAt_app {n : Int} {fs gs : List (Int × Int)} {i : Nat} (hi : i < fs.length) : faultAt n (fs ++ gs) i = faultAt n fs i := by
  have e0 : elt pairF (fs ++ gs) i = elt pairF fs i := elt_append_left hi
  have e1 : nxtL (fs ++ gs) i = nxtL fs i := by
    unfold nxtL
    split
    · rfl
    · rw [elt_append_left (by omega)]
  rw [faultAt, faultAt, e0, e1]
theorem faultsTo_app {n : Int} {fs gs : List (Int × Int)} : ∀ j, j ≤ fs.length → faultsTo n (fs ++ gs) j = faultsTo n fs j := by
  intro j
  induction j with
  | zero => intro _; rfl
  | succ j ih =>
    intro hj
    rw [faultsTo, faultsTo, ih (by omega), faultAt_app (by omega)]
/-- Faults that have been drawn: kinds, levers below k, in rising order. -/
structure LvsTo (n k : Int) (fs : List (Int × Int)) : Prop where
  ok : faultsTo n fs fs.length = true
  all : ∀ x ∈ fs, (1 ≤ x.1 ∧ x.1 ≤ 3) ∧ 0 ≤ x.2 ∧ x.2 < k
theorem lvsTo_nil (n k : Int) : LvsTo n k [] := ⟨rfl, fun x hx => by cases hx⟩
theorem LvsTo.up {n k m : Int} {fs : List (Int × Int)} (h : LvsTo n k fs) (hm : k ≤ m) : LvsTo n m fs := ⟨h.ok, fun x hx => by have := h.all x hx; omega⟩
theorem lvsTo_snoc {n k : Int} {fs : List (Int × Int)} (h : LvsTo n k fs) {c : Int} (c0 : 1 ≤ c) (c1 : c ≤ 3) (k0 : 0 ≤ k) (k1 : k < n) : LvsTo n (k + 1) (fs ++ [(c, k)]) := by
  have el : elt pairF (fs ++ [(c, k)]) fs.length = (c, k) := by simp [elt]
  refine ⟨?_, ?_⟩
  · rw [List.length_append, List.length_singleton]
    refine faultsTo_succ (by rw [faultsTo_app _ (Nat.le_refl _)]; exact h.ok) ?_
    have hx : nxtL (fs ++ [(c, k)]) fs.length ≤ k := by
      unfold nxtL
      split
      · exact k0
      · have := h.all (elt pairF fs (fs.length - 1)) (elt_mem (by omega))
        rw [elt_append_left (by omega)]
        omega
    rw [faultAt, el]
    simp only [inB, Bool.and_eq_true, decide_eq_true_eq]
    first
    | omega
    | (refine ⟨⟨?_, ?_⟩, ?_, ?_⟩ <;> first | omega | (simp <;> omega))
  · intro x hx
    rcases List.mem_append.1 hx with h1 | h1
    · have := h.all x h1; omega
    · rw [List.mem_singleton] at h1; subst h1; simp; omega

set_option maxHeartbeats 4000000 in
theorem l08Draw_any (g n : Nat) (w : World) (h : Src w g 0) (hn : n ≤ 16) :
    Calls Tryd.prog 110 #[.pointer (some ⟨g, 0, none⟩), .int .i64 (n : Nat)] w fun e w' => ∃ fs A C, e = .returned (.slice A (List.length fs) C) ∧ LvsTo n n fs ∧
      OwnF pairF 53 w' w.heap.size w'.heap.size (.slice A fs.length C) fs ∧ Touch g (g + 1) w w' := by
  have hg := h.lt
  obtain ⟨u, hu⟩ : ∃ u, u = w.alloc (.cells #[] 53) := ⟨_, rfl⟩
  have hsu : u.heap.size = w.heap.size + 1 := by rw [hu]; simp
  have tu : Touch g (g + 1) w u := by rw [hu]; exact (Touch.refl _ _ _).alloc _
  have ow0 : OwnF pairF 53 u w.heap.size u.heap.size (.slice (some ⟨w.heap.size, 0, none⟩) 0 0) [] := by
    rw [hsu, hu]
    exact ownF_row (n := 0) (by simpa [flat, pairF] using row_new 53 2 w #[] 0 (by simp) (by omega)) rfl (by simp)
  have hs0 : Src u g 0 := by
    rw [hu]
    exact h.lo (L := w.heap.size) (by repeat (first | exact Below.refl _ _ | refine Below.setCell ?_ (by first | omega | (simp <;> omega)) _ | refine Below.alloc ?_ (by first | omega | (simp <;> omega)) _ | refine Below.drew ?_)) hg
  have HU := Lib.hid hu
  clear hu h
  go_enter Tryd.func110, Tryd.ntmps110
  go_wp2_with fail
  rw [← HU.out]
  go_loopw [5, 6] (fun o i wr => ∃ (j : Nat) (fs : List (Int × Int)) (A : Option Addr) (C : Nat), j ≤ n ∧ i = .int .i64 (j : Nat) ∧ o = .slice A fs.length C ∧ fs.length ≤ j ∧ LvsTo n j fs ∧
    OwnF pairF 53 wr w.heap.size wr.heap.size (.slice A fs.length C) fs ∧ Src wr g (4 * j) ∧ Touch g (g + 1) w wr) (fun _ i _ => n - (intOf i).toNat)
  case atStart =>
    exact ⟨0, [], some ⟨w.heap.size, 0, none⟩, 0, Nat.zero_le _, rfl, rfl, Nat.le_refl _, lvsTo_nil _ _, ow0, hs0, tu⟩
  case round =>
    clear ow0 hs0 tu
    obtain ⟨j, fs, A, C, hj, hi, ho, hfl, hlv, own, hsrc, ht⟩ := hrel
    subst hi ho
    have hsz := ht.size
    by_cases hlt : j < n
    · go_wp2_with fail
      refine (one_any g _ 4 _ hsrc (by omega) (by omega)).mono ?_
      rintro e w2 ⟨x, rfl, hs2, ht2⟩
      have hl2 := ht2.size
      have own2 := (own.touch ht2 (.inr (by omega))).wide (Nat.le_refl _) hl2
      have ht3 := ht.trans ht2
      clear ht2 own hsrc
      cases x with
      | false =>
        go_wp2_with fail
        go_roundw
        case rel => exact ⟨j + 1, fs, A, C, by omega, by go_num, rfl, by omega, hlv.up (by omega), own2, hs2.mono (by omega), ht3⟩
        case measure => (simp [intOf]) <;> omega
      | true =>
        go_wp2_with fail
        refine (pick_any g _ 3 _ hs2 (by omega) (by omega)).mono ?_
        rintro e w3 ⟨z, rfl, z0, z1, hs3, ht4⟩
        have v2 : IntKind.i64.wrap (1 + z) = 1 + z := fits_int _ (by omega) (by omega)
        have hl3 := ht4.size
        have own3 := own2.touch ht4 (.inr (by omega))
        have ht5 := ht3.trans ht4
        have hl4 := ht5.size
        have hX := Lib.hid (lvsTo_snoc hlv (c := 1 + z) (by omega) (by omega) (by omega) (by omega : (j : Int) < n))
        have hnew : ∀ i u, (flat pairF [(1 + z, (j : Int))])[i]? = some u → (w3.alloc (.cells #[.int .i64 (1 + z), .int .i64 (j : Nat)] 53)).cell? ((⟨w3.heap.size, 0, none⟩ : Addr).add i) = some u := by
          intro i u hu
          have hbx := Bx.new w3 #[.int .i64 (1 + z), .int .i64 (j : Nat)] 53
          match i, hu with
          | 0, hu => simp [flat, pairF] at hu; subst hu; exact hbx.at_ 0 rfl
          | 1, hu => simp [flat, pairF] at hu; subst hu; exact hbx.at_ 1 rfl
        clear z0 z1 hlv ht4 hs2 own2
        go_wp2_with (at_builtin; go_must (refine wpList_appR rfl (.tmp 15) (.tmp 21) 74 53 rfl (.agg #[.int .i64 0, .int .i64 0]) 2 16 Tryd.underlying74 info_LeverFaultD rfl (by omega) (by omega) rfl ((own3.row).alloc _) ⟨w3.heap.size, 0, none⟩ 1 1 (flat pairF [(1 + z, (j : Int))]) rfl rfl hnew flat_mem (by omega) (by simp <;> omega) ?_); intro A' C' w5 row5 ht5')
        have ht6 := (ht5.alloc (.cells #[.int .i64 (1 + z), .int .i64 (j : Nat)] 53)).then_ ht5' (Nat.le_refl _)
        have hs6 := ((hs3.touch ((Touch.refl w3.heap.size w3.heap.size w3).alloc (.cells #[.int .i64 (1 + z), .int .i64 (j : Nat)] 53)) (by omega)).touch ht5' hg).mono (M := 4 * (j + 1)) (by omega)
        have ow5 : OwnF pairF 53 w5 w.heap.size w5.heap.size (.slice A' (fs.length + 1) C') (fs ++ [(1 + z, (j : Int))]) := ⟨by rw [flat_append, List.length_append]; exact row5, by simp; omega⟩
        go_roundw
        case rel => exact ⟨j + 1, fs ++ [(1 + z, (j : Int))], A', C', by omega, by go_num, by simp, by simp; omega, by simpa using hX.out, by simpa using ow5, hs6, ht6⟩
        case measure => (simp [intOf]) <;> omega
    · obtain rfl : j = n := by omega
      go_wp2_with fail
      exact bodyPost_ret (v := .slice A fs.length C) (by simp [results, Tryd.results110, go_sem]) rfl ⟨fs, A, C, rfl, hlv, own, ht⟩

theorem a2Faults_any (a : Option Addr) (zs : List Int) (c n : Nat) (w : World) (h : RdU w a zs) (hn : n ≤ 16) :
    Calls Tryd.prog 57 #[.slice a zs.length c, .int .i64 (n : Nat)] w fun e w' => ∃ fs A C, e = .returned (.slice A (List.length fs) C) ∧ LvsTo n n fs ∧
      OwnF pairF 53 w' w.heap.size w'.heap.size (.slice A fs.length C) fs ∧ Below w.heap.size w w' := by
  go_enter Tryd.func57, Tryd.ntmps57
  go_wp2_with fail
  refine (from_any a zs c w h).mono ?_
  rintro e w1 ⟨g, rfl, hg, hs, hb1⟩
  have hl := hb1.size
  go_wp2_with fail
  refine (l08Draw_any g n w1 hs hn).mono ?_
  rintro e w2 ⟨fs, A, C, rfl, hd, own, ht⟩
  have hl2 := ht.size
  go_wp2_with fail
  exact bodyPost_ret (v := .slice A fs.length C) (by simp [results, Tryd.results57, go_sem]) rfl ⟨fs, A, C, rfl, hd, own.wide hl (Nat.le_refl _), hb1.trans (ht.below hg hl)⟩

theorem valR_12 {b : Int} (h0 : 0 ≤ b) (h1 : b ≤ 12) : ∀ {zs : List Int}, DigsOf b zs → 0 ≤ valR b zs ∧ valR b zs + 1 ≤ (12 ^ zs.length : Nat)
  | [], _ => by simp [valR]
  | d :: ds, h => by
    have hd := h d (by simp)
    have ih := valR_12 h0 h1 (zs := ds) fun x hx => h x (by simp [hx])
    have m1 : 0 ≤ b * valR b ds := Int.mul_nonneg h0 ih.1
    have m2 : b * valR b ds ≤ 12 * valR b ds := Int.mul_le_mul_of_nonneg_right h1 ih.1
    rw [List.length_cons, Nat.pow_succ]
    simp only [valR]
    omega
theorem pow12 {k : Nat} (h : k ≤ 7) : 12 ^ k ≤ 35831808 := by
  have := Nat.pow_le_pow_right (show 0 < 12 by omega) h
  omega
theorem okB_of {b : Int} {zs : List Int} (b0 : 2 ≤ b) (b1 : b ≤ 12) (n0 : 1 ≤ zs.length) (n1 : zs.length ≤ 7) (hd : DigsOf b zs) : okB b zs = true := by
  have hv := valR_12 (b := b) (by omega) b1 hd
  have hp := pow12 n1
  simp only [okB, Bool.and_eq_true, decide_eq_true_eq]
  refine ⟨⟨⟨?_, ?_⟩, ?_⟩, by omega⟩
  · simp [baseB]; omega
  · simp [widthB]; omega
  · simp only [digitsB, decide_eq_true_eq]; exact hd
theorem DrawnR.ok {b : Int} {xs : List Int} (h : DrawnR b xs 7) : okB b xs = true := okB_of h.b0 h.b1 h.n0 h.n1 h.digs
theorem twoE_drawn {b : Int} {xs ys : List Int} (h : DrawnR b xs 7) (hl : ys.length = xs.length) (hd : DigsOf b ys) : twoE b xs b ys = 0 := by
  have h1 := h.ok
  have h2 : okB b ys = true := okB_of h.b0 h.b1 (by rw [hl]; exact h.n0) (by rw [hl]; exact h.n1) hd
  unfold twoE
  rw [if_neg (by rw [h1, h2]; simp), if_pos ⟨rfl, hl.symm⟩]
theorem digs_nth {b : Int} {zs : List Int} (h : DigsOf b zs) {k : Nat} (hk : k < zs.length) : 0 ≤ nth zs k ∧ nth zs k < b := by
  rw [nth_get hk]; exact h _ (List.getElem_mem hk)
theorem digs_tab {b : Int} {f : Nat → Int} {n : Nat} (h : ∀ k, k < n → 0 ≤ f k ∧ f k < b) : DigsOf b (tab f n) := tab_mem h
theorem shD_in {b : Int} (b0 : 2 ≤ b) {xs : List Int} (h : DigsOf b xs) (m : Int) (k : Nat) : 0 ≤ shD xs m k ∧ shD xs m k < b := by
  unfold shD
  split
  · exact digs_nth h (by omega)
  · omega
theorem shR_drawn {b : Int} {xs : List Int} (b0 : 2 ≤ b) (b1 : b ≤ 12) (n0 : 1 ≤ xs.length) (n1 : xs.length ≤ 7) (hd : DigsOf b xs) {m : Int} (m0 : -7 ≤ m) (m1 : m ≤ 7) :
    DigsOf b (tab (shD xs m) xs.length) ∧ okB b (tab (shD xs m) xs.length) = true ∧ shR b xs m = (b, tab (shD xs m) xs.length, 0) := by
  have hd' : DigsOf b (tab (shD xs m) xs.length) := digs_tab fun k _ => shD_in b0 hd m k
  have ho : okB b (tab (shD xs m) xs.length) = true := okB_of b0 b1 (by rw [tab_len]; exact n0) (by rw [tab_len]; exact n1) hd'
  refine ⟨hd', ho, ?_⟩
  rw [shR, if_pos (okB_of b0 b1 n0 n1 hd), if_pos ⟨by omega, by omega⟩, finR, if_pos ho]
/-- Digits that are moved to and fro. -/
theorem shD_back {xs : List Int} {m : Int} (m0 : 0 ≤ m) {k : Nat} (hk : k < xs.length) : shD (tab (shD xs m) xs.length) (-m) k = if (xs.length : Int) ≤ (k : Int) + m then 0 else nth xs k := by
  unfold shD
  rw [tab_len]
  by_cases h : (xs.length : Int) ≤ (k : Int) + m
  · rw [if_pos h, if_neg (by omega)]
  · rw [if_neg h, if_pos (by omega), tab_nth (by omega), if_pos (by omega)]
    congr 1
    omega
theorem cK_step (b : Int) (xs ys : List Int) (k : Nat) : cK b xs ys (k + 1) = (nth xs k + nth ys k + cK b xs ys k) / b := rfl
theorem cK_test {b : Int} (hb : 2 ≤ b) {t : Int} (h0 : 0 ≤ t) (h1 : t < 2 * b) : (b ≤ t → t / b = 1) ∧ (t < b → t / b = 0) := by
  constructor
  · intro h
    have h2 : t / b < 2 := Int.ediv_lt_of_lt_mul (by omega) (by omega)
    have h3 : 1 ≤ t / b := Int.le_ediv_of_mul_le (by omega) (by omega)
    omega
  · intro h; exact Int.ediv_eq_zero_of_lt h0 h

open Go Go.RowKit

/-- The digit of a sign; -1: no sign. -/
def sgV (c : Nat) : Int := if 48 ≤ c ∧ c ≤ 57 then (c : Int) - 48 else if 97 ≤ c ∧ c ≤ 102 then (c : Int) - 87 else -1
theorem sgV_bd (c : Nat) : -1 ≤ sgV c ∧ sgV c ≤ 15 := by unfold sgV; split <;> (try split) <;> omega
theorem sgV_dec {c : Nat} (h : 48 ≤ c ∧ c ≤ 57) : sgV c = (c : Int) - 48 := by unfold sgV; rw [if_pos h]
theorem sgV_let {c : Nat} (h : 97 ≤ c ∧ c ≤ 102) : sgV c = (c : Int) - 87 := by unfold sgV; rw [if_neg (by omega), if_pos h]
theorem sgV_no {c : Nat} (h : ¬ (48 ≤ c ∧ c ≤ 57)) (h2 : ¬ (97 ≤ c ∧ c ≤ 102)) : sgV c = -1 := by unfold sgV; rw [if_neg h, if_neg h2]
/-- The first j digits of a text, read from its end. -/
def tdL (t : ByteArray) (j : Nat) : List Int := (List.range j).map fun k => sgV (byteAt t (t.size - 1 - k)).toNat
theorem tdL_len (t : ByteArray) (j : Nat) : (tdL t j).length = j := by simp [tdL]
theorem tdL_succ (t : ByteArray) (j : Nat) : tdL t (j + 1) = tdL t j ++ [sgV (byteAt t (t.size - 1 - j)).toNat] := by simp [tdL, List.range_succ]
theorem tdL_all (t : ByteArray) (j : Nat) : ∀ d ∈ tdL t j, -1 ≤ d ∧ d ≤ 15 := by
  intro d hd
  simp only [tdL, List.mem_map] at hd
  obtain ⟨k, _, rfl⟩ := hd
  exact sgV_bd _
/-- The row of digits when the text's first k signs are read. -/
def tdP (t : ByteArray) (k : Nat) : List Int := (List.range t.size).map fun i => if t.size - 1 - i < k then sgV (byteAt t (t.size - 1 - i)).toNat else 0
theorem tdP_len (t : ByteArray) (k : Nat) : (tdP t k).length = t.size := by simp [tdP]
theorem tdP_zero (t : ByteArray) : tdP t 0 = List.replicate t.size 0 := by
  refine List.ext_getElem (by simp [tdP]) fun i h1 h2 => by simp [tdP]
theorem tdP_last (t : ByteArray) : tdP t t.size = tdL t t.size := by
  refine List.ext_getElem (by simp [tdP, tdL]) fun i h1 h2 => ?_
  rw [tdP_len] at h1
  simp only [tdP, tdL, List.getElem_map, List.getElem_range]
  rw [if_pos (by omega)]
theorem tdP_step {t : ByteArray} {k : Nat} (h : k < t.size) : (tdP t k).set (t.size - 1 - k) (sgV (byteAt t k).toNat) = tdP t (k + 1) := by
  refine List.ext_getElem (by simp [tdP]) fun i h1 h2 => ?_
  rw [tdP_len] at h2
  rw [List.getElem_set]
  simp only [tdP, List.getElem_map, List.getElem_range]
  by_cases hi : t.size - 1 - k = i
  · rw [if_pos hi, if_pos (by omega)]
    rw [show t.size - 1 - i = k by omega]
  · rw [if_neg hi]
    by_cases h3 : t.size - 1 - i < k
    · rw [if_pos h3, if_pos (by omega)]
    · rw [if_neg h3, if_neg (by omega)]
theorem okB_sign {b : Int} {t : ByteArray} {k : Nat} (h : k < t.size) (hs : sgV (byteAt t k).toNat = -1) : okB b (tdL t t.size) = false := by
  cases hb : okB b (tdL t t.size) with
  | false => rfl
  | true =>
    obtain ⟨_, _, _, _, h5, _⟩ := okB_spec hb
    have := h5 (-1) (by
      simp only [tdL, List.mem_map, List.mem_range]
      exact ⟨t.size - 1 - k, by omega, by rw [show t.size - 1 - (t.size - 1 - k) = k by omega]; exact hs⟩)
    omega

/-- What reading a register's text gives. -/
noncomputable def rgT (b : Int × Bool) (t : ByteArray) : Int × List Int × Bool := if t.size ≤ 16 ∧ b.2 = true ∧ okB b.1 (tdL t t.size) = true then (b.1, tdL t t.size, true) else (0, [], false)
noncomputable def rgL : List ByteArray → Int × List Int × Bool
  | [h, t] => rgT (rdR h) t
  | _ => (0, [], false)
noncomputable def rgR (s : ByteArray) : Int × List Int × Bool := rgL (splitL s 58)
theorem rgT_yes {b : Int × Bool} {t : ByteArray} (h1 : t.size ≤ 16) (h2 : b.2 = true) (h3 : okB b.1 (tdL t t.size) = true) : rgT b t = (b.1, tdL t t.size, true) := if_pos ⟨h1, h2, h3⟩
theorem rgT_long {b : Int × Bool} {t : ByteArray} (h : 16 < t.size) : rgT b t = (0, [], false) := if_neg fun h2 => by omega
theorem rgT_head {b : Int × Bool} {t : ByteArray} (h : b.2 = false) : rgT b t = (0, [], false) := if_neg fun h2 => by rw [h] at h2; simp at h2
theorem rgT_bad {b : Int × Bool} {t : ByteArray} (h : okB b.1 (tdL t t.size) = false) : rgT b t = (0, [], false) := if_neg fun h2 => by rw [h] at h2; simp at h2
theorem rgL_len {l : List ByteArray} (h : ¬ l.length = 2) : rgL l = (0, [], false) := by
  match l, h with
  | [], _ => rfl
  | [_], _ => rfl
  | [_, _], h => exact absurd rfl h
  | _ :: _ :: _ :: _, _ => rfl

theorem splitGo_none {s : ByteArray} {c : UInt8} : ∀ (n i f : Nat), i + n = s.size → (∀ j, i ≤ j → j < s.size → ¬ byteAt s j = c) → splitGo s c n i f = [s.extract f s.size]
  | 0, _, _, _, _ => rfl
  | n + 1, i, f, h, hn => by rw [splitGo_miss (hn i (Nat.le_refl _) (by omega))]; exact splitGo_none n (i + 1) f (by omega) fun j h1 h2 => hn j (by omega) h2
theorem splitGo_first {s : ByteArray} {c : UInt8} : ∀ (m n i f : Nat), (∀ j, i ≤ j → j < i + m → ¬ byteAt s j = c) → byteAt s (i + m) = c → splitGo s c (m + 1 + n) i f = s.extract f (i + m) :: splitGo s c n (i + m + 1) (i + m + 1)
  | 0, n, i, f, _, hc => by rw [show 0 + 1 + n = n + 1 by omega]; exact splitGo_hit hc
  | m + 1, n, i, f, hn, hc => by
    rw [show m + 1 + 1 + n = (m + 1 + n) + 1 by omega, splitGo_miss (hn i (Nat.le_refl _) (by omega)), splitGo_first m n (i + 1) f (fun j h1 h2 => hn j (by omega) (by omega)) (by rw [show i + 1 + m = i + (m + 1) by omega]; exact hc), show i + 1 + m = i + (m + 1) by omega]
theorem splitGo_pos {s : ByteArray} {c : UInt8} : ∀ (n i f : Nat), 1 ≤ (splitGo s c n i f).length
  | 0, _, _ => by simp [splitGo]
  | n + 1, i, f => by rw [splitGo]; split; simp; exact splitGo_pos n (i + 1) f
theorem splitGo_some {s : ByteArray} {c : UInt8} : ∀ (n i f : Nat), i + n = s.size → (∃ j, i ≤ j ∧ j < s.size ∧ byteAt s j = c) → 2 ≤ (splitGo s c n i f).length
  | 0, i, f, h, ⟨j, h1, h2, _⟩ => by omega
  | n + 1, i, f, h, ⟨j, h1, h2, h3⟩ => by
    by_cases hc : byteAt s i = c
    · rw [splitGo_hit hc]
      have := splitGo_pos (s := s) (c := c) n (i + 1) (i + 1)
      simp; omega
    · rw [splitGo_miss hc]
      refine splitGo_some n (i + 1) f (by omega) ⟨j, ?_, h2, h3⟩
      rcases Nat.lt_or_ge i j with h4 | h4
      · omega
      · obtain rfl : i = j := by omega
        exact absurd h3 hc

theorem occ_byte {s : ByteArray} {c : UInt8} {j : Nat} (h : j < s.size) : Lib.occAt s.data.toList [c] j = true ↔ byteAt s j = c := by
  have h2 : j < s.data.toList.length := by simpa using h
  rw [Lib.occAt_iff_take _ _ _ (by simp; omega), ← byteAt_get h, List.drop_eq_getElem_cons h2]
  simp only [List.length_cons, List.length_nil, Nat.zero_add, List.take_succ_cons, List.take_zero, beq_iff_eq, List.cons.injEq, and_true]
  exact Iff.rfl

/-- What the text's cut at the first ':' tells. -/
theorem cut_tells (s : ByteArray) :
    ((Lib.cut s.data.toList [58]).2.2 = false ∧ (⟨(Lib.cut s.data.toList [58]).1.toArray⟩ : ByteArray).size ≤ s.size ∧ rgR s = (0, [], false)) ∨
    ((Lib.cut s.data.toList [58]).2.2 = true ∧ (⟨(Lib.cut s.data.toList [58]).1.toArray⟩ : ByteArray).size ≤ s.size ∧ (⟨(Lib.cut s.data.toList [58]).2.1.toArray⟩ : ByteArray).size ≤ s.size ∧
      rgR s = rgT (rdR ⟨(Lib.cut s.data.toList [58]).1.toArray⟩) ⟨(Lib.cut s.data.toList [58]).2.1.toArray⟩) := by
  rcases Lib.index_spec s.data.toList [58] with ⟨h1, h2⟩ | ⟨i, h1, h2, h3, h4⟩
  · refine .inl ⟨by unfold Lib.cut; rw [if_neg (by omega)], by unfold Lib.cut; rw [if_neg (by omega)]; simp, ?_⟩
    have hn : ∀ j, 0 ≤ j → j < s.size → ¬ byteAt s j = 58 := fun j _ hj hc => by
      have := h2 j (by have : s.data.toList.length = s.size := by simp
                       omega)
      rw [(occ_byte hj).2 hc] at this
      cases this
    unfold rgR splitL
    rw [splitGo_none s.size 0 0 (by omega) hn]
    rfl
  · have hsz : s.data.toList.length = s.size := by simp
    have hi : i < s.size := by
      rcases Lib.occAt_room h3 with h | h
      · simp at h; omega
      · cases h
    have hc : byteAt s i = 58 := (occ_byte hi).1 h3
    have hn : ∀ j, 0 ≤ j → j < 0 + i → ¬ byteAt s j = 58 := fun j _ hj hc => by
      have := h4 j (by omega)
      rw [(occ_byte (by omega)).2 hc] at this
      cases this
    have e1 : (Lib.cut s.data.toList [58]) = (s.data.toList.take i, s.data.toList.drop (i + 1), true) := by
      unfold Lib.cut; rw [if_pos (by omega), h1]; simp
    have e2 : (⟨(s.data.toList.take i).toArray⟩ : ByteArray) = s.extract 0 i := by
      apply WideShapes.bytes_inj
      rw [Lib.extract_data]; simp
    have e3 : (⟨(s.data.toList.drop (i + 1)).toArray⟩ : ByteArray) = s.extract (i + 1) s.size := by
      apply WideShapes.bytes_inj
      rw [Lib.extract_to_end]
    have e4 : splitL s 58 = s.extract 0 i :: splitGo s 58 (s.size - (i + 1)) (i + 1) (i + 1) := by
      have := splitGo_first (s := s) (c := 58) i (s.size - (i + 1)) 0 0 hn (by rw [Nat.zero_add]; exact hc)
      rw [show i + 1 + (s.size - (i + 1)) = s.size by omega, Nat.zero_add] at this
      exact this
    rw [e1]
    refine .inr ⟨rfl, ?_, ?_, ?_⟩
    · rw [e2]; (simp) <;> omega
    · rw [e3]; (simp) <;> omega
    · simp only [e2, e3]
      unfold rgR
      rw [e4]
      by_cases hx : ∃ j, i + 1 ≤ j ∧ j < s.size ∧ byteAt s j = 58
      · have hl := splitGo_some (s := s) (c := 58) (s.size - (i + 1)) (i + 1) (i + 1) (by omega) hx
        rw [rgL_len (by simp; omega)]
        obtain ⟨j, j1, j2, j3⟩ := hx
        refine (rgT_bad (okB_sign (k := j - (i + 1)) (by simp; omega) ?_)).symm
        have hk : j - (i + 1) < (s.extract (i + 1) s.size).size := by simp; omega
        have : byteAt (s.extract (i + 1) s.size) (j - (i + 1)) = 58 := by
          rw [← byteAt_get hk, ← j3, ← byteAt_get j2]
          simp only [ByteArray.getElem_extract]
          congr 1
          omega
        rw [this]; decide
      · rw [splitGo_none (s.size - (i + 1)) (i + 1) (i + 1) (by omega) fun j h1 h2 h3 => hx ⟨j, h1, h2, h3⟩]
        rfl

/-- What a word and a number tell. -/
noncomputable def rfT (h : ByteArray) (n : Int × Bool) : (Int × Int) × Bool := open Classical in
  if n.2 = true ∧ inB n.1 0 15 = true then (if h = wdV 1 then ((1, n.1), true) else if h = wdV 2 then ((2, n.1), true) else if h = wdV 3 then ((3, n.1), true) else ((0, 0), false)) else ((0, 0), false)
noncomputable def rfL : List ByteArray → (Int × Int) × Bool
  | [h, t] => rfT h (rdR t)
  | _ => ((0, 0), false)
noncomputable def rfR (s : ByteArray) : (Int × Int) × Bool := rfL (splitL s 32)
theorem rfL_len {l : List ByteArray} (h : ¬ l.length = 2) : rfL l = ((0, 0), false) := by
  match l, h with
  | [], _ => rfl
  | [_], _ => rfl
  | [_, _], h => exact absurd rfl h
  | _ :: _ :: _ :: _, _ => rfl
theorem rfT_bad {h : ByteArray} {n : Int × Bool} (hn : ¬ (n.2 = true ∧ inB n.1 0 15 = true)) : rfT h n = ((0, 0), false) := by rw [rfT, if_neg hn]
theorem rfT_hit {h : ByteArray} {v k : Int} (hv : inB v 0 15 = true) (hk : 1 ≤ k ∧ k ≤ 3) (he : h = wdV k) (hall : ∀ j, 1 ≤ j → j < k → ¬ h = wdV j) : rfT h (v, true) = ((k, v), true) := by
  have hcc : k = 1 ∨ k = 2 ∨ k = 3 := by omega
  rw [rfT, if_pos ⟨rfl, hv⟩]
  rcases hcc with rfl | rfl | rfl
  · rw [if_pos he]
  · rw [if_neg (hall 1 (by omega) (by omega)), if_pos he]
  · rw [if_neg (hall 1 (by omega) (by omega)), if_neg (hall 2 (by omega) (by omega)), if_pos he]
theorem rfT_none {h : ByteArray} {v : Int} (hall : ∀ j, 1 ≤ j → j < 4 → ¬ h = wdV j) : rfT h (v, true) = ((0, 0), false) := by
  rw [rfT]
  split
  · rw [if_neg (hall 1 (by omega) (by omega)), if_neg (hall 2 (by omega) (by omega)), if_neg (hall 3 (by omega) (by omega))]
  · rfl
theorem itoa_plain : ∀ n : Fin 16, (Lib.itoa (n.1 : Int)) ≠ [] ∧ ∀ x ∈ Lib.itoa (n.1 : Int), x ≠ 32 := by decide +kernel
/-- What is no text of a number from 0 to 15. -/
theorem rfT_no {h t : ByteArray} (ht : t.data.toList = [] ∨ 32 ∈ t.data.toList) : rfT h (rdR t) = ((0, 0), false) := by
  by_cases hx : ∃ v, isDec t v
  · obtain ⟨v, hv⟩ := hx
    rw [rdR_yes hv]
    refine rfT_bad fun ⟨_, h2⟩ => ?_
    obtain ⟨h3, h4⟩ := inB_true h2
    obtain ⟨n, rfl⟩ := Int.eq_ofNat_of_zero_le h3
    obtain ⟨p1, p2⟩ := itoa_plain ⟨n, by simp only at h4; omega⟩
    rw [hv.2] at ht
    rcases ht with ht | ht
    · exact p1 (by simpa using ht)
    · exact p2 32 (by simpa using ht) rfl
  · rw [rdR_no hx]
    exact rfT_bad fun ⟨h1, _⟩ => by cases h1
theorem splitF_size {s : ByteArray} {c : UInt8} : ∀ (n i f : Nat), ∀ x ∈ splitGo s c n i f, x.size ≤ s.size
  | 0, i, f, x, hx => by
    rw [splitGo, List.mem_singleton] at hx
    subst hx
    (simp) <;> omega
  | n + 1, i, f, x, hx => by
    rw [splitGo] at hx
    split at hx
    · rcases List.mem_cons.1 hx with rfl | hx
      · (simp) <;> omega
      · exact splitF_size n _ _ x hx
    · exact splitF_size n _ _ x hx

/-- What the text's cut at the first space tells. -/
theorem cutf_tells (s : ByteArray) :
    (⟨(Lib.cut s.data.toList [32]).1.toArray⟩ : ByteArray).size ≤ s.size ∧ (⟨(Lib.cut s.data.toList [32]).2.1.toArray⟩ : ByteArray).size ≤ s.size ∧
      rfR s = rfT ⟨(Lib.cut s.data.toList [32]).1.toArray⟩ (rdR ⟨(Lib.cut s.data.toList [32]).2.1.toArray⟩) := by
  rcases Lib.index_spec s.data.toList [32] with ⟨h1, h2⟩ | ⟨i, h1, h2, h3, h4⟩
  · have e0 : Lib.cut s.data.toList [32] = (s.data.toList, [], false) := by unfold Lib.cut; rw [if_neg (by omega)]
    rw [e0]
    refine ⟨by simp, Nat.zero_le _, ?_⟩
    have hn : ∀ j, 0 ≤ j → j < s.size → ¬ byteAt s j = 32 := fun j _ hj hc => by
      have := h2 j (by have : s.data.toList.length = s.size := by simp
                       omega)
      rw [(occ_byte hj).2 hc] at this
      cases this
    rw [rfT_no (.inl (by simp))]
    unfold rfR splitL
    rw [splitGo_none s.size 0 0 (by omega) hn]
    rfl
  · have hsz : s.data.toList.length = s.size := by simp
    have hi : i < s.size := by
      rcases Lib.occAt_room h3 with h | h
      · simp at h; omega
      · cases h
    have hc : byteAt s i = 32 := (occ_byte hi).1 h3
    have hn : ∀ j, 0 ≤ j → j < 0 + i → ¬ byteAt s j = 32 := fun j _ hj hc => by
      have := h4 j (by omega)
      rw [(occ_byte (by omega)).2 hc] at this
      cases this
    have e1 : (Lib.cut s.data.toList [32]) = (s.data.toList.take i, s.data.toList.drop (i + 1), true) := by
      unfold Lib.cut; rw [if_pos (by omega), h1]; simp
    have e2 : (⟨(s.data.toList.take i).toArray⟩ : ByteArray) = s.extract 0 i := by
      apply WideShapes.bytes_inj
      rw [Lib.extract_data]; simp
    have e3 : (⟨(s.data.toList.drop (i + 1)).toArray⟩ : ByteArray) = s.extract (i + 1) s.size := by
      apply WideShapes.bytes_inj
      rw [Lib.extract_to_end]
    have e4 : splitL s 32 = s.extract 0 i :: splitGo s 32 (s.size - (i + 1)) (i + 1) (i + 1) := by
      have := splitGo_first (s := s) (c := 32) i (s.size - (i + 1)) 0 0 hn (by rw [Nat.zero_add]; exact hc)
      rw [show i + 1 + (s.size - (i + 1)) = s.size by omega, Nat.zero_add] at this
      exact this
    rw [e1]
    refine ⟨?_, ?_, ?_⟩
    · rw [e2]; (simp) <;> omega
    · rw [e3]; (simp) <;> omega
    · simp only [e2, e3]
      unfold rfR
      rw [e4]
      by_cases hx : ∃ j, i + 1 ≤ j ∧ j < s.size ∧ byteAt s j = 32
      · have hl := splitGo_some (s := s) (c := 32) (s.size - (i + 1)) (i + 1) (i + 1) (by omega) hx
        rw [rfL_len (by simp; omega)]
        obtain ⟨j, j1, j2, j3⟩ := hx
        refine (rfT_no (.inr ?_)).symm
        rw [← e3]
        simp only [List.mem_iff_getElem]
        refine ⟨j - (i + 1), by simp; omega, ?_⟩
        rw [← j3, ← byteAt_get j2]
        simp only [List.getElem_drop]
        have : i + 1 + (j - (i + 1)) = j := by omega
        simp only [this]
        rfl
      · rw [splitGo_none _ _ _ (by omega) (fun j h1 h2 h3 => hx ⟨j, h1, h2, h3⟩)]
        rfl

theorem lv_add {b : Int} {xs ys : List Int} (h : DrawnR b xs 7) (hl : ys.length = xs.length) (hd : DigsOf b ys) :
    DrawnR b (tab (sumD b xs ys) xs.length) 7 ∧ addR b xs b ys = (b, tab (sumD b xs ys) xs.length, cK b xs ys xs.length, 0) := by
  have hb := h.b0
  have hD : DrawnR b (tab (sumD b xs ys) xs.length) 7 := ⟨h.b0, h.b1, by rw [tab_len]; exact h.n0, by rw [tab_len]; exact h.n1, digs_tab fun k _ => ⟨Int.emod_nonneg _ (by omega), Int.emod_lt_of_pos _ (by omega)⟩⟩
  exact ⟨hD, by rw [addR, if_pos (twoE_drawn h hl hd), if_pos hD.ok]⟩
theorem faults_wide {n : Nat} {fs : List (Int × Int)} (n0 : 1 ≤ n) (n1 : n ≤ 7) (h : LvsTo n n fs) : faultsB n fs = true := by
  rw [faultsB, h.ok]
  have : inB (n : Int) 1 16 = true := by simp [inB]; omega
  rw [this]; rfl
theorem lv_awf {b : Int} {xs ys : List Int} (h : DrawnR b xs 7) (hl : ys.length = xs.length) (hd : DigsOf b ys) {fs : List (Int × Int)} (hf : LvsTo (xs.length : Nat) (xs.length : Nat) fs) :
    DrawnR b (tab (levD b xs ys (kds fs)) xs.length) 7 ∧ awfR b xs b ys fs = (b, tab (levD b xs ys (kds fs)) xs.length, lcK b xs ys (kds fs) xs.length, 0) := by
  have hb := h.b0
  have hD : DrawnR b (tab (levD b xs ys (kds fs)) xs.length) 7 := ⟨h.b0, h.b1, by rw [tab_len]; exact h.n0, by rw [tab_len]; exact h.n1, digs_tab fun k _ => ⟨Int.emod_nonneg _ (by omega), Int.emod_lt_of_pos _ (by omega)⟩⟩
  exact ⟨hD, by rw [awfR, if_pos (twoE_drawn h hl hd), if_pos (faults_wide h.n0 h.n1 hf), if_pos hD.ok]⟩
theorem lv_none {b : Int} {xs ys : List Int} (h : DrawnR b xs 7) (hl : ys.length = xs.length) (hd : DigsOf b ys) : ∀ k, k ≤ xs.length → lcK b xs ys (kds []) k = cK b xs ys k
  | 0, _ => rfl
  | k + 1, hk => by
    have ih := lv_none h hl hd k (by omega)
    have h1 := digs_nth h.digs (k := k) (by omega)
    have h2 := digs_nth hd (k := k) (by omega)
    have h3 := lcK_bd b xs ys (kds []) k
    rw [lcK, cK_step, ih]
    rw [ih] at h3
    exact lcar_none h.b0 (by omega) (by omega) h3.1 h3.2
theorem lv_free {b : Int} {xs ys : List Int} (h : DrawnR b xs 7) (hl : ys.length = xs.length) (hd : DigsOf b ys) : awfR b xs b ys [] = addR b xs b ys ∧ shwB b xs b ys [] = false := by
  have e1 := (lv_add h hl hd).2
  have e2 := (lv_awf h hl hd (lvsTo_nil (xs.length : Nat) (xs.length : Nat))).2
  have e3 : tab (levD b xs ys (kds [])) xs.length = tab (sumD b xs ys) xs.length := by
    refine tab_congr fun k hk => ?_
    rw [levD, sumD, lv_none h hl hd k (by omega)]
  rw [e3, lv_none h hl hd _ (Nat.le_refl _)] at e2
  refine ⟨e2.trans e1.symm, ?_⟩
  simp [shwB, e1, e2]
theorem lv_shows {b : Int} {xs ys zs ss : List Int} {fs : List (Int × Int)} {k c : Int} (h1 : awfR b xs b ys fs = (b, zs, k, 0)) (h2 : addR b xs b ys = (b, ss, c, 0)) : shwB b xs b ys fs = !(regEqB b b zs ss && decide (k = c)) := by
  rw [shwB, h1, h2]
  simp [regEqB, Bool.and_comm]

theorem ft_split : ∀ k : Fin 3, ∀ l : Fin 16, splitL (wdV ((k.1 : Int) + 1) ++ ⟨#[32]⟩ ++ ⟨(Lib.itoa (l.1 : Int)).toArray⟩) 32 = [wdV ((k.1 : Int) + 1), ⟨(Lib.itoa (l.1 : Int)).toArray⟩] := by decide +kernel
theorem ft_back {x : Int × Int} (h0 : 1 ≤ x.1 ∧ x.1 ≤ 3) (h1 : 0 ≤ x.2 ∧ x.2 ≤ 15) : rfR (ftV x) = (x, true) ∧ (ftV x).size ≤ 1048576 := by
  obtain ⟨k, l⟩ := x
  have hk : inB k 1 3 = true := by simp [inB]; exact h0
  have hl : inB l 0 15 = true := by simp [inB]; exact h1
  obtain ⟨i, hi⟩ : ∃ i : Fin 3, k = (i.1 : Int) + 1 := ⟨⟨(k - 1).toNat, by simp only at h0; omega⟩, by simp only at h0 ⊢; omega⟩
  obtain ⟨j, hj⟩ : ∃ j : Fin 16, l = (j.1 : Int) := ⟨⟨l.toNat, by simp only at h1; omega⟩, by simp only at h1 ⊢; omega⟩
  have e := ft_split i j
  have hz : ∀ k : Fin 3, ∀ l : Fin 16, (wdV ((k.1 : Int) + 1) ++ ⟨#[32]⟩ ++ ⟨(Lib.itoa (l.1 : Int)).toArray⟩).size ≤ 1048576 := by decide +kernel
  have hd : ∀ k : Fin 3, ∀ l : Fin 3, l.1 < k.1 → ¬ wdV ((k.1 : Int) + 1) = wdV ((l.1 : Int) + 1) := by decide +kernel
  rw [ftV_ok hk hl]
  constructor
  · rw [rfR, hi, hj, e, rfL, rdR_yes (v := (j.1 : Int)) ⟨by omega, rfl⟩]
    refine rfT_hit (by rw [← hj]; exact hl) (by omega) rfl fun m m0 m1 he => ?_
    obtain ⟨q, hq⟩ : ∃ q : Fin 3, m = (q.1 : Int) + 1 := ⟨⟨(m - 1).toNat, by omega⟩, by simp only; omega⟩
    rw [hq] at he m1
    exact hd i q (by omega) he
  · rw [hi, hj]; exact hz i j

/-- The library's variables that reading a number meets: the table of powers of ten; two errors. -/
structure RdDoor (w : World) : Prop where
  tab : PowTab w
  syn : ∃ ev, w.cell? ⟨3, 0, none⟩ = some ev ∧ ∃ te pe, ev = .iface te pe
  rng : ∃ ev, w.cell? ⟨4, 0, none⟩ = some ev ∧ ∃ te pe, ev = .iface te pe
theorem rdDoor_below {w w' : World} (h : RdDoor w) (hb : Below w.heap.size w w') : RdDoor w' := by
  obtain ⟨h1, ⟨e2, h2, h3⟩, ⟨e4, h4, h5⟩⟩ := h
  exact ⟨powTab_below h1 hb, ⟨e2, kept hb h2, h3⟩, ⟨e4, kept hb h4, h5⟩⟩

theorem dec_ne {s : ByteArray} {n : Int} (h : ¬ ∃ v, isDec s v) (h1 : -1000000000000000000 < n) (h2 : n < 1000000000000000000) : ¬ (⟨(Lib.itoa n).toArray⟩ : ByteArray) = s :=
  fun e => h ⟨n, by omega, e.symm⟩
/-- Two texts that part, as the walk asks. -/
theorem str_ne {a b : ByteArray} (h : ¬ a = b) : (a.toList == b.toList) = false := by
  rw [beq_eq_false_iff_ne]
  intro e
  rw [Lib.toList_data, Lib.toList_data] at e
  exact h (WideShapes.bytes_inj e)
theorem i64_at {n : Int} (h1 : -9223372036854775808 ≤ n) (h2 : n ≤ 9223372036854775807) : I64 n := by
  unfold I64
  simp [Lit.wf, IntKind.min, IntKind.max, IntKind.signed, IntKind.bits]
  exact ⟨h1, h2⟩

set_option maxRecDepth 100000 in
set_option maxHeartbeats 2000000 in
theorem implReadDecimal (s : ByteArray) (w : World) (hs : s.size ≤ 1048576) (hD : RdDoor w) :
    Calls Tryd.prog 31 #[.string s] w fun e w' => e = .returned (.tuple #[.int .i64 (rdR s).1, .bool (rdR s).2]) ∧ Below w.heap.size w w' := by
  by_cases hx : ∃ v, isDec s v
  · obtain ⟨v, hv⟩ := hx
    have hr := rdR_yes hv
    obtain ⟨hv, hsv⟩ := hv
    have c1 := (Tryd.strconv_ParseInt_10_at64_ok s (by omega) v (by rw [hsv]; simpa using parse_itoa hv) w).mono (R' := fun e w' => e = .returned (.tuple #[.int .i64 v, .nilIface]) ∧ Below w.heap.size w w')
      fun e w' ⟨he, hb⟩ => ⟨he, by rcases hb with rfl | ⟨t, rfl⟩; exact Below.refl _ _; exact Joins.below_bytesWorld _ _ _ _ (Nat.le_refl _)⟩
    have c2 := fun w1 (hb : Below w.heap.size w w1) => implDecimal v w1 (i64_at (by omega) (by omega)) (powTab_below hD.tab hb)
    have h1 : -1000000000000000000 < v := by omega
    have h2 : v < 1000000000000000000 := by omega
    rw [← hsv] at c2
    have HR := Lib.hid hr
    clear hD hv hsv hr hs
    go_enter Tryd.func31, Tryd.ntmps31
    go_wp2_with (first | (go_at_call 72; refine c1.mono ?_; rintro e w1 ⟨rfl, hb⟩) | (go_at_call 73; refine (c2 _ hb).mono ?_; rintro e w2 ⟨rfl, hb2⟩))
    go_ret2
    exact ⟨by rw [HR.out]; rfl, hb.trans (hb2.mono hb.size)⟩
  · have HR := Lib.hid (rdR_no hx)
    cases hp : Lib.parseIntB 64 s.data.toList with
    | ok n =>
      have c1 := (Tryd.strconv_ParseInt_10_at64_ok s (by omega) n hp w).mono (R' := fun e w' => e = .returned (.tuple #[.int .i64 n, .nilIface]) ∧ Below w.heap.size w w')
        fun e w' ⟨he, hb⟩ => ⟨he, by rcases hb with rfl | ⟨t, rfl⟩; exact Below.refl _ _; exact Joins.below_bytesWorld _ _ _ _ (Nat.le_refl _)⟩
      have hT := hD.tab
      clear hD hp hs
      by_cases h1 : n ≤ -1000000000000000000
      · clear hx hT
        go_enter Tryd.func31, Tryd.ntmps31
        go_wp2_with (go_at_call 72; refine c1.mono ?_; rintro e w1 ⟨rfl, hb⟩)
        go_ret2
        exact ⟨by rw [HR.out]; rfl, hb⟩
      by_cases h2 : 1000000000000000000 ≤ n
      · clear hx hT
        go_enter Tryd.func31, Tryd.ntmps31
        go_wp2_with (go_at_call 72; refine c1.mono ?_; rintro e w1 ⟨rfl, hb⟩)
        go_ret2
        exact ⟨by rw [HR.out]; rfl, hb⟩
      have c2 := fun w1 (hb : Below w.heap.size w w1) => implDecimal n w1 (i64_at (by omega) (by omega)) (powTab_below hT hb)
      have hne := dec_ne hx (by omega) (by omega : n < 1000000000000000000)
      clear hx hT
      obtain ⟨S, hS⟩ : ∃ S : ByteArray, S = ⟨(Lib.itoa n).toArray⟩ := ⟨_, rfl⟩
      rw [← hS] at c2 hne
      have hneb := str_ne hne
      clear hS
      go_enter Tryd.func31, Tryd.ntmps31
      go_wp2_with (first | (go_at_call 72; refine c1.mono ?_; rintro e w1 ⟨rfl, hb⟩) | (go_at_call 73; refine (c2 _ hb).mono ?_; rintro e w2 ⟨rfl, hb2⟩))
      go_ret2
      exact ⟨by rw [HR.out]; rfl, hb.trans (hb2.mono hb.size)⟩
    | range =>
      obtain ⟨ev, h1, h2⟩ := hD.rng
      have c1 := Tryd.strconv_ParseInt_10_at64_range s (by omega) hp ev w h1 (.inr h2)
      clear hD h1 h2 hp hx
      go_enter Tryd.func31, Tryd.ntmps31
      go_wp2_with (go_at_call 72; refine c1.mono ?_; rintro e w1 ⟨N, rfl, _, _, hb⟩; clear c1)
      go_ret2
      exact ⟨by rw [HR.out]; rfl, hb⟩
    | _ =>
      obtain ⟨ev, h1, h2⟩ := hD.syn
      have c1 := Tryd.strconv_ParseInt_10_at64_syntax s (by omega) (hp.trans rfl) ev w h1 (.inr h2)
      clear hD h1 h2 hp hx
      go_enter Tryd.func31, Tryd.ntmps31
      go_wp2_with (go_at_call 72; refine c1.mono ?_; rintro e w1 ⟨N, rfl, _, _, hb⟩; clear c1)
      go_ret2
      exact ⟨by rw [HR.out]; rfl, hb⟩

/-- The variables that reading a fault meets. -/
structure RfDoor (w : World) : Prop where
  rd : RdDoor w
  words : FaultWords w
  max : ∃ m, w.cell? ⟨5, 0, none⟩ = some (.int .i64 m)
theorem rfDoor_below {w w' : World} (h : RfDoor w) (hb : Below w.heap.size w w') : RfDoor w' := by
  obtain ⟨h1, h3, m, h2⟩ := h
  exact ⟨rdDoor_below h1 hb, faultWords_below h3 hb, m, kept hb h2⟩

set_option maxRecDepth 100000 in
set_option maxHeartbeats 4000000 in
theorem implReadFault (s : ByteArray) (w : World) (hs : s.size ≤ 1048576) (hD : RfDoor w) :
    Calls Tryd.prog 38 #[.string s] w fun e w' => e = .returned (.tuple #[.agg #[.int .i64 (rfR s).1.1, .int .i64 (rfR s).1.2], .bool (rfR s).2]) ∧ Below w.heap.size w w' := by
  obtain ⟨V, hV⟩ : ∃ V, V = w.alloc (.cells #[.int .i64 0, .int .i64 0] 53) := ⟨_, rfl⟩
  have bx : Bx V w.heap.size 53 #[.int .i64 0, .int .i64 0] := by rw [hV]; exact Bx.new _ _ _
  have hbV : Below w.heap.size w V := by rw [hV]; exact (Below.refl _ _).alloc (Nat.le_refl _) _
  have hDV := rfDoor_below hD hbV
  obtain ⟨hR, hWd, m, hM⟩ := hDV
  have c1 := Tryd.strings_Cut s ⟨#[32]⟩ m V (by omega) hM
  rw [show (⟨#[32]⟩ : ByteArray).data.toList = [32] from rfl] at c1
  have ht := cutf_tells s
  obtain ⟨H, hH⟩ : ∃ H : ByteArray, H = ⟨(Lib.cut s.data.toList [32]).1.toArray⟩ := ⟨_, rfl⟩
  obtain ⟨T, hT⟩ : ∃ T : ByteArray, T = ⟨(Lib.cut s.data.toList [32]).2.1.toArray⟩ := ⟨_, rfl⟩
  obtain ⟨F, hF⟩ : ∃ F : Bool, F = (Lib.cut s.data.toList [32]).2.2 := ⟨_, rfl⟩
  rw [← hH, ← hT, ← hF] at c1
  rw [← hH, ← hT] at ht
  clear hH hT hF hD
  have HV := Lib.hid hV
  obtain ⟨hHs, hTs, hr⟩ := ht
  have c2 := fun n => implReadDecimal T (V.drewN n) (by omega) (rdDoor_below hR (bel_drewN (Below.refl _ _) n))
  generalize rdR T = R at c2 hr
  obtain ⟨b, ok⟩ := R
  have HR := Lib.hid hr
  clear hr hR hM hV
  go_enter Tryd.func38, Tryd.ntmps38
  go_wp2_with fail
  rw [← HV.out]
  refine c1.mono ?_
  rintro e w1 ⟨rfl, n, rfl⟩
  go_wp2_with fail
  refine (c2 n).mono ?_
  rintro e w2 ⟨rfl, hb2⟩
  have hbx := (bel_drewN (Below.refl V.heap.size V) n).trans hb2
  replace bx := bx.below hbx
  replace hWd := faultWords_below hWd hbx
  replace hb2 := hbV.trans (hbx.mono hbV.size)
  clear hbx c1 c2 HV hbV
  cases ok with
  | false =>
    have HN := Lib.hid (HR.out.trans (rfT_bad (fun h => by cases h.1)))
    have c0 := bx.at_ 0 rfl
    have c1 := bx.at_ 1 rfl
    have f0 := bx.thaw 0
    have f1 := bx.thaw 1
    clear HR hWd
    go_wp2
    exact bodyPost_ret (v := .tuple #[.agg #[.int .i64 0, .int .i64 0], .bool false]) (by simp [results, Tryd.results38, go_sem, c0, c1]) rfl ⟨by rw [HN.out], (by repeat (first | exact hb2 | refine Below.setCell ?_ (by first | omega | (simp <;> omega)) _ | refine Below.alloc ?_ (by first | omega | (simp <;> omega)) _ | refine Below.drew ?_))⟩
  | true =>
    obtain ⟨u, hu⟩ : ∃ u, u = w2.alloc (.cells #[.int .i64 b] 2) := ⟨_, rfl⟩
    have hbu : Below w2.heap.size w2 u := by rw [hu]; exact (Below.refl _ _).alloc (Nat.le_refl _) _
    have HW := Lib.hid (within1_at 0 15 b u w2.heap.size 1 (by rw [hu]; exact (Bx.new _ _ _).at_ 0 rfl))
    have HU := Lib.hid hu
    replace bx := bx.below hbu
    replace hWd := faultWords_below hWd hbu
    have hbU := hb2.trans (hbu.mono hb2.size)
    clear hu hbu
    cases hI : inB b 0 15 with
    | false =>
      rw [hI] at HW
      have HN := Lib.hid (HR.out.trans (rfT_bad (fun h => by rw [hI] at h; cases h.2)))
      clear hI
      have c0 := bx.at_ 0 rfl
      have c1 := bx.at_ 1 rfl
      have f0 := bx.thaw 0
      have f1 := bx.thaw 1
      clear HR hWd
      go_wp2_with (go_at_call 70; rw [← HU.out]; refine HW.out.mono ?_; rintro e w' ⟨rfl, hq⟩; subst hq)
      exact bodyPost_ret (v := .tuple #[.agg #[.int .i64 0, .int .i64 0], .bool false]) (by simp [results, Tryd.results38, go_sem, c0, c1]) rfl ⟨by rw [HN.out], (by repeat (first | exact hbU | refine Below.setCell ?_ (by first | omega | (simp <;> omega)) _ | refine Below.alloc ?_ (by first | omega | (simp <;> omega)) _ | refine Below.drew ?_))⟩
    | true =>
      rw [hI] at HW
      have HI := Lib.hid hI
      clear hI
      obtain ⟨W1, hW1⟩ : ∃ W, W = wdV 1 := ⟨_, rfl⟩
      obtain ⟨W2, hW2⟩ : ∃ W, W = wdV 2 := ⟨_, rfl⟩
      obtain ⟨W3, hW3⟩ : ∃ W, W = wdV 3 := ⟨_, rfl⟩
      have n0 := hWd.1
      have n1 : u.cell? ⟨1, 1, none⟩ = some (.string W1) := by rw [hW1]; exact hWd.2.1
      have n2 : u.cell? ⟨1, 2, none⟩ = some (.string W2) := by rw [hW2]; exact hWd.2.2.1
      have n3 : u.cell? ⟨1, 3, none⟩ = some (.string W3) := by rw [hW3]; exact hWd.2.2.2
      have HW1 := Lib.hid hW1
      have HW2 := Lib.hid hW2
      have HW3 := Lib.hid hW3
      clear hW1 hW2 hW3 hWd
      go_wp2_with (go_at_call 70; rw [← HU.out]; refine HW.out.mono ?_; rintro e w' ⟨rfl, hq⟩; subst hq)
      clear n0 n1 n2 n3
      go_loopw [32] (fun i wr => ∃ k : Nat, k ≤ 4 ∧ i = .int .i64 (k : Int) ∧ Bx wr w.heap.size 53 #[.int .i64 0, .int .i64 0] ∧ Below w.heap.size w wr ∧ Hid (∀ j : Int, 1 ≤ j → j < (k : Int) → ¬ H = wdV j)) (fun i _ => 4 - (intOf i).toNat)
      case atStart => exact ⟨0, by omega, rfl, bx, hbU, Lib.hid (fun j h1 h2 => by omega)⟩
      case round =>
        clear bx hbU HU HW
        obtain ⟨k, hk, rfl, bx, bl, HA⟩ := hrel
        have hzs := bx.lt
        by_cases hlt : k < 4
        · have hcc : k = 0 ∨ k = 1 ∨ k = 2 ∨ k = 3 := by omega
          clear hk hlt
          rcases hcc with rfl | rfl | rfl | rfl
          · have hin : inB 0 1 3 = false := by decide
            have HN := Lib.hid (show ∀ j : Int, 1 ≤ j → j < ((0 + 1 : Nat) : Int) → ¬ H = wdV j from fun j h1 h2 => by omega)
            have hix : ∀ v : World, Sem.run Tryd.prog (Instr.index 107 (.agg #[.string ⟨#[]⟩, .string W1, .string W2, .string W3]) (.int .i64 0)) v = .ok (.string ⟨#[]⟩) v := fun _ => by kernel_rfl
            go_wp2_with (go_at_call 83; refine (isFaultKind_at 0 wr hin).mono ?_; rintro e w5 ⟨rfl, hq⟩; have b5 := bx.alloc (.cells #[.int .i64 0] 2); rw [← hq] at b5; have bl5 : Below w.heap.size w w5 := (by rw [hq]; exact bl.alloc (Nat.le_of_lt hzs) _); have HQ := Lib.hid hq; clear hq; have c0 := b5.at_ 0 rfl; have c1 := b5.at_ 1 rfl; have f0 := b5.thaw 0; have f1 := b5.thaw 1)
            go_roundw
            case rel => exact ⟨0 + 1, by omega, by go_num, b5, bl5, HN⟩
            case measure => (simp [intOf]) <;> omega
          · have hin : inB 1 1 3 = true := by decide
            by_cases he : H = W1
            · have t1 : (W1.toList == H.toList) = true := by rw [he]; simp
              have HN := Lib.hid (show rfR s = ((1, b), true) from HR.out.trans (rfT_hit HI.out (by omega) (he.trans HW1.out) fun j h1 h2 => HA.out j h1 h2))
              clear he
              have hix : ∀ v : World, Sem.run Tryd.prog (Instr.index 107 (.agg #[.string ⟨#[]⟩, .string W1, .string W2, .string W3]) (.int .i64 1)) v = .ok (.string W1) v := fun _ => by kernel_rfl
              go_wp2_with (go_at_call 83; refine (isFaultKind_at 1 wr hin).mono ?_; rintro e w5 ⟨rfl, hq⟩; have b5 := bx.alloc (.cells #[.int .i64 1] 2); rw [← hq] at b5; have bl5 : Below w.heap.size w w5 := (by rw [hq]; exact bl.alloc (Nat.le_of_lt hzs) _); have HQ := Lib.hid hq; clear hq; have c0 := b5.at_ 0 rfl; have c1 := b5.at_ 1 rfl; have f0 := b5.thaw 0; have f1 := b5.thaw 1)
              exact bodyPost_ret (v := .tuple #[.agg #[.int .i64 1, .int .i64 b], .bool true]) (by simp [results, Tryd.results38, go_sem, c0, c1]) rfl ⟨by rw [HN.out], (by repeat (first | exact bl5 | refine Below.setCell ?_ (by first | omega | (simp <;> omega)) _ | refine Below.alloc ?_ (by first | omega | (simp <;> omega)) _ | refine Below.drew ?_))⟩
            · have t1 : (W1.toList == H.toList) = false := str_ne fun e => he e.symm
              have HN := Lib.hid (show ∀ j : Int, 1 ≤ j → j < ((1 + 1 : Nat) : Int) → ¬ H = wdV j from fun j h1 h2 => by
                by_cases hj : j < 1
                · exact HA.out j h1 hj
                · obtain rfl : j = 1 := by omega
                  rw [← HW1.out]; exact he)
              clear he
              have hix : ∀ v : World, Sem.run Tryd.prog (Instr.index 107 (.agg #[.string ⟨#[]⟩, .string W1, .string W2, .string W3]) (.int .i64 1)) v = .ok (.string W1) v := fun _ => by kernel_rfl
              go_wp2_with (go_at_call 83; refine (isFaultKind_at 1 wr hin).mono ?_; rintro e w5 ⟨rfl, hq⟩; have b5 := bx.alloc (.cells #[.int .i64 1] 2); rw [← hq] at b5; have bl5 : Below w.heap.size w w5 := (by rw [hq]; exact bl.alloc (Nat.le_of_lt hzs) _); have HQ := Lib.hid hq; clear hq; have c0 := b5.at_ 0 rfl; have c1 := b5.at_ 1 rfl; have f0 := b5.thaw 0; have f1 := b5.thaw 1)
              go_roundw
              case rel => exact ⟨1 + 1, by omega, by go_num, b5, bl5, HN⟩
              case measure => (simp [intOf]) <;> omega
          · have hin : inB 2 1 3 = true := by decide
            by_cases he : H = W2
            · have t1 : (W2.toList == H.toList) = true := by rw [he]; simp
              have HN := Lib.hid (show rfR s = ((2, b), true) from HR.out.trans (rfT_hit HI.out (by omega) (he.trans HW2.out) fun j h1 h2 => HA.out j h1 h2))
              clear he
              have hix : ∀ v : World, Sem.run Tryd.prog (Instr.index 107 (.agg #[.string ⟨#[]⟩, .string W1, .string W2, .string W3]) (.int .i64 2)) v = .ok (.string W2) v := fun _ => by kernel_rfl
              go_wp2_with (go_at_call 83; refine (isFaultKind_at 2 wr hin).mono ?_; rintro e w5 ⟨rfl, hq⟩; have b5 := bx.alloc (.cells #[.int .i64 2] 2); rw [← hq] at b5; have bl5 : Below w.heap.size w w5 := (by rw [hq]; exact bl.alloc (Nat.le_of_lt hzs) _); have HQ := Lib.hid hq; clear hq; have c0 := b5.at_ 0 rfl; have c1 := b5.at_ 1 rfl; have f0 := b5.thaw 0; have f1 := b5.thaw 1)
              exact bodyPost_ret (v := .tuple #[.agg #[.int .i64 2, .int .i64 b], .bool true]) (by simp [results, Tryd.results38, go_sem, c0, c1]) rfl ⟨by rw [HN.out], (by repeat (first | exact bl5 | refine Below.setCell ?_ (by first | omega | (simp <;> omega)) _ | refine Below.alloc ?_ (by first | omega | (simp <;> omega)) _ | refine Below.drew ?_))⟩
            · have t1 : (W2.toList == H.toList) = false := str_ne fun e => he e.symm
              have HN := Lib.hid (show ∀ j : Int, 1 ≤ j → j < ((2 + 1 : Nat) : Int) → ¬ H = wdV j from fun j h1 h2 => by
                by_cases hj : j < 2
                · exact HA.out j h1 hj
                · obtain rfl : j = 2 := by omega
                  rw [← HW2.out]; exact he)
              clear he
              have hix : ∀ v : World, Sem.run Tryd.prog (Instr.index 107 (.agg #[.string ⟨#[]⟩, .string W1, .string W2, .string W3]) (.int .i64 2)) v = .ok (.string W2) v := fun _ => by kernel_rfl
              go_wp2_with (go_at_call 83; refine (isFaultKind_at 2 wr hin).mono ?_; rintro e w5 ⟨rfl, hq⟩; have b5 := bx.alloc (.cells #[.int .i64 2] 2); rw [← hq] at b5; have bl5 : Below w.heap.size w w5 := (by rw [hq]; exact bl.alloc (Nat.le_of_lt hzs) _); have HQ := Lib.hid hq; clear hq; have c0 := b5.at_ 0 rfl; have c1 := b5.at_ 1 rfl; have f0 := b5.thaw 0; have f1 := b5.thaw 1)
              go_roundw
              case rel => exact ⟨2 + 1, by omega, by go_num, b5, bl5, HN⟩
              case measure => (simp [intOf]) <;> omega
          · have hin : inB 3 1 3 = true := by decide
            by_cases he : H = W3
            · have t1 : (W3.toList == H.toList) = true := by rw [he]; simp
              have HN := Lib.hid (show rfR s = ((3, b), true) from HR.out.trans (rfT_hit HI.out (by omega) (he.trans HW3.out) fun j h1 h2 => HA.out j h1 h2))
              clear he
              have hix : ∀ v : World, Sem.run Tryd.prog (Instr.index 107 (.agg #[.string ⟨#[]⟩, .string W1, .string W2, .string W3]) (.int .i64 3)) v = .ok (.string W3) v := fun _ => by kernel_rfl
              go_wp2_with (go_at_call 83; refine (isFaultKind_at 3 wr hin).mono ?_; rintro e w5 ⟨rfl, hq⟩; have b5 := bx.alloc (.cells #[.int .i64 3] 2); rw [← hq] at b5; have bl5 : Below w.heap.size w w5 := (by rw [hq]; exact bl.alloc (Nat.le_of_lt hzs) _); have HQ := Lib.hid hq; clear hq; have c0 := b5.at_ 0 rfl; have c1 := b5.at_ 1 rfl; have f0 := b5.thaw 0; have f1 := b5.thaw 1)
              exact bodyPost_ret (v := .tuple #[.agg #[.int .i64 3, .int .i64 b], .bool true]) (by simp [results, Tryd.results38, go_sem, c0, c1]) rfl ⟨by rw [HN.out], (by repeat (first | exact bl5 | refine Below.setCell ?_ (by first | omega | (simp <;> omega)) _ | refine Below.alloc ?_ (by first | omega | (simp <;> omega)) _ | refine Below.drew ?_))⟩
            · have t1 : (W3.toList == H.toList) = false := str_ne fun e => he e.symm
              have HN := Lib.hid (show ∀ j : Int, 1 ≤ j → j < ((3 + 1 : Nat) : Int) → ¬ H = wdV j from fun j h1 h2 => by
                by_cases hj : j < 3
                · exact HA.out j h1 hj
                · obtain rfl : j = 3 := by omega
                  rw [← HW3.out]; exact he)
              clear he
              have hix : ∀ v : World, Sem.run Tryd.prog (Instr.index 107 (.agg #[.string ⟨#[]⟩, .string W1, .string W2, .string W3]) (.int .i64 3)) v = .ok (.string W3) v := fun _ => by kernel_rfl
              go_wp2_with (go_at_call 83; refine (isFaultKind_at 3 wr hin).mono ?_; rintro e w5 ⟨rfl, hq⟩; have b5 := bx.alloc (.cells #[.int .i64 3] 2); rw [← hq] at b5; have bl5 : Below w.heap.size w w5 := (by rw [hq]; exact bl.alloc (Nat.le_of_lt hzs) _); have HQ := Lib.hid hq; clear hq; have c0 := b5.at_ 0 rfl; have c1 := b5.at_ 1 rfl; have f0 := b5.thaw 0; have f1 := b5.thaw 1)
              go_roundw
              case rel => exact ⟨3 + 1, by omega, by go_num, b5, bl5, HN⟩
              case measure => (simp [intOf]) <;> omega
        · obtain rfl : k = 4 := by omega
          have HN := Lib.hid (HR.out.trans (rfT_none (fun j h1 h2 => HA.out j h1 h2)))
          have c0 := bx.at_ 0 rfl
          have c1 := bx.at_ 1 rfl
          have f0 := bx.thaw 0
          have f1 := bx.thaw 1
          go_wp2
          exact bodyPost_ret (v := .tuple #[.agg #[.int .i64 0, .int .i64 0], .bool false]) (by simp [results, Tryd.results38, go_sem, c0, c1]) rfl ⟨by rw [HN.out], (by repeat (first | exact bl | refine Below.setCell ?_ (by first | omega | (simp <;> omega)) _ | refine Below.alloc ?_ (by first | omega | (simp <;> omega)) _ | refine Below.drew ?_))⟩
end Go.Proofs.YtgfopieojpjddaaDoor
