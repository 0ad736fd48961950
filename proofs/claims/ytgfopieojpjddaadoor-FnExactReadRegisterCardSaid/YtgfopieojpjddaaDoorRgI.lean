/-
  ReadRegister, in the program.
-/
import Derived.Test.YtgfopieojpjddaaDoorRgM
import Derived.Test.YtgfopieojpjddaaDoorReadI
import Derived.Test.YtgfopieojpjddaaDoorOkI
import Derived.Test.YtgfopieojpjddaaDoorApp
import Derived.Test.YtgfopieojpjddaaDoorToI
import Derived.Test.YtgfopieojpjddaaDoorShCut
import Derived.Laws.RangeAny
namespace Go.Proofs.YtgfopieojpjddaaDoor
open Go.RowKit

theorem rgDec_t (c : Int) (w : World) (h : 48 ≤ c ∧ c ≤ 57) : Calls Tryd.prog 127 #[.int .i32 c] w fun e w' => e = .returned (.bool true) ∧ w' = w := by
  obtain ⟨h1, h2⟩ := h
  go_enter Tryd.func127, Tryd.ntmps127
  go_wp2
  go_ret
  exact ⟨ret_bool (by simp), rfl⟩
theorem rgDec_f (c : Int) (w : World) (h : ¬ (48 ≤ c ∧ c ≤ 57)) : Calls Tryd.prog 127 #[.int .i32 c] w fun e w' => e = .returned (.bool false) ∧ w' = w := by
  by_cases h1 : 48 ≤ c
  · have h2 : ¬ c ≤ 57 := by omega
    clear h
    go_enter Tryd.func127, Tryd.ntmps127
    go_wp2
    go_ret
    exact ⟨ret_bool (by simp), rfl⟩
  · clear h
    go_enter Tryd.func127, Tryd.ntmps127
    go_wp2
    go_ret
    exact ⟨rfl, rfl⟩

/-- A sign's digit, in the program. -/
theorem signDigit_t (c : Nat) (w : World) (h : ¬ sgV c = -1) : Calls Tryd.prog 78 #[.int .i32 (c : Int)] w fun e w' => e = .returned (.tuple #[.int .i64 (sgV c), .bool true]) ∧ w' = w := by
  by_cases h1 : 48 ≤ (c : Int) ∧ (c : Int) ≤ 57
  · have HV := Lib.hid (sgV_dec (c := c) (by omega))
    have c1 := fun w => rgDec_t (c : Int) w h1
    obtain ⟨h2, h3⟩ := h1
    clear h
    go_enter Tryd.func78, Tryd.ntmps78
    go_wp2_with (go_at_call 127; refine (c1 _).mono ?_; rintro e w' ⟨rfl, rfl⟩)
    go_ret2
    exact ⟨by rw [HV.out]; rfl, rfl⟩
  · have h4 : 97 ≤ (c : Int) ∧ (c : Int) ≤ 102 := by
      by_cases h5 : 97 ≤ c ∧ c ≤ 102
      · omega
      · exact absurd (sgV_no (by omega) h5) h
    have HV := Lib.hid (sgV_let (c := c) (by omega))
    have c1 := fun w => rgDec_f (c : Int) w h1
    obtain ⟨h2, h3⟩ := h4
    clear h h1
    go_enter Tryd.func78, Tryd.ntmps78
    go_wp2_with (go_at_call 127; refine (c1 _).mono ?_; rintro e w' ⟨rfl, rfl⟩)
    go_ret2
    exact ⟨by rw [HV.out, show (c : Int) - 87 = (c : Int) - 97 + 10 by omega]; rfl, rfl⟩
theorem signDigit_f (c : Nat) (w : World) (h : sgV c = -1) : Calls Tryd.prog 78 #[.int .i32 (c : Int)] w fun e w' => e = .returned (.tuple #[.int .i64 0, .bool false]) ∧ w' = w := by
  have h1 : ¬ (48 ≤ (c : Int) ∧ (c : Int) ≤ 57) := fun hh => by have := sgV_dec (c := c) (by omega); omega
  have h4 : ¬ (97 ≤ (c : Int) ∧ (c : Int) ≤ 102) := fun hh => by have := sgV_let (c := c) (by omega); omega
  have c1 := fun w => rgDec_f (c : Int) w h1
  by_cases h5 : 97 ≤ (c : Int)
  · have h6 : ¬ (c : Int) ≤ 102 := by omega
    clear h h1 h4
    go_enter Tryd.func78, Tryd.ntmps78
    go_wp2_with (go_at_call 127; refine (c1 _).mono ?_; rintro e w' ⟨rfl, rfl⟩)
    go_ret2
    exact ⟨rfl, rfl⟩
  · clear h h1 h4
    go_enter Tryd.func78, Tryd.ntmps78
    go_wp2_with (go_at_call 127; refine (c1 _).mono ?_; rintro e w' ⟨rfl, rfl⟩)
    go_ret2
    exact ⟨rfl, rfl⟩

/-- What is decoded is a sign just if the byte is one; then it is one byte. -/
theorem dec_sg {s : ByteArray} {k c z : Nat} (h : k < s.size) (hd : Utf8.decode s k = (c, z)) : sgV c = sgV (byteAt s k).toNat ∧ (¬ sgV c = -1 → z = 1) := by
  rw [← byteAt_get h]
  rcases Nat.lt_or_ge (s[k]'h).toNat 128 with h1 | h1
  · rw [decode_ascii s k h h1] at hd
    injection hd with h2 h3
    subst h2
    exact ⟨rfl, fun _ => h3.symm⟩
  · have h2 := (decode_high s k h h1).1
    rw [hd] at h2
    have h3 : 128 ≤ c := h2
    have h4 : sgV c = -1 := sgV_no (by omega) (by omega)
    exact ⟨by rw [h4, sgV_no (by omega) (by omega)], fun h5 => absurd h4 h5⟩

/-- A store ahead of an object that was made last. -/
theorem alloc_put (X : World) (o : Obj) {p : Addr} (hp : p.block < X.heap.size) (u : Value) : (X.alloc o).setCell p u = (X.setCell p u).alloc o := by
  unfold World.setCell World.alloc
  congr 1
  refine Array.ext (by simp) fun i h1 h2 => ?_
  simp only [Array.getElem_modify, Array.getElem_push, Array.size_modify]
  by_cases hi : i < X.heap.size
  · simp [hi]
  · simp only [hi, dite_false]
    rw [if_neg (by omega)]

theorem iterPos_at {X : World} {N : Nat} {s : ByteArray} {p : Nat} (h : X.heap.size = N) : (X.iter s p).iterPos N = p := by subst h; exact World.iterPos_iter X s p

/-- The library's variables that reading a register meets. -/
structure RgDoor (w : World) : Prop where
  rd : RdDoor w
  max : ∃ m, w.cell? ⟨5, 0, none⟩ = some (.int .i64 m)
theorem rgDoor_below {w w' : World} (h : RgDoor w) (hb : Below w.heap.size w w') : RgDoor w' := by
  obtain ⟨h1, m, h2⟩ := h
  exact ⟨rdDoor_below h1 hb, m, kept hb h2⟩

theorem rdR_64 (s : ByteArray) : I64 (rdR s).1 := by
  by_cases h : ∃ v, isDec s v
  · obtain ⟨v, hv⟩ := h
    rw [rdR_yes hv]
    have := hv.1
    exact i64_at (by show _ ≤ v; omega) (by show v ≤ _; omega)
  · rw [rdR_no h]; exact i64_at (by decide) (by decide)

/-- What a call of ReadRegister leaves. -/
def RgPost (s : ByteArray) (w : World) (e : Ending) (w' : World) : Prop := ∃ A C,
  e = .returned (.tuple #[.agg #[.int .i64 (rgR s).1, .slice A (rgR s).2.1.length C], .bool (rgR s).2.2]) ∧ Own 2 w' w.heap.size w'.heap.size (.slice A (rgR s).2.1.length C) (rgR s).2.1 ∧ Below w.heap.size w w'
theorem rgPost_no {s : ByteArray} {w w' : World} {e : Ending} (h : rgR s = (0, [], false)) (he : e = .returned (.tuple #[.agg #[.int .i64 0, .slice none 0 0], .bool false])) (hb : Below w.heap.size w w') : RgPost s w e w' := by
  refine ⟨none, 0, ?_, ?_, hb⟩
  · rw [h]; exact he
  · rw [h]; exact own_nil _ _ _ _
theorem rgPost_yes {s : ByteArray} {b : Int} {zs : List Int} {m : Nat} {w w' : World} {A : Option Addr} {C lo hi : Nat} {e : Ending} (h : rgR s = (b, zs, true)) (hm : zs.length = m) (he : e = .returned (.tuple #[.agg #[.int .i64 b, .slice A m C], .bool true]))
    (ho : Own 2 w' lo hi (.slice A m C) zs) (hl : w.heap.size ≤ lo) (hh : hi ≤ w'.heap.size) (hb : Below w.heap.size w w') : RgPost s w e w' := by
  subst hm
  refine ⟨A, C, ?_, ?_, hb⟩
  · rw [h]; exact he
  · rw [h]; exact ho.wide hl hh

set_option maxRecDepth 100000 in
set_option maxHeartbeats 4000000 in
theorem implReadRegister (s : ByteArray) (w : World) (hs : s.size ≤ 1048576) (hD : RgDoor w) :
    Calls Tryd.prog 33 #[.string s] w (RgPost s w) := by
  obtain ⟨V, hV⟩ : ∃ V, V = w.alloc (.cells #[.int .i64 0, .slice none 0 0] 47) := ⟨_, rfl⟩
  have bx : Bx V w.heap.size 47 #[.int .i64 0, .slice none 0 0] := by rw [hV]; exact Bx.new _ _ _
  have hbV : Below w.heap.size w V := by rw [hV]; exact (Below.refl _ _).alloc (Nat.le_refl _) _
  have hDV := rgDoor_below hD hbV
  obtain ⟨hR, m, hM⟩ := hDV
  have c1 := Tryd.strings_Cut s ⟨#[58]⟩ m V (by omega) hM
  rw [show (⟨#[58]⟩ : ByteArray).data.toList = [58] from rfl] at c1
  have ht := cut_tells s
  obtain ⟨H, hH⟩ : ∃ H : ByteArray, H = ⟨(Lib.cut s.data.toList [58]).1.toArray⟩ := ⟨_, rfl⟩
  obtain ⟨T, hT⟩ : ∃ T : ByteArray, T = ⟨(Lib.cut s.data.toList [58]).2.1.toArray⟩ := ⟨_, rfl⟩
  obtain ⟨F, hF⟩ : ∃ F : Bool, F = (Lib.cut s.data.toList [58]).2.2 := ⟨_, rfl⟩
  rw [← hH, ← hT, ← hF] at c1
  rw [← hH, ← hT, ← hF] at ht
  clear hH hT hF hD
  have HV := Lib.hid hV
  rcases ht with ⟨rfl, hHs, hr⟩ | ⟨rfl, hHs, hTs, hr⟩
  · have c2 := fun n => implReadDecimal H (V.drewN n) (by omega) (rdDoor_below hR (bel_drewN (Below.refl _ _) n))
    have h64 := rdR_64 H
    generalize rdR H = R at c2 hr h64
    obtain ⟨b, ok⟩ := R
    have HR := Lib.hid hr
    clear hr hR hM hV
    go_enter Tryd.func33, Tryd.ntmps33
    go_wp2_with fail
    rw [← HV.out]
    refine c1.mono ?_
    rintro e w1 ⟨rfl, n, rfl⟩
    go_wp2_with fail
    refine (c2 n).mono ?_
    rintro e w2 ⟨rfl, hb2⟩
    have hbx := (bel_drewN (Below.refl V.heap.size V) n).trans hb2
    replace bx := bx.below hbx
    replace hb2 := hbV.trans (hbx.mono hbV.size)
    clear hbx c1 c2 HV hbV
    have c0 := bx.at_ 0 rfl
    have c1 := bx.at_ 1 rfl
    have f0 := bx.thaw 0
    have f1 := bx.thaw 1
    go_wp2
    exact bodyPost_ret (v := .tuple #[.agg #[.int .i64 0, .slice none 0 0], .bool false]) (by simp [results, Tryd.results33, go_sem, c0, c1]) rfl
      (rgPost_no HR.out rfl (by repeat (first | exact hb2 | refine Below.setCell ?_ (by first | omega | (simp <;> omega)) _ | refine Below.alloc ?_ (by first | omega | (simp <;> omega)) _ | refine Below.drew ?_)))
  · have c2 := fun n => implReadDecimal H (V.drewN n) (by omega) (rdDoor_below hR (bel_drewN (Below.refl _ _) n))
    have h64 := rdR_64 H
    generalize rdR H = R at c2 hr h64
    obtain ⟨b, ok⟩ := R
    have HR := Lib.hid hr
    clear hr hR hM hV
    go_enter Tryd.func33, Tryd.ntmps33
    go_wp2_with fail
    rw [← HV.out]
    refine c1.mono ?_
    rintro e w1 ⟨rfl, n, rfl⟩
    go_wp2_with fail
    refine (c2 n).mono ?_
    rintro e w2 ⟨rfl, hb2⟩
    have hbx := (bel_drewN (Below.refl V.heap.size V) n).trans hb2
    replace bx := bx.below hbx
    replace hb2 := hbV.trans (hbx.mono hbV.size)
    clear hbx c1 c2 HV hbV
    cases ok with
    | false =>
      have HN := Lib.hid (HR.out.trans (rgT_head rfl))
      have c0 := bx.at_ 0 rfl
      have c1 := bx.at_ 1 rfl
      have f0 := bx.thaw 0
      have f1 := bx.thaw 1
      clear HR
      go_wp2
      exact bodyPost_ret (v := .tuple #[.agg #[.int .i64 0, .slice none 0 0], .bool false]) (by simp [results, Tryd.results33, go_sem, c0, c1]) rfl
        (rgPost_no HN.out rfl (by repeat (first | exact hb2 | refine Below.setCell ?_ (by first | omega | (simp <;> omega)) _ | refine Below.alloc ?_ (by first | omega | (simp <;> omega)) _ | refine Below.drew ?_)))
    | true =>
      rcases Nat.lt_or_ge 16 T.size with hl | hl
      · have HN := Lib.hid (HR.out.trans (rgT_long hl))
        have c0 := bx.at_ 0 rfl
        have c1 := bx.at_ 1 rfl
        have f0 := bx.thaw 0
        have f1 := bx.thaw 1
        clear HR
        go_wp2
        exact bodyPost_ret (v := .tuple #[.agg #[.int .i64 0, .slice none 0 0], .bool false]) (by simp [results, Tryd.results33, go_sem, c0, c1]) rfl
          (rgPost_no HN.out rfl (by repeat (first | exact hb2 | refine Below.setCell ?_ (by first | omega | (simp <;> omega)) _ | refine Below.alloc ?_ (by first | omega | (simp <;> omega)) _ | refine Below.drew ?_)))
      · go_wp2_with (at_make; go_must (refine wpList_makeI rfl _ _ _ 2 rfl Tryd.underlying45 info_int64 T.size rfl rfl (by omega) ?_); intro w3 hown hb3)
        have HB := Lib.hid hb3.size
        obtain ⟨X0, hX0⟩ : ∃ X0, X0 = w3.alloc (.cells #[.int .i64 b, .slice (some ⟨w2.heap.size, 0, none⟩) T.size T.size] 47) := ⟨_, rfl⟩
        have z0 : X0.heap.size = w3.heap.size + 1 := by rw [hX0]; simp
        have bx0 : Bx X0 w.heap.size 47 #[.int .i64 0, .slice none 0 0] := by rw [hX0]; exact (bx.below hb3).alloc _
        have by0 : Bx X0 w3.heap.size 47 #[.int .i64 b, .slice (some ⟨w2.heap.size, 0, none⟩) T.size T.size] := by rw [hX0]; exact Bx.new _ _ _
        have ow0 : Own 2 X0 w2.heap.size w3.heap.size (.slice (some ⟨w2.heap.size, 0, none⟩) T.size T.size) (tdP T 0) := by
          rw [hX0, tdP_zero, ← pad_nil]; exact hown.alloc _
        have bl0 : Below w.heap.size w X0 := by rw [hX0]; exact (hb2.trans (hb3.mono hb2.size)).alloc (Nat.le_trans hb2.size HB.out) _
        have HX := Lib.hid hX0
        have HZ := Lib.hid (show w.heap.size < w2.heap.size ∧ w2.heap.size < w3.heap.size from ⟨bx.lt, (hown.lo_le rfl).2.1⟩)
        clear hX0 bx hown hb3 hb2
        go_loopw [10] (fun _ wr => ∃ (k : Nat) (X : World), k ≤ T.size ∧ X.heap.size = w3.heap.size + 1 ∧ wr = X.iter T k ∧ Bx X w.heap.size 47 #[.int .i64 0, .slice none 0 0] ∧
            Bx X w3.heap.size 47 #[.int .i64 b, .slice (some ⟨w2.heap.size, 0, none⟩) T.size T.size] ∧ Own 2 X w2.heap.size w3.heap.size (.slice (some ⟨w2.heap.size, 0, none⟩) T.size T.size) (tdP T k) ∧ Below w.heap.size w X)
          (fun _ wr => T.size - wr.iterPos (w3.heap.size + 1))
        case atStart => exact ⟨0, X0, Nat.zero_le _, z0, by rw [HX.out], bx0, by0, ow0, bl0⟩
        case round =>
          clear bx0 by0 ow0 bl0 z0 HX
          obtain ⟨k, X, hk, hz, rfl, bx, by_, ow, bl⟩ := hrel
          by_cases hlt : k < T.size
          · have hnx := fun ty => run_next_any (P := Tryd.prog) X T k ty hlt
            rw [hz] at hnx
            obtain ⟨c, z, hd⟩ : ∃ c z, Utf8.decode T k = (c, z) := ⟨_, _, rfl⟩
            obtain ⟨hc, hzz⟩ := dec_sg hlt hd
            have hle : c ≤ 2147483647 := by have := decode_le T k; rw [hd] at this; exact this
            rw [hd] at hnx
            clear hd
            by_cases hsg : sgV c = -1
            · have HN := Lib.hid (HR.out.trans (rgT_bad (okB_sign hlt (hc ▸ hsg))))
              have c2 := fun w => signDigit_f c w hsg
              have bx' : Bx (X.iter T (k + z)) w.heap.size 47 #[.int .i64 0, .slice none 0 0] := bx.alloc _
              have hbl : Below w.heap.size w (X.iter T (k + z)) := bl.alloc bl.size _
              have c0 := bx'.at_ 0 rfl
              have c1 := bx'.at_ 1 rfl
              have f0 := bx'.thaw 0
              have f1 := bx'.thaw 1
              clear hzz hc hsg by_ ow bx bl bx' HR
              go_wp2_with (go_at_call 78; refine (c2 _).mono ?_; rintro e w' ⟨rfl, rfl⟩)
              exact bodyPost_ret (v := .tuple #[.agg #[.int .i64 0, .slice none 0 0], .bool false]) (by simp [results, Tryd.results33, go_sem, c0, c1]) rfl
                (rgPost_no HN.out rfl (by repeat (first | exact hbl | refine Below.setCell ?_ (by first | omega | (simp <;> omega)) _ | refine Below.alloc ?_ (by first | omega | (simp <;> omega)) _ | refine Below.drew ?_)))
            · obtain rfl : z = 1 := hzz hsg
              have c2 := fun w => signDigit_t c w hsg
              have hst := tdP_step hlt
              rw [← hc] at hst
              have hj : T.size - 1 - k < (tdP T k).length := by rw [tdP_len]; omega
              have g0 : (X.iter T (k + 1)).cell? ⟨w3.heap.size, 1, none⟩ = some (.slice (some ⟨w2.heap.size, 0, none⟩) T.size T.size) := kept_alloc (by_.at_ 1 rfl) _
              have g1 : (X.iter T (k + 1)).cell? ⟨w2.heap.size, T.size - 1 - k, none⟩ = some (.int .i64 (nth (tdP T k) (T.size - 1 - k))) := kept_alloc (ow.get hj) _
              have g2 : (X.iter T (k + 1)).frozen? ⟨w2.heap.size, T.size - 1 - k, none⟩ = false := (ow.alloc (.stringIter T (k + 1))).thaw _
              have hput := ow.put (T.size - 1 - k) (sgV c)
              rw [hst] at hput
              have HP := Lib.hid hput
              have e1 : ((T.size : Int) - 1 - (k : Int)) = ((T.size - 1 - k : Nat) : Int) := by omega
              clear hzz hc hput hst HR
              go_wp2_with (go_at_call 78; refine (c2 _).mono ?_; rintro e w' ⟨rfl, rfl⟩)
              go_roundw
              case rel =>
                have hz1 := HZ.out
                exact ⟨k + 1, X.setCell ⟨w2.heap.size, T.size - 1 - k, none⟩ (.int .i64 (sgV c)), by omega, by simpa using hz, alloc_put X _ (by simp; omega) _, bx.far (by simp; omega) _, by_.far (by simp; omega) _, HP.out, bl.setCell (by simp; omega) _⟩
              case measure =>
                have hz1 := HZ.out
                rw [show (X.iter T (k + 1)).setCell ⟨w2.heap.size, T.size - 1 - k, none⟩ (.int .i64 (sgV c)) = (X.setCell ⟨w2.heap.size, T.size - 1 - k, none⟩ (.int .i64 (sgV c))).iter T (k + 1) from alloc_put X _ (by simp; omega) _,
                  iterPos_at (by simpa using hz), iterPos_at hz]
                omega
          · have hnx := fun ty => run_next_end (P := Tryd.prog) X T k ty hlt
            rw [hz] at hnx
            obtain rfl : k = T.size := by omega
            obtain ⟨Y, hY⟩ : ∃ Y, Y = X.iter T T.size := ⟨_, rfl⟩
            have hbY : Below X.heap.size X Y := by rw [hY]; exact (Below.refl _ _).alloc (Nat.le_refl _) _
            rw [← hY] at hnx ⊢
            rw [tdP_last] at ow
            have bxY := bx.below hbY
            have byY := by_.below hbY
            have owY := ow.below hbY
            have blY := bl.trans (hbY.mono bl.size)
            have HL := Lib.hid (tdL_len T T.size)
            have h64s : All64 (tdL T T.size) := fun d hd => i64_at (by have := tdL_all T T.size d hd; omega) (by have := tdL_all T T.size d hd; omega)
            have c3 := implValidRegister b (some ⟨w2.heap.size, 0, none⟩) T.size (tdL T T.size) Y (owY.rd) h64s h64
            rw [HL.out] at c3
            have g0 := byY.at_ 0 rfl
            have g1 := byY.at_ 1 rfl
            have HYs := Lib.hid (show w3.heap.size + 1 < Y.heap.size by rw [hY]; simp [World.iter, hz])
            clear h64s hY bx by_ ow bl hbY
            cases hok : okB b (tdL T T.size)
            · have HN := Lib.hid (HR.out.trans (rgT_bad hok))
              rw [hok] at c3
              clear hok HR g0 g1
              have g0 := byY.at_ 0 rfl
              have g1 := byY.at_ 1 rfl
              go_wp2_with (go_at_call 47; refine c3.mono ?_; rintro e w4 ⟨rfl, hb4⟩; have bx4 := bxY.below hb4; have c0 := bx4.at_ 0 rfl; have c1 := bx4.at_ 1 rfl; have f0 := bx4.thaw 0; have f1 := bx4.thaw 1)
              exact bodyPost_ret (v := .tuple #[.agg #[.int .i64 0, .slice none 0 0], .bool false]) (by simp [results, Tryd.results33, go_sem, c0, c1]) rfl
                (rgPost_no HN.out rfl (by repeat (first | exact blY.trans (hb4.mono blY.size) | refine Below.setCell ?_ (by first | omega | (simp <;> omega)) _ | refine Below.alloc ?_ (by first | omega | (simp <;> omega)) _ | refine Below.drew ?_)))
            · have HN := Lib.hid (HR.out.trans (rgT_yes (by omega) rfl hok))
              rw [hok] at c3
              clear hok HR
              go_wp2_with (go_at_call 47; refine c3.mono ?_; rintro e w4 ⟨rfl, hb4⟩; have bx4 := bxY.below hb4; have by4 := byY.below hb4; have c0 := bx4.at_ 0 rfl; have c1 := bx4.at_ 1 rfl; have f0 := bx4.thaw 0; have f1 := bx4.thaw 1; have d0 := by4.at_ 0 rfl; have d1 := by4.at_ 1 rfl)
              exact bodyPost_ret (v := .tuple #[.agg #[.int .i64 b, .slice (some ⟨w2.heap.size, 0, none⟩) T.size T.size], .bool true]) (by simp [results, Tryd.results33, go_sem, c0, c1]) rfl
                (rgPost_yes HN.out HL.out rfl (lo := w2.heap.size) (hi := w3.heap.size) (((owY.below hb4).setCell (p := ⟨w.heap.size, 0, none⟩) (.inl HZ.out.1) _).setCell (p := ⟨w.heap.size, 1, none⟩) (.inl HZ.out.1) _) (Nat.le_of_lt HZ.out.1)
                  (by have h1 := HYs.out; have h2 := hb4.size; simp; omega) (by repeat (first | exact blY.trans (hb4.mono blY.size) | refine Below.setCell ?_ (by first | omega | (simp <;> omega)) _ | refine Below.alloc ?_ (by first | omega | (simp <;> omega)) _ | refine Below.drew ?_)))
end Go.Proofs.YtgfopieojpjddaaDoor
