/-
  ReadRegister, in the model.
-/
import Derived.Test.YtgfopieojpjddaaDoorRgI
import Derived.Test.YtgfopieojpjddaaDoorReadS
import Derived.Test.YtgfopieojpjddaaDoorSplitS
import Derived.Test.YtgfopieojpjddaaDoorOkS
import Derived.Test.YtgfopieojpjddaaDoorOrd
namespace Go.Proofs.YtgfopieojpjddaaDoor
open Go.RowKit

theorem splitGo_size {s : ByteArray} {c : UInt8} : ∀ (n i f : Nat), ∀ x ∈ splitGo s c n i f, x.size ≤ s.size
  | 0, i, f, x, hx => by
    rw [splitGo, List.mem_singleton] at hx
    subst hx
    (simp) <;> omega
  | n + 1, i, f, x, hx => by
    rw [splitGo] at hx
    split at hx
    · rcases List.mem_cons.1 hx with rfl | hx
      · (simp) <;> omega
      · exact splitGo_size n _ _ x hx
    · exact splitGo_size n _ _ x hx

/-- A sign's digit, in the model. -/
theorem l02Digit_any (c : UInt8) (w : World) : Calls Tryd.prog 75 #[.int .u8 (c.toNat : Int)] w fun e w' => e = .returned (.int .i64 (sgV c.toNat)) ∧ w' = w := by
  have hc : c.toNat < 256 := c.toNat_lt
  by_cases h1 : 48 ≤ (c.toNat : Int) ∧ (c.toNat : Int) ≤ 57
  · have HV := Lib.hid (sgV_dec (c := c.toNat) (by omega))
    obtain ⟨h2, h3⟩ := h1
    go_enter Tryd.func75, Tryd.ntmps75
    go_wp2
    go_ret
    exact ⟨by rw [HV.out]; rfl, rfl⟩
  by_cases h4 : 97 ≤ (c.toNat : Int) ∧ (c.toNat : Int) ≤ 102
  · have HV := Lib.hid (sgV_let (c := c.toNat) (by omega))
    obtain ⟨h2, h3⟩ := h4
    have h5 : ¬ (c.toNat : Int) ≤ 57 := by omega
    have h6 : 48 ≤ (c.toNat : Int) := by omega
    clear h1
    go_enter Tryd.func75, Tryd.ntmps75
    go_wp2
    go_ret
    exact ⟨by rw [HV.out, show (c.toNat : Int) - 87 = (c.toNat : Int) - 97 + 10 by omega]; rfl, rfl⟩
  have HV := Lib.hid (sgV_no (c := c.toNat) (by omega) (by omega))
  have hx : (c.toNat : Int) < 48 ∨ (48 ≤ (c.toNat : Int) ∧ 57 < (c.toNat : Int) ∧ (c.toNat : Int) < 97) ∨ (48 ≤ (c.toNat : Int) ∧ 57 < (c.toNat : Int) ∧ 97 ≤ (c.toNat : Int) ∧ 102 < (c.toNat : Int)) := by omega
  clear h1 h4
  rcases hx with h1 | ⟨h1, h2, h3⟩ | ⟨h1, h2, h3, h4⟩
  all_goals
    go_enter Tryd.func75, Tryd.ntmps75
    go_wp2
    go_ret
    exact ⟨by rw [HV.out]; rfl, rfl⟩

set_option maxRecDepth 100000 in
set_option maxHeartbeats 4000000 in
theorem specReadRegister (s : ByteArray) (w : World) (hs : s.size ≤ 1048576) :
    Calls Tryd.prog 32 #[.string s] w (RgPost s w) := by
  obtain ⟨V, hV⟩ : ∃ V, V = w.alloc (.cells #[.int .i64 0, .slice none 0 0] 47) := ⟨_, rfl⟩
  have bx : Bx V w.heap.size 47 #[.int .i64 0, .slice none 0 0] := by rw [hV]; exact Bx.new _ _ _
  have hbV : Below w.heap.size w V := by rw [hV]; exact (Below.refl _ _).alloc (Nat.le_refl _) _
  have c1 := l01Split_any s 58 V hs
  rw [show ((58 : UInt8).toNat : Int) = 58 from rfl] at c1
  have HR := Lib.hid (show rgR s = rgL (splitL s 58) from rfl)
  have HZ := Lib.hid (show ∀ x ∈ splitL s 58, x.size ≤ s.size from splitGo_size _ _ _)
  have hL := splitL_len s 58
  obtain ⟨L, eL⟩ : ∃ L, L = splitL s 58 := ⟨_, rfl⟩
  rw [← eL] at c1 HR HZ hL
  clear eL
  have HV := Lib.hid hV
  clear hV
  by_cases h2 : L.length = 2
  · obtain ⟨Hd, T, rfl⟩ : ∃ a b, L = [a, b] := by
      match L, h2 with
      | [a, b], _ => exact ⟨a, b, rfl⟩
    have hHd := HZ.out Hd (by simp)
    have hT := HZ.out T (by simp)
    clear HZ hL h2
    have hrd : rgR s = rgT (rdR Hd) T := HR.out
    have c2 := fun W => l01Number_any Hd W (by omega)
    have h64 := rdR_64 Hd
    generalize rdR Hd = R at c2 hrd h64
    obtain ⟨b, ok⟩ := R
    replace HR := Lib.hid hrd
    clear hrd
    go_enter Tryd.func32, Tryd.ntmps32
    go_wp2_with fail
    rw [← HV.out]
    refine c1.mono ?_
    rintro e w1 ⟨A, C, rfl, ow, hb⟩
    have hVs := bx.lt
    obtain ⟨g, rfl, hg1, hg2, hg3⟩ := ow.head (by simp)
    replace bx := bx.below hb
    have hb1 := hbV.trans (hb.mono hbV.size)
    have t0 : w1.cell? ⟨g, 0, none⟩ = some (.string Hd) := ow.getT (k := 0) (by simp)
    have t1 : w1.cell? ⟨g, 1, none⟩ = some (.string T) := ow.getT (k := 1) (by simp)
    have hwg : w.heap.size < g := by omega
    clear ow hb HV hbV c1 hVs hg1
    rcases Nat.lt_or_ge 16 T.size with hl | hl
    · have HN := Lib.hid (HR.out.trans (rgT_long hl))
      have c0 := bx.at_ 0 rfl
      have c1 := bx.at_ 1 rfl
      have f0 := bx.thaw 0
      have f1 := bx.thaw 1
      clear HR
      go_wp2
      exact bodyPost_ret (v := .tuple #[.agg #[.int .i64 0, .slice none 0 0], .bool false]) (by simp [results, Tryd.results32, go_sem, c0, c1]) rfl
        (rgPost_no HN.out rfl (by repeat (first | exact hb1 | refine Below.setCell ?_ (by first | omega | (simp <;> omega)) _ | refine Below.alloc ?_ (by first | omega | (simp <;> omega)) _ | refine Below.drew ?_)))
    · have hl' : (T.size : Int) ≤ 16 := by omega
      go_wp2_with fail
      refine (c2 _).mono ?_
      rintro e w2 ⟨rfl, hb2⟩
      replace bx := bx.below hb2
      replace hb1 := hb1.trans (hb2.mono hb1.size)
      replace t0 := kept hb2 t0
      replace t1 := kept hb2 t1
      have hg3 : g < w2.heap.size := Nat.lt_of_lt_of_le hg3 hb2.size
      clear hb2 c2 t0
      obtain ⟨X0, hX0⟩ : ∃ X0, X0 = w2.alloc (.cells #[.int .i64 b, .slice none 0 0] 47) := ⟨_, rfl⟩
      have by0 : Bx X0 w2.heap.size 47 #[.int .i64 b, .slice none 0 0] := by rw [hX0]; exact Bx.new _ _ _
      have bl0 : Below w2.heap.size w2 X0 := by rw [hX0]; exact (Below.refl _ _).alloc (Nat.le_refl _) _
      have q1 := kept bl0 t1
      have HX := Lib.hid hX0
      clear hX0
      go_wp2
      go_loopw [8] (fun i wr => ∃ (k : Nat) (A : Option Addr) (C : Nat), k ≤ T.size ∧ i = .int .i64 ((T.size : Int) - 1 - (k : Int)) ∧ Bx wr w2.heap.size 47 #[.int .i64 b, .slice A k C] ∧
          Own 2 wr (w2.heap.size + 1) wr.heap.size (.slice A k C) (tdL T k) ∧ Below w2.heap.size w2 wr) (fun i _ => (intOf i + 1).toNat)
      case atStart => exact ⟨0, none, 0, Nat.zero_le _, by simp, by rw [← HX.out]; exact by0, own_nil _ _ _ _, by rw [← HX.out]; exact bl0⟩
      case round =>
        clear by0 bl0 q1 HX
        obtain ⟨k, A, C, hk, rfl, by_, ow, bl⟩ := hrel
        have hzs := by_.lt
        by_cases hlt : k < T.size
        · have e1 : ((T.size : Int) - 1 - (k : Int)) = ((T.size - 1 - k : Nat) : Int) := by omega
          have hj : T.size - 1 - k < T.size := by omega
          have hst := tdL_succ T k
          rw [← byteAt_get hj] at hst
          have HT := Lib.hid hst
          have e2 : ((T.size : Int) - 1 - (k : Int)) - 1 = (T.size : Int) - 1 - ((k + 1 : Nat) : Int) := by omega
          have p1 := by_.at_ 1 rfl
          have q1 := kept bl t1
          have k1 := kept_lo (L := w2.heap.size + 1) p1 (by omega)
          have k2 := kept_lo (L := w2.heap.size + 1) q1 (by omega)
          have e3 : (0 : Int) ≤ (T.size : Int) - 1 - (k : Int) := by omega
          have c2 := fun W => l02Digit_any (T[T.size - 1 - k]'hj) W
          clear hst p1 q1
          go_wp2
          refine wp_region_marked (fun w' => Below (w2.heap.size + 1) wr w') 11 (by kernel_rfl) ?_
          have hS : Below (w2.heap.size + 1) wr wr.drew := (Below.refl _ _).drew
          refine wpAnyM_take (i := 0) (v := ?_) rfl (by kernel_rfl) (by kernel_rfl) (by kernel_rfl) (by kernel_rfl) (by kernel_rfl) (fun _ _ _ h => h) hS (.inl ⟨by rfl, ?_⟩) ?_
          rotate_left 1
          · intro w' hS'; go_simp; try with_reducible rfl
          simp only [Act.put, List.setIfInBounds_toArray]
          refine wpAnyM_take (i := 1) (v := ?_) rfl (by kernel_rfl) (by kernel_rfl) (by kernel_rfl) (by kernel_rfl) (by kernel_rfl) (fun _ _ _ h => h) hS (.inl ⟨by rfl, ?_⟩) ?_
          rotate_left 1
          · intro w' hS'; go_simp; try with_reducible rfl
          simp only [Act.put]
          refine wpAnyM_take (i := 2) (v := ?_) rfl (by kernel_rfl) (by kernel_rfl) (by kernel_rfl) (by kernel_rfl) (by kernel_rfl) (fun _ _ _ h => h) hS (.inl ⟨by rfl, ?_⟩) ?_
          rotate_left 1
          · intro w' hS'; go_simp; try with_reducible rfl
          simp only [Act.put]
          refine wpAnyM_take (i := 3) (v := ?_) rfl (by kernel_rfl) (by kernel_rfl) (by kernel_rfl) (by kernel_rfl) (by kernel_rfl) (fun _ _ _ h => h) hS (.inl ⟨by rfl, ?_⟩) ?_
          rotate_left 1
          · intro w' hS'; go_simp; try with_reducible rfl
          simp only [Act.put]
          refine wpAnyM_take (i := 4) (v := ?_) rfl (by kernel_rfl) (by kernel_rfl) (by kernel_rfl) (by kernel_rfl) (by kernel_rfl) (fun _ _ _ h => h) hS (.inl ⟨by rfl, ?_⟩) ?_
          rotate_left 1
          · intro w' hS'; go_simp; try with_reducible rfl
          simp only [Act.put]
          refine wpAnyM_take (i := 5) (v := ?_) rfl (by kernel_rfl) (by kernel_rfl) (by kernel_rfl) (by kernel_rfl) (by kernel_rfl) (fun _ _ _ h => h) hS (.inl ⟨by rfl, ?_⟩) ?_
          rotate_left 1
          · intro w' hS'; go_simp; try with_reducible rfl
          simp only [Act.put]
          refine wpAnyM_take (i := 6) (v := ?_) rfl (by kernel_rfl) (by kernel_rfl) (by kernel_rfl) (by kernel_rfl) (by kernel_rfl) (fun _ _ _ h => h) hS (.inl ⟨by rfl, ?_⟩) ?_
          rotate_left 1
          · intro w' hS'; go_simp; try with_reducible rfl
          simp only [Act.put]
          refine wpAnyM_one (i := 7) (by kernel_rfl) rfl (by rfl) (fun K hK => ?_)
          go_simp
          refine (c2 _).mono ?_
          rintro e w3 ⟨rfl, rfl⟩
          refine hK _ _ (.inr hS) ?_
          try simp only [Act.put, List.setIfInBounds_toArray]
          clear hK K
          refine wpAnyM_one (i := 8) (by kernel_rfl) rfl (by rfl) (fun K hK => ?_)
          go_simp
          replace hS := hS.alloc (by simp <;> omega) (.cells #[.int .i64 (sgV (T[T.size - 1 - k]'hj).toNat)] 2)
          refine hK _ _ (.inr hS) ?_
          clear hK K
          try simp only [Act.put, List.setIfInBounds_toArray]
          refine wpAnyM_one (i := 9) (by kernel_rfl) rfl (by rfl) (fun K hK => ?_)
          refine wp_appI (.tmp 41) (.tmp 48) 45 2 rfl Tryd.underlying45 info_int64 rfl ((ow.drew).alloc _) (tdL_len _ _) ⟨wr.heap.size, 0, none⟩ 1 (sgV (T[T.size - 1 - k]'hj).toNat) rfl (by go_simp) (by omega) (by simp <;> omega) ?_
          intro A' C' w3 hown1 ht1
          rw [← HT.out] at hown1
          replace hS : Below (w2.heap.size + 1) wr w3 := hS.trans (ht1.below (Nat.le_refl _) (by simp <;> omega))
          have dx1 := by_.lo hS (by omega)
          have dc1 := dx1.at_ 1 rfl
          have df1 := dx1.thaw 1
          refine hK _ _ (.inr hS) ?_
          try simp only [Act.put, List.setIfInBounds_toArray]
          clear hK K c2
          refine wpAnyM_take (i := 10) (v := ?_) rfl (by kernel_rfl) (by kernel_rfl) (by kernel_rfl) (by kernel_rfl) (by kernel_rfl) (fun _ _ _ h => h) hS (.inl ⟨by rfl, ?_⟩) ?_
          rotate_left 1
          · intro w' hS'; go_simp; try with_reducible rfl
          simp only [Act.put]
          refine wpAnyM_one (i := 11) (by kernel_rfl) rfl (by rfl) (fun K hK => ?_)
          go_simp
          refine hK _ _ (.inl rfl) ?_
          clear hK K k1 k2
          refine wpAnyM_done (by kernel_rfl) ?_ _
          go_wp2
          go_roundw
          case rel => exact ⟨k + 1, A', C', by omega, by rw [← e2]; go_num, by simpa using dx1.set_ 1 (.slice A' (k + 1) C'), (hown1.setCell (p := ⟨w2.heap.size, 1, none⟩) (.inl (by simp)) _).wide (Nat.le_refl _) (by simp),
            (bl.trans (hS.mono (by omega))).setCell (p := ⟨w2.heap.size, 1, none⟩) (by simp) _⟩
          case measure => (simp [intOf]) <;> omega
        · obtain rfl : k = T.size := by omega
          rw [show (T.size : Int) - 1 - (T.size : Int) = -1 by omega]
          have bxr := bx.below bl
          have blr := hb1.trans (bl.mono hb1.size)
          have c0 := bxr.at_ 0 rfl
          have c1 := bxr.at_ 1 rfl
          have f0 := bxr.thaw 0
          have f1 := bxr.thaw 1
          cases ok with
          | false =>
            have HN := Lib.hid (HR.out.trans (rgT_head rfl))
            clear HR
            go_wp2
            exact bodyPost_ret (v := .tuple #[.agg #[.int .i64 0, .slice none 0 0], .bool false]) (by simp [results, Tryd.results32, go_sem, c0, c1]) rfl
              (rgPost_no HN.out rfl (by repeat (first | exact blr | refine Below.setCell ?_ (by first | omega | (simp <;> omega)) _ | refine Below.alloc ?_ (by first | omega | (simp <;> omega)) _ | refine Below.drew ?_)))
          | true =>
            have HL := Lib.hid (tdL_len T T.size)
            have d0 := by_.at_ 0 rfl
            have d1 := by_.at_ 1 rfl
            have c3 := l02Ok_any w2.heap.size b A C (tdL T T.size) wr ow.rd d0 (by rw [HL.out]; exact d1)
            have hwz := hb1.size
            cases hok : okB b (tdL T T.size)
            · have HN := Lib.hid (HR.out.trans (rgT_bad hok))
              rw [hok] at c3
              clear hok HR
              go_wp2_with (go_at_call 76; refine c3.mono ?_; rintro e w4 ⟨rfl, n, rfl⟩)
              exact bodyPost_ret (v := .tuple #[.agg #[.int .i64 0, .slice none 0 0], .bool false]) (by simp [results, Tryd.results32, go_sem, c0, c1]) rfl
                (rgPost_no HN.out rfl (by repeat (first | exact bel_drewN blr n | refine Below.setCell ?_ (by first | omega | (simp <;> omega)) _ | refine Below.alloc ?_ (by first | omega | (simp <;> omega)) _ | refine Below.drew ?_)))
            · have HN := Lib.hid (HR.out.trans (rgT_yes (by omega) rfl hok))
              rw [hok] at c3
              clear hok HR
              go_wp2_with (go_at_call 76; refine c3.mono ?_; rintro e w4 ⟨rfl, n, rfl⟩)
              exact bodyPost_ret (v := .tuple #[.agg #[.int .i64 b, .slice A T.size C], .bool true]) (by simp [results, Tryd.results32, go_sem, c0, c1]) rfl
                (rgPost_yes HN.out HL.out rfl (lo := w2.heap.size + 1) (hi := wr.heap.size) (((ow.drewN n).setCell (p := ⟨w.heap.size, 0, none⟩) (.inl (by show w.heap.size < _; omega)) _).setCell (p := ⟨w.heap.size, 1, none⟩) (.inl (by show w.heap.size < _; omega)) _) (by omega)
                  (by simp) (by repeat (first | exact bel_drewN blr n | refine Below.setCell ?_ (by first | omega | (simp <;> omega)) _ | refine Below.alloc ?_ (by first | omega | (simp <;> omega)) _ | refine Below.drew ?_)))
  · have HN := Lib.hid (HR.out.trans (rgL_len h2))
    have hne : ((L.length : Int) == 2) = false := by rw [beq_eq_false_iff_ne]; omega
    have hne2 : ¬ (L.length : Int) = 2 := by omega
    clear HR HZ h2
    go_enter Tryd.func32, Tryd.ntmps32
    go_wp2_with fail
    rw [← HV.out]
    refine c1.mono ?_
    rintro e w1 ⟨A, C, rfl, ow, hb⟩
    have bx1 := bx.below hb
    have hb1 := hbV.trans (hb.mono hbV.size)
    have c0 := bx1.at_ 0 rfl
    have c1 := bx1.at_ 1 rfl
    have f0 := bx1.thaw 0
    have f1 := bx1.thaw 1
    clear ow hb HV hbV bx
    go_wp2
    exact bodyPost_ret (v := .tuple #[.agg #[.int .i64 0, .slice none 0 0], .bool false]) (by simp [results, Tryd.results32, go_sem, c0, c1]) rfl
      (rgPost_no HN.out rfl (by repeat (first | exact hb1 | refine Below.setCell ?_ (by first | omega | (simp <;> omega)) _ | refine Below.alloc ?_ (by first | omega | (simp <;> omega)) _ | refine Below.drew ?_)))
end Go.Proofs.YtgfopieojpjddaaDoor
