/-
  ReplayEvents by the model and by the program.
-/
import Derived.Test.YtgfpjcckkbhdjaaEvT
import Derived.Test.YtgfpjcckkbhdjaaEvJ
import Derived.Test.YtgfpjcckkbhdjaaEvK
import Derived.Test.YtgfpjcckkbhdjaaOkI
import Derived.Test.YtgfpjcckkbhdjaaAmong
namespace Go.Proofs.Ytgfpjcckkbhdjaa
open Go.RowKit

set_option maxRecDepth 100000 in
set_option maxHeartbeats 1000000 in
theorem specReplayEvents (B : Int) (A : Option Addr) (C : Nat) (zs : List Int) (L : Option Addr) (E : Nat) (es : List Ev) (w : World) (ha : Rd w A zs) (_ : All64 zs) (_ : I64 B) (hes : RdF tripF w L es) (_ : All3 es) :
    Calls Try.prog 94 #[.agg #[.int .i64 B, .slice A zs.length C], .slice L es.length E] w (RegC (rpeR B zs es) w) := by
  cases hok : okB B zs with
  | true => exact specRpe_ok B A C zs L E es w ha hes hok
  | false =>
    have HN := Lib.hid (rpe_bad (es := es) hok)
    obtain ⟨r, hr⟩ : ∃ r, r = w.heap.size := ⟨_, rfl⟩
    obtain ⟨u, hu⟩ : ∃ u, u = (w.alloc (.cells #[.int .i64 B, .slice A zs.length C] 26)).alloc (.cells #[.int .i64 0, .slice none 0 0] 26) := ⟨_, rfl⟩
    have b0 : Bx u r 26 #[.int .i64 B, .slice A zs.length C] := by rw [hu, hr]; exact (Bx.new _ _ _).alloc _
    have b1 : Bx u (r + 1) 26 #[.int .i64 0, .slice none 0 0] := by rw [hu, hr]; simpa using Bx.new (w.alloc (.cells #[.int .i64 B, .slice A zs.length C] 26)) #[.int .i64 0, .slice none 0 0] 26
    have hbel : Below w.heap.size w u := by rw [hu]; exact (by repeat (first | exact Below.refl _ _ | refine Below.setCell ?_ (by first | omega | (simp <;> omega)) _ | refine Below.alloc ?_ (by first | omega | (simp <;> omega)) _ | refine Below.drew ?_))
    have hlr := b1.lt
    replace ha := ha.below hbel
    rw [← hr] at hbel
    have HC := Lib.hid (l02Ok_any r B A C zs u ha (b0.at_ 0 rfl) (b0.at_ 1 rfl))
    rw [hok] at HC
    have HU := Lib.hid hu
    have HR := Lib.hid hr
    clear hu hr hok ha
    go_enter Try.func94, Try.ntmps94
    go_upto_region 1 with fail
    rw [← HU.out, ← HR.out]
    go_wp2_with fail
    refine HC.out.mono ?_
    rintro e w1 ⟨rfl, m, hm⟩
    have hb : Below u.heap.size u w1 := by rw [hm]; exact bel_drewN (Below.refl _ _) m
    replace b1 := b1.below hb
    replace hbel := hbel.trans (hb.mono (by omega))
    have hl1 := b1.lt
    clear hm hb HU HC
    have r0 := b1.at_ 0 rfl
    have r1 := b1.at_ 1 rfl
    have f0 := b1.thaw 0
    have f1 := b1.thaw 1
    go_wp2
    exact bodyPost_ret (v := .tuple #[.agg #[.int .i64 0, .slice none 0 0], .int .i64 1]) (by simp [results, Try.results94, go_sem, r0, r1]) rfl
      (regC_err HN.out rfl (by rw [← HR.out]; exact (by repeat (first | exact hbel | refine Below.setCell ?_ (by first | omega | (simp <;> omega)) _ | refine Below.alloc ?_ (by first | omega | (simp <;> omega)) _ | refine Below.drew ?_))))

set_option maxRecDepth 100000 in
set_option maxHeartbeats 8000000 in
theorem implReplayEvents (B : Int) (A : Option Addr) (C : Nat) (zs : List Int) (L : Option Addr) (E : Nat) (es : List Ev) (w : World) (ha : Rd w A zs) (z : All64 zs) (b : I64 B) (hes : RdF tripF w L es) (_ : All3 es) :
    Calls Try.prog 22 #[.agg #[.int .i64 B, .slice A zs.length C], .slice L es.length E] w (RegC (rpeR B zs es) w) := by
  have hlen := hes.len
  have HFAR := Lib.hid (fun (hne : es ≠ []) => rdF_low hes hne)
  obtain ⟨r, hr⟩ : ∃ r, r = w.heap.size := ⟨_, rfl⟩
  obtain ⟨u, hu⟩ : ∃ u, u = (w.alloc (.cells #[.int .i64 B, .slice A zs.length C] 26)).alloc (.cells #[.int .i64 0, .slice none 0 0] 26) := ⟨_, rfl⟩
  have b0 : Bx u r 26 #[.int .i64 B, .slice A zs.length C] := by rw [hu, hr]; exact (Bx.new _ _ _).alloc _
  have b1 : Bx u (r + 1) 26 #[.int .i64 0, .slice none 0 0] := by rw [hu, hr]; simpa using Bx.new (w.alloc (.cells #[.int .i64 B, .slice A zs.length C] 26)) #[.int .i64 0, .slice none 0 0] 26
  have hbel : Below w.heap.size w u := by rw [hu]; exact (by repeat (first | exact Below.refl _ _ | refine Below.setCell ?_ (by first | omega | (simp <;> omega)) _ | refine Below.alloc ?_ (by first | omega | (simp <;> omega)) _ | refine Below.drew ?_))
  have hlr := b1.lt
  replace ha := ha.below hbel
  replace hes := hes.below hbel
  rw [← hr] at hbel
  have HC := Lib.hid (fun v (h : Rd v A zs) => implValidRegister B A C zs v h z b)
  have HZ := Lib.hid z
  have HB := Lib.hid b
  have HU := Lib.hid hu
  have HR := Lib.hid hr
  clear hu hr z b
  have c0 := b0.at_ 0 rfl
  have c1 := b0.at_ 1 rfl
  go_enter Try.func22, Try.ntmps22
  go_upto_region 1 with fail
  rw [← HU.out, ← HR.out]
  go_wp2_with fail
  refine (HC.out u ha).mono ?_
  rintro e w1 ⟨rfl, hb⟩
  replace b0 := b0.below hb
  replace b1 := b1.below hb
  replace ha := ha.below hb
  replace hes := hes.below hb
  replace hbel := hbel.trans (hb.mono (by omega))
  have hs1 := hb.size
  have hlr1 := b1.lt
  clear hb c0 c1 HU HC
  cases hok : okB B zs with
  | false =>
    have HN := Lib.hid (rpe_bad (es := es) hok)
    clear hok
    have r0 := b1.at_ 0 rfl
    have r1 := b1.at_ 1 rfl
    have f0 := b1.thaw 0
    have f1 := b1.thaw 1
    go_wp2
    exact bodyPost_ret (v := .tuple #[.agg #[.int .i64 0, .slice none 0 0], .int .i64 1]) (by simp [results, Try.results22, go_sem, r0, r1]) rfl
      (regC_err HN.out rfl (by rw [← HR.out]; exact (by repeat (first | exact hbel | refine Below.setCell ?_ (by first | omega | (simp <;> omega)) _ | refine Below.alloc ?_ (by first | omega | (simp <;> omega)) _ | refine Below.drew ?_))))
  | true =>
    obtain ⟨o1, o2, o3, o4, o5, o6⟩ := okB_spec hok
    have HD : Hid (Dgs B zs) := Lib.hid o5
    have HOK := Lib.hid hok
    clear hok o5 o6
    go_wp2_with fail
    go_loopw [17] (fun i wr => ∃ k : Nat, k ≤ es.length ∧ i = .int .i64 k ∧ Hid (∀ j, j < k → evOk B zs.length (elt tripF es j) = true) ∧ Bx wr r 26 #[.int .i64 B, .slice A zs.length C] ∧ Bx wr (r + 1) 26 #[.int .i64 0, .slice none 0 0] ∧
        Rd wr A zs ∧ RdF tripF wr L es ∧ Below r w wr) (fun i _ => es.length - (intOf i).toNat)
    case atStart => exact ⟨0, Nat.zero_le _, rfl, Lib.hid (fun j h => absurd h (Nat.not_lt_zero _)), b0, b1, ha, hes, hbel⟩
    case round =>
      clear b0 b1 hes hbel hlr1 ha hs1 hlr
      obtain ⟨k, hk, rfl, HA, b0, b1, ha, hes, hbel⟩ := hrel
      have hl1 := b1.lt
      by_cases hlt : k < es.length
      · obtain ⟨bb, off, rfl, e0, e1, e2⟩ := hes.at3 hlt
        obtain ⟨⟨ki, hh, ss⟩, hx⟩ : ∃ x, x = elt tripF es k := ⟨_, rfl⟩
        rw [← hx] at e0 e1 e2
        simp only at e0 e1 e2
        have HX := Lib.hid hx
        clear hx
        go_upto_region 6 with fail
        obtain ⟨Q, hQ⟩ : ∃ Q, Q = wr.heap.size := ⟨_, rfl⟩
        obtain ⟨X, hX⟩ : ∃ X, X = wr.alloc (.cells #[.int .i64 ki, .int .i64 hh, .int .i64 ss] 41) := ⟨_, rfl⟩
        have b8 : Bx X Q 41 #[.int .i64 ki, .int .i64 hh, .int .i64 ss] := by rw [hX, hQ]; exact Bx.new _ _ _
        have hb : Below wr.heap.size wr X := by rw [hX]; exact (Below.refl _ _).alloc (Nat.le_refl _) _
        rw [← hX, ← hQ]
        replace b0 := b0.below hb
        replace b1 := b1.below hb
        replace ha := ha.below hb
        replace hes := hes.below hb
        replace hbel := hbel.trans (hb.mono (by omega))
        have hlQ := b1.lt
        clear hb hX hQ e0 e1 e2
        have q0 := b8.at_ 0 rfl
        have q1 := b8.at_ 1 rfl
        have q2 := b8.at_ 2 rfl
        have q3 := b0.at_ 0 rfl
        have q4 := b0.at_ 1 rfl
        have HE := Lib.hid (canHap_any ki hh ss B A zs.length C X ⟨o1, o2⟩ o4)
        go_wp2_with fail
        refine HE.out.mono ?_
        rintro e w5 ⟨rfl, hb⟩
        replace b0 := b0.below hb
        replace b1 := b1.below hb
        replace ha := ha.below hb
        replace hes := hes.below hb
        replace hbel := hbel.trans (hb.mono (by omega))
        have hl5 := b1.lt
        clear hb HE q0 q1 q2 q3 q4 b8
        cases hev : evOk B zs.length (ki, hh, ss) with
        | false =>
          have HN := Lib.hid (rpe_range HOK.out (evAll_not hlt (by rw [← HX.out]; exact hev)))
          clear hev
          have r0 := b1.at_ 0 rfl
          have r1 := b1.at_ 1 rfl
          have f0 := b1.thaw 0
          have f1 := b1.thaw 1
          go_wp2
          exact bodyPost_ret (v := .tuple #[.agg #[.int .i64 0, .slice none 0 0], .int .i64 2]) (by simp [results, Try.results22, go_sem, r0, r1]) rfl
            (regC_err HN.out rfl (by rw [← HR.out]; exact (by repeat (first | exact hbel | refine Below.setCell ?_ (by first | omega | (simp <;> omega)) _ | refine Below.alloc ?_ (by first | omega | (simp <;> omega)) _ | refine Below.drew ?_))))
        | true =>
          have HA2 : Hid (∀ j, j < k + 1 → evOk B zs.length (elt tripF es j) = true) := Lib.hid fun j hj => by
            rcases Nat.lt_or_ge j k with h | h
            · exact HA.out j h
            · obtain rfl : j = k := by omega
              rw [← HX.out]; exact hev
          clear hev HA
          go_wp2
          go_roundw
          case rel => exact ⟨k + 1, by omega, by go_num, HA2, b0, b1, ha, hes, hbel⟩
          case measure => (simp [intOf]) <;> omega
      · obtain rfl : k = es.length := by omega
        have HALL := Lib.hid HA.out
        have HW := Lib.hid (wwOf_any B A C zs wr ha (by omega) o4)
        have q3 := b0.at_ 0 rfl
        have q4 := b0.at_ 1 rfl
        clear hlt hk HA ha
        go_wp2_with fail
        refine HW.out.mono ?_
        rintro e w2 ⟨g, h, F, J, lo, hi, rfl, ow, -, g1, g2, -, -, -, hb⟩
        replace b1 := b1.below hb
        replace hes := hes.below hb
        replace hbel := hbel.trans (hb.mono (by omega))
        have hl2 := b1.lt
        clear hb HW q3 q4 b0
        go_upto_region 10 with fail
        obtain ⟨P, hP⟩ : ∃ P, P = w2.heap.size := ⟨_, rfl⟩
        obtain ⟨V, hV⟩ : ∃ V, V = w2.alloc (.cells #[.int .i64 B, .slice (some ⟨g, 0, none⟩) zs.length F, .slice (some ⟨h, 0, none⟩) zs.length J, .slice none 0 0] 122) := ⟨_, rfl⟩
        have b8 : Bx V P 122 #[.int .i64 B, .slice (some ⟨g, 0, none⟩) zs.length F, .slice (some ⟨h, 0, none⟩) zs.length J, .slice none 0 0] := by rw [hV, hP]; exact Bx.new _ _ _
        have hb : Below w2.heap.size w2 V := by rw [hV]; exact (Below.refl _ _).alloc (Nat.le_refl _) _
        rw [← hV, ← hP]
        replace b1 := b1.below hb
        replace hes := hes.below hb
        replace ow := ow.below hb
        replace hbel := hbel.trans (hb.mono (by omega))
        have hlo : r + 1 < lo := by omega
        rw [← hP] at g2
        clear hb hV hP hl2 g1 hl1
        go_wp2_with fail
        go_loopw [31] (fun i wr => ∃ k : Nat, k ≤ es.length ∧ i = .int .i64 k ∧ Bx wr (r + 1) 26 #[.int .i64 0, .slice none 0 0] ∧ Bx wr P 122 #[.int .i64 B, .slice (some ⟨g, 0, none⟩) zs.length F, .slice (some ⟨h, 0, none⟩) zs.length J, .slice none 0 0] ∧
            Own 2 wr lo hi (.slice (some ⟨g, 0, none⟩) zs.length F) (evRun B zs (es.take k)) ∧ RdF tripF wr L es ∧ Below r w wr) (fun i _ => es.length - (intOf i).toNat)
        case atStart => exact ⟨0, Nat.zero_le _, rfl, b1, b8, ow, hes, hbel⟩
        case round =>
          clear b1 b8 ow hes hbel
          obtain ⟨k, hk, rfl, b1, b8, ow, hes, hbel⟩ := hrel
          have hlP := b8.lt
          have hlr2 := b1.lt
          obtain ⟨cur, hcur⟩ : ∃ cur, cur = evRun B zs (es.take k) := ⟨_, rfl⟩
          have hcl : cur.length = zs.length := by rw [hcur, evRun_len]
          have hcd : Dgs B cur := by rw [hcur]; exact evRun_dgs (by omega) HD.out
          by_cases hlt : k < es.length
          · obtain ⟨bb, off, rfl, e0, e1, e2⟩ := hes.at3 hlt
            have HT := Lib.hid (evRun_take (B := B) (zs := zs) hlt)
            have hev := HALL.out k hlt
            obtain ⟨⟨ki, hh, ss⟩, hx⟩ : ∃ x, x = elt tripF es k := ⟨_, rfl⟩
            rw [← hx] at e0 e1 e2 HT hev
            simp only at e0 e1 e2
            obtain ⟨⟨k1, k2⟩, ⟨h1, h2⟩, s1, s2⟩ := evOk_true hev
            simp only at k1 k2 h1 h2 s1 s2
            rw [← hcur] at ow HT
            obtain ⟨n, rfl⟩ : ∃ n : Nat, hh = n := ⟨hh.toNat, by omega⟩
            have HTU := Lib.hid (fun (v : World) (kk : Nat) (s : Int) (ow : Own 2 v lo hi (.slice (some ⟨g, 0, none⟩) zs.length F) cur) (hkk : kk ≤ zs.length) (hs : 0 ≤ s ∧ s < B) (hv : hi ≤ v.heap.size) => by
              have := wwTurn_any B g F (some ⟨h, 0, none⟩) zs.length J none 0 0 kk s cur lo hi v (by rw [hcl]; exact ow) ⟨o1, o2⟩ hcd hs (by omega) (by omega) hv
              rw [hcl] at this
              exact this)
            have HCD := Lib.hid hcd
            have HCL := Lib.hid hcl
            clear hev hx hcur hcl hcd
            go_upto_region 13 with fail
            obtain ⟨Q, hQ⟩ : ∃ Q, Q = wr.heap.size := ⟨_, rfl⟩
            obtain ⟨X, hX⟩ : ∃ X, X = wr.alloc (.cells #[.int .i64 ki, .int .i64 (n : Int), .int .i64 ss] 41) := ⟨_, rfl⟩
            have b10 : Bx X Q 41 #[.int .i64 ki, .int .i64 (n : Int), .int .i64 ss] := by rw [hX, hQ]; exact Bx.new _ _ _
            have hb : Below wr.heap.size wr X := by rw [hX]; exact (Below.refl _ _).alloc (Nat.le_refl _) _
            rw [← hX, ← hQ]
            replace b1 := b1.below hb
            replace b8 := b8.below hb
            replace ow := ow.below hb
            replace hes := hes.below hb
            replace hbel := hbel.trans (hb.mono (by omega))
            rw [← hQ] at hlP
            have hlQ := b10.lt
            have hlr3 := b1.lt
            clear hb hX hQ e0 e1 e2
            have y0 : ∀ w', Below X.heap.size X w' → w'.cell? ⟨P, 0, none⟩ = some (.int .i64 B) := kept_all (b8.at_ 0 rfl)
            have y1 : ∀ w', Below X.heap.size X w' → w'.cell? ⟨P, 1, none⟩ = some (.slice (some ⟨g, 0, none⟩) zs.length F) := kept_all (b8.at_ 1 rfl)
            have y2 : ∀ w', Below X.heap.size X w' → w'.cell? ⟨P, 2, none⟩ = some (.slice (some ⟨h, 0, none⟩) zs.length J) := kept_all (b8.at_ 2 rfl)
            have y3 : ∀ w', Below X.heap.size X w' → w'.cell? ⟨P, 3, none⟩ = some (.slice none 0 0) := kept_all (b8.at_ 3 rfl)
            refine wp_region_marked (fun w' => Below X.heap.size X w') 6 (by kernel_rfl) ?_
            have hS : Below X.heap.size X X.drew := (Below.refl _ _).drew
            refine wpAnyM_take (i := 0) (v := ?_) rfl (by kernel_rfl) (by kernel_rfl) (by kernel_rfl) (by kernel_rfl) (by kernel_rfl) (fun _ _ _ h => h) hS (.inl ⟨by rfl, ?_⟩) ?_
            rotate_left 1
            · intro w' hS'; go_simp; try with_reducible rfl
            simp only [Act.put, List.setIfInBounds_toArray]
            clear y0 y1 y2 y3
            have q0 := b10.at_ 0 rfl
            have q1 := b10.at_ 1 rfl
            have q2 := b10.at_ 2 rfl
            refine wpAnyM_one (i := 1) (by kernel_rfl) rfl (by rfl) (fun K hK => ?_)
            go_simp
            refine hK _ _ (.inr hS) ?_
            try simp only [Act.put, List.setIfInBounds_toArray]
            clear hK K q0 q1 q2 b10
            obtain rfl | rfl | rfl : ki = 1 ∨ ki = 2 ∨ ki = 3 := by omega
            · skip
              have HM := evMeth1 (n : Int) ss
              refine wpAnyM_one (i := 2) (by kernel_rfl) rfl (by rfl) (fun K hK => ?_)
              go_simp
              refine (evOf1 (n : Int) ss X.drew).mono ?_
              rintro e wa ⟨rfl, hb⟩
              have hSa : Below X.heap.size X wa := hS.trans hb
              refine hK _ _ (.inr hSa) ?_
              try simp only [Act.put, List.setIfInBounds_toArray]
              clear hK K hb
              refine wpAnyM_one (i := 3) (by kernel_rfl) rfl (by rfl) (fun K hK => ?_)
              go_simp
              refine (evTurning1 (n : Int) ss wa).mono ?_
              rintro e wb ⟨rfl, hb⟩
              have hSb : Below X.heap.size X wb := hSa.trans (hb.mono hSa.size)
              refine hK _ _ (.inr hSb) ?_
              try simp only [Act.put, List.setIfInBounds_toArray]
              clear hK K hb HM
              refine wpAnyM_take (i := 4) (v := ?_) rfl (by kernel_rfl) (by kernel_rfl) (by kernel_rfl) (by kernel_rfl) (by kernel_rfl) (fun _ _ _ h => h) hSb (.inl ⟨by rfl, ?_⟩) ?_
              rotate_left 1
              · intro w' hS'; go_simp; try with_reducible rfl
              simp only [Act.put, List.setIfInBounds_toArray]
              refine wpAnyM_take (i := 5) (v := ?_) rfl (by kernel_rfl) (by kernel_rfl) (by kernel_rfl) (by kernel_rfl) (by kernel_rfl) (fun _ _ _ h => h) hSb (.inl ⟨by rfl, ?_⟩) ?_
              rotate_left 1
              · intro w' hS'; go_simp; try with_reducible rfl
              simp only [Act.put]
              replace b1 := b1.below hSb
              replace b8 := b8.below hSb
              replace ow := ow.below hSb
              replace hes := hes.below hSb
              replace hbel := hbel.trans (hSb.mono (by omega))
              have hsb := hSb.size
              refine wpAnyM_one (i := 6) (by kernel_rfl) rfl (by rfl) (fun K hK => ?_)
              go_simp
              refine (HTU.out wb (n) (ss) ow (by omega) ⟨by omega, by omega⟩ (by omega)).mono ?_
              rintro e wc ⟨rfl, ow6, t9⟩
              have hs9 := t9.size
              replace b1 := b1.touch t9 (by omega)
              replace b8 := b8.touch t9 (by omega)
              replace hbel := hbel.trans (t9.below (by omega) (by omega))
              have hes9 := rdF_keep hes HFAR.out (by have := HR.out; omega) t9
              have HST := Lib.hid (show addAt B cur (n) (ss) = evStep B cur (1, (n : Int), ss) by rw [evStep, if_pos rfl]; rw [Int.toNat_natCast])
              rw [HST.out, ← HT.out] at ow6
              clear t9 ow hes
              refine hK _ _ (.inl rfl) ?_
              try simp only [Act.put, List.setIfInBounds_toArray]
              clear hK K
              refine wpAnyM_done (by kernel_rfl) ?_ _
              go_wp2
              go_roundw
              case rel => exact ⟨k + 1, by omega, by go_num, b1, b8, ow6, hes9, hbel⟩
              case measure => (simp [intOf]) <;> omega
            · skip
              have HM := evMeth2 (n : Int) ss
              refine wpAnyM_one (i := 2) (by kernel_rfl) rfl (by rfl) (fun K hK => ?_)
              go_simp
              refine (evOf2 (n : Int) ss X.drew).mono ?_
              rintro e wa ⟨rfl, hb⟩
              have hSa : Below X.heap.size X wa := hS.trans hb
              refine hK _ _ (.inr hSa) ?_
              try simp only [Act.put, List.setIfInBounds_toArray]
              clear hK K hb
              refine wpAnyM_one (i := 3) (by kernel_rfl) rfl (by rfl) (fun K hK => ?_)
              go_simp
              refine (evTurning2 (n : Int) ss wa).mono ?_
              rintro e wb ⟨rfl, hb⟩
              have hSb : Below X.heap.size X wb := hSa.trans (hb.mono hSa.size)
              refine hK _ _ (.inr hSb) ?_
              try simp only [Act.put, List.setIfInBounds_toArray]
              clear hK K hb HM
              refine wpAnyM_take (i := 4) (v := ?_) rfl (by kernel_rfl) (by kernel_rfl) (by kernel_rfl) (by kernel_rfl) (by kernel_rfl) (fun _ _ _ h => h) hSb (.inl ⟨by rfl, ?_⟩) ?_
              rotate_left 1
              · intro w' hS'; go_simp; try with_reducible rfl
              simp only [Act.put, List.setIfInBounds_toArray]
              refine wpAnyM_take (i := 5) (v := ?_) rfl (by kernel_rfl) (by kernel_rfl) (by kernel_rfl) (by kernel_rfl) (by kernel_rfl) (fun _ _ _ h => h) hSb (.inl ⟨by rfl, ?_⟩) ?_
              rotate_left 1
              · intro w' hS'; go_simp; try with_reducible rfl
              simp only [Act.put]
              replace b1 := b1.below hSb
              replace b8 := b8.below hSb
              replace ow := ow.below hSb
              replace hes := hes.below hSb
              replace hbel := hbel.trans (hSb.mono (by omega))
              have hsb := hSb.size
              refine wpAnyM_one (i := 6) (by kernel_rfl) rfl (by rfl) (fun K hK => ?_)
              go_simp
              refine (HTU.out wb (n) (0) ow (by omega) ⟨by omega, by omega⟩ (by omega)).mono ?_
              rintro e wc ⟨rfl, ow6, t9⟩
              have hs9 := t9.size
              replace b1 := b1.touch t9 (by omega)
              replace b8 := b8.touch t9 (by omega)
              replace hbel := hbel.trans (t9.below (by omega) (by omega))
              have hes9 := rdF_keep hes HFAR.out (by have := HR.out; omega) t9
              have HST := Lib.hid (show addAt B cur (n) (0) = evStep B cur (2, (n : Int), ss) by rw [evStep, if_neg (by simp), if_neg (by simp)]; exact addAt_zero HCD.out)
              rw [HST.out, ← HT.out] at ow6
              clear t9 ow hes
              refine hK _ _ (.inl rfl) ?_
              try simp only [Act.put, List.setIfInBounds_toArray]
              clear hK K
              refine wpAnyM_done (by kernel_rfl) ?_ _
              go_wp2
              go_roundw
              case rel => exact ⟨k + 1, by omega, by go_num, b1, b8, ow6, hes9, hbel⟩
              case measure => (simp [intOf]) <;> omega
            · skip
              have HM := evMeth3 (n : Int) ss
              refine wpAnyM_one (i := 2) (by kernel_rfl) rfl (by rfl) (fun K hK => ?_)
              go_simp
              refine (evOf3 (n : Int) ss X.drew).mono ?_
              rintro e wa ⟨rfl, hb⟩
              have hSa : Below X.heap.size X wa := hS.trans hb
              refine hK _ _ (.inr hSa) ?_
              try simp only [Act.put, List.setIfInBounds_toArray]
              clear hK K hb
              refine wpAnyM_one (i := 3) (by kernel_rfl) rfl (by rfl) (fun K hK => ?_)
              go_simp
              refine (evTurning3 (n : Int) ss wa (by omega) (by omega)).mono ?_
              rintro e wb ⟨rfl, hb⟩
              have hSb : Below X.heap.size X wb := hSa.trans (hb.mono hSa.size)
              refine hK _ _ (.inr hSb) ?_
              try simp only [Act.put, List.setIfInBounds_toArray]
              clear hK K hb HM
              refine wpAnyM_take (i := 4) (v := ?_) rfl (by kernel_rfl) (by kernel_rfl) (by kernel_rfl) (by kernel_rfl) (by kernel_rfl) (fun _ _ _ h => h) hSb (.inl ⟨by rfl, ?_⟩) ?_
              rotate_left 1
              · intro w' hS'; go_simp; try with_reducible rfl
              simp only [Act.put, List.setIfInBounds_toArray]
              refine wpAnyM_take (i := 5) (v := ?_) rfl (by kernel_rfl) (by kernel_rfl) (by kernel_rfl) (by kernel_rfl) (by kernel_rfl) (fun _ _ _ h => h) hSb (.inl ⟨by rfl, ?_⟩) ?_
              rotate_left 1
              · intro w' hS'; go_simp; try with_reducible rfl
              simp only [Act.put]
              replace b1 := b1.below hSb
              replace b8 := b8.below hSb
              replace ow := ow.below hSb
              replace hes := hes.below hSb
              replace hbel := hbel.trans (hSb.mono (by omega))
              have hsb := hSb.size
              refine wpAnyM_one (i := 6) (by kernel_rfl) rfl (by rfl) (fun K hK => ?_)
              go_simp
              refine (HTU.out wb (n + 1) (1) ow (by omega) ⟨by omega, by omega⟩ (by omega)).mono ?_
              rintro e wc ⟨rfl, ow6, t9⟩
              have hs9 := t9.size
              replace b1 := b1.touch t9 (by omega)
              replace b8 := b8.touch t9 (by omega)
              replace hbel := hbel.trans (t9.below (by omega) (by omega))
              have hes9 := rdF_keep hes HFAR.out (by have := HR.out; omega) t9
              have HST := Lib.hid (show addAt B cur (n + 1) (1) = evStep B cur (3, (n : Int), ss) by rw [evStep, if_neg (by simp), if_pos rfl]; rw [Int.toNat_natCast])
              rw [HST.out, ← HT.out] at ow6
              clear t9 ow hes
              refine hK _ _ (.inl rfl) ?_
              try simp only [Act.put, List.setIfInBounds_toArray]
              clear hK K
              refine wpAnyM_done (by kernel_rfl) ?_ _
              go_wp2
              go_roundw
              case rel => exact ⟨k + 1, by omega, by go_num, b1, b8, ow6, hes9, hbel⟩
              case measure => (simp [intOf]) <;> omega
          · obtain rfl : k = es.length := by omega
            rw [← hcur] at ow
            rw [evRun_all] at hcur
            have hrd := ow.rd
            have HRP := Lib.hid (show rpeR B zs es = finR B cur by rw [hcur]; exact rpe_ok HOK.out (evAll_to HALL.out))
            have h64 : All64 cur := fun d hd => mid64 (by have := hcd d hd; omega) (by have := hcd d hd; omega)
            have HCL := Lib.hid hcl
            have q0 := b8.at_ 0 rfl
            have q1 := b8.at_ 1 rfl
            have q2 := b8.at_ 2 rfl
            have q3 := b8.at_ 3 rfl
            clear hlt hk hes
            cases hok : okB B cur with
            | false =>
              have HN := Lib.hid (show rpeR B zs es = (0, [], 5) by rw [HRP.out, finR, hok]; rfl)
              have HF := Lib.hid (wwReg_full B (some ⟨g, 0, none⟩) F (some ⟨h, 0, none⟩) zs.length J none 0 0 cur wr hrd h64 HB.out hok)
              rw [hcl] at HF
              clear hok HRP hcur hcl hcd hrd h64 HD
              go_wp2_with fail
              refine HF.out.mono ?_
              rintro e w5 ⟨rfl, hb⟩
              replace b1 := b1.below hb
              replace hbel := hbel.trans (hb.mono (by omega))
              have hl1 := b1.lt
              clear hb HF q0 q1 q2 q3 b8 ow
              have r0 := b1.at_ 0 rfl
              have r1 := b1.at_ 1 rfl
              have f0 := b1.thaw 0
              have f1 := b1.thaw 1
              go_wp2
              exact bodyPost_ret (v := .tuple #[.agg #[.int .i64 0, .slice none 0 0], .int .i64 5]) (by simp [results, Try.results22, go_sem, r0, r1]) rfl
                (regC_err HN.out rfl (by rw [← HR.out]; exact (by repeat (first | exact hbel | refine Below.setCell ?_ (by first | omega | (simp <;> omega)) _ | refine Below.alloc ?_ (by first | omega | (simp <;> omega)) _ | refine Below.drew ?_))))
            | true =>
              have HN := Lib.hid (show rpeR B zs es = (B, cur, 0) by rw [HRP.out, finR, if_pos hok])
              have HF := Lib.hid (wwReg_ok B (some ⟨g, 0, none⟩) F (some ⟨h, 0, none⟩) zs.length J none 0 0 cur wr hrd h64 HB.out hok)
              rw [hcl] at HF
              clear hok HRP hcur hcl hcd hrd h64 HD
              go_wp2_with fail
              refine HF.out.mono ?_
              rintro e w5 ⟨rfl, hb⟩
              replace b1 := b1.below hb
              replace ow := ow.below hb
              replace hbel := hbel.trans (hb.mono (by omega))
              have hl1 := b1.lt
              have hl5 := hb.size
              clear hb HF q0 q1 q2 q3 b8
              have r0 := b1.at_ 0 rfl
              have r1 := b1.at_ 1 rfl
              have f0 := b1.thaw 0
              have f1 := b1.thaw 1
              go_wp2
              refine bodyPost_ret (v := .tuple #[.agg #[.int .i64 B, .slice (some ⟨g, 0, none⟩) zs.length F], .int .i64 0]) (by simp [results, Try.results22, go_sem, r0, r1]) rfl ?_
              refine regC_ok (lo := lo) (hi := hi) (A := some ⟨g, 0, none⟩) (C := F) HN.out (by rw [HCL.out]) ?_ (by have := HR.out; omega) (by simp; omega) (by rw [← HR.out]; exact (by repeat (first | exact hbel | refine Below.setCell ?_ (by first | omega | (simp <;> omega)) _ | refine Below.alloc ?_ (by first | omega | (simp <;> omega)) _ | refine Below.drew ?_)))
              rw [HCL.out]
              exact (ow.setCell (p := ⟨r + 1, 0, none⟩) (.inl (by simp <;> omega)) _).setCell (p := ⟨r + 1, 1, none⟩) (.inl (by simp <;> omega)) _
end Go.Proofs.Ytgfpjcckkbhdjaa
