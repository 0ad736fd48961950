/-
  Several texts in one: WiP, WiS1, WiS2, WiS3, WiS, WiK.
-/
import Derived.Test.YtiogbpnnnpodkaaWiR
import Derived.Test.YtiogbpnnnpodkaaAwsAll
import Derived.Test.YtiogbpnnnpodkaaNewReg
import Derived.Deep.Cut
namespace Go.Proofs.Ytiogbpnnnpodkaa
open Go.RowKit

theorem rdF_oneS {w : World} {g : Nat} {t : TypeId} {k l : Int} (h : Bx w g t #[.int .i64 k, .int .i64 l]) : RdF pairF w (some ⟨g, 0, none⟩) [(k, l)] := by
  refine ⟨by simp, fun _ => ⟨g, 0, rfl, fun i x hx j v hv => ?_⟩⟩
  match i, hx with
  | 0, hx =>
    simp only [List.getElem?_cons_zero, Option.some.injEq] at hx
    subst hx
    match j, hv with
    | 0, hv => simp [pairF] at hv; subst hv; simpa using h.at_ 0 rfl
    | 1, hv => simp [pairF] at hv; subst hv; simpa using h.at_ 1 rfl
    | j + 2, hv => simp [pairF] at hv
  | i + 1, hx => simp at hx
theorem own_at0 {t : TypeId} {w : World} {lo hi n C : Nat} {A : Option Addr} {zs : List Int} (h : Own t w lo hi (.slice A n C) zs) (hn : 0 < n) : ∃ g, A = some ⟨g, 0, none⟩ := by
  rcases h.row.2 with ⟨h0, _⟩ | ⟨g, cap, cur, hv, _⟩
  · injection h0 with h1 h2 h3; omega
  · injection hv with h1 h2 h3; exact ⟨g, h1⟩
theorem digs_zero {b : Int} (hb : 1 ≤ b) : ∀ {n : Nat}, digsR b n 0 = List.replicate n 0
  | 0 => rfl
  | n + 1 => by rw [digsR, List.replicate_succ, Int.zero_ediv, digs_zero hb]; simp
theorem shows_at {b k : Int} {m l : Nat} (q h x y C D G : Nat) (v : World) (h1 : 2 ≤ b) (h2 : b ≤ 16) (hm : m ≤ 16) (hl : l < m) (hf : faultsB (m : Int) [(k, (l : Int))] = true)
    (ha : Rd v (some ⟨x, 0, none⟩) (wiA b m k l)) (hc : Rd v (some ⟨y, 0, none⟩) (wiB m k l)) (hf2 : RdF pairF v (some ⟨G, 0, none⟩) [(k, (l : Int))]) (q0 : v.cell? ⟨q, 0, none⟩ = some (.int .i64 b)) (q1 : v.cell? ⟨q, 1, none⟩ = some (.slice (some ⟨x, 0, none⟩) m C)) (p0 : v.cell? ⟨h, 0, none⟩ = some (.int .i64 b)) (p1 : v.cell? ⟨h, 1, none⟩ = some (.slice (some ⟨y, 0, none⟩) m D)) :
    Calls Try.prog 45 #[.pointer (some ⟨q, 0, none⟩), .pointer (some ⟨h, 0, none⟩), .slice (some ⟨G, 0, none⟩) 1 1] v fun e w' => ∃ s : Bool,
      e = .returned (.tuple #[.bool s, .bool (okB b (tab (levD b (wiA b m k l) (wiB m k l) (kds [(k, (l : Int))])) m) && okB b (tab (sumD b (wiA b m k l) (wiB m k l)) m))]) ∧ Below v.heap.size v w' := by
  have hA : ∀ j, j < (wiA b m k l).length → 0 ≤ nth (wiA b m k l) j ∧ nth (wiA b m k l) j < b := fun j _ => by
    rw [wiA_at hl]; split <;> (try split) <;> omega
  have hB : ∀ j, j < (wiA b m k l).length → 0 ≤ nth (wiB m k l) j ∧ nth (wiB m k l) j < b := fun j _ => by
    rw [wiB_at hl]; split <;> (try split) <;> omega
  have := l08Shows_any q h b b (some ⟨x, 0, none⟩) (some ⟨y, 0, none⟩) (some ⟨G, 0, none⟩) C D 1 (wiA b m k l) (wiB m k l) [(k, (l : Int))] v ha hc hf2 h1 h2 (by rw [wi_len]; exact hm) (by rw [wi_len, wiB_len]) hA hB (by rw [wi_len]; exact hf) q0 (by rw [wi_len]; exact q1) p0 (by rw [wiB_len]; exact p1)
  rw [wi_len] at this
  exact this.mono fun _ _ hh => ⟨_, hh.1, hh.2⟩

set_option maxRecDepth 100000 in
set_option maxHeartbeats 16000000 in
theorem witnessS_one (b : Int) (m l : Nat) (k : Int)
    (w : World) (_ : I64 b) (h1 : 2 ≤ b) (h2 : b ≤ 16) (hm0 : 1 ≤ m) (hm : m ≤ 16) (hl : l < m) (hf : faultsB (m : Int) [(k, (l : Int))] = true) (HR0 : Hid (wiR b (m : Int) (k, (l : Int)) = if wiOk b m k l = true then (b, wiA b m k l, b, wiB m k l, 0) else (0, [], 0, [], 5))) (hk : k = 1) :
    Calls Try.prog 18 #[.int .i64 b, .int .i64 m, .agg #[.int .i64 k, .int .i64 (l : Int)]] w (TwoAny (wiR b m (k, (l : Int))) w) := by
  have R := Try.results18
  have hbel : Below w.heap.size w w := Below.refl _ _
  have HB := Lib.hid (l02Base_any b)
  rw [show baseB b = true by simp [baseB, h1, h2]] at HB
  have HF := Lib.hid hf
  have HN := Lib.hid (fun w => specl02New_any b 0 m w h1 h2 hm (Int.le_refl _) (by omega))
  rw [digs_zero (by omega)] at HN
  have HSH := Lib.hid (fun (q h x y C D G : Nat) (v : World) (ha : Rd v (some ⟨x, 0, none⟩) (wiA b m k l)) (hc : Rd v (some ⟨y, 0, none⟩) (wiB m k l)) (hf2 : RdF pairF v (some ⟨G, 0, none⟩) [(k, (l : Int))]) (q0 : v.cell? ⟨q, 0, none⟩ = some (.int .i64 b)) (q1 : v.cell? ⟨q, 1, none⟩ = some (.slice (some ⟨x, 0, none⟩) m C)) (p0 : v.cell? ⟨h, 0, none⟩ = some (.int .i64 b)) (p1 : v.cell? ⟨h, 1, none⟩ = some (.slice (some ⟨y, 0, none⟩) m D)) => shows_at q h x y C D G v h1 h2 hm hl hf ha hc hf2 q0 q1 p0 p1)
  have tk : (k == 1) = true := by simp [hk]
  have hv1 : IntKind.i64.wrap (b - 1) = b - 1 := fits_int _ (by omega) (by omega)
  have hln : (l : Int) < (m : Int) := by omega
  have HDA := Lib.hid (show wiA b m k l = (List.replicate m 0).set l (b - 1) by simp [wiA, hk])
  have HDB := Lib.hid (show wiB m k l = (List.replicate m 0).set l 1 by simp [wiB, hk])
  clear hk
  cases o1 : okB b (tab (levD b (wiA b m k l) (wiB m k l) (kds [(k, (l : Int))])) m) && okB b (tab (sumD b (wiA b m k l) (wiB m k l)) m) with
  | false =>
    have HR := Lib.hid (HR0.out.trans (if_neg (by unfold wiOk; intro hh; simp only [Bool.and_eq_true] at hh; rw [hh.1.2, hh.2] at o1; cases o1)))
    rw [o1] at HSH
    clear o1 hf
    go_enter Try.func18, Try.ntmps18
    go_upto_region 1 with fail
    obtain ⟨p, hp⟩ : ∃ g, g = w.heap.size := ⟨_, rfl⟩
    have hwp : w.heap.size ≤ p := Nat.le_of_eq hp.symm
    obtain ⟨u, hu⟩ : ∃ u, u = ((w.alloc (.cells #[.int .i64 k, .int .i64 (l : Int)] 42)).alloc (.cells #[.int .i64 0, .slice none 0 0] 31)).alloc (.cells #[.int .i64 0, .slice none 0 0] 31) := ⟨_, rfl⟩
    have b_x : Bx u p 42 #[.int .i64 k, .int .i64 (l : Int)] := by rw [hu, hp]; exact ((Bx.new _ _ _).alloc _).alloc _
    have b_r : Bx u (p + 1) 31 #[.int .i64 0, .slice none 0 0] := by rw [hu, hp]; simpa using (Bx.new (w.alloc (.cells #[.int .i64 k, .int .i64 (l : Int)] 42)) #[.int .i64 0, .slice none 0 0] 31).alloc _
    have b_s : Bx u (p + 1 + 1) 31 #[.int .i64 0, .slice none 0 0] := by rw [hu, hp]; simpa using Bx.new ((w.alloc (.cells #[.int .i64 k, .int .i64 (l : Int)] 42)).alloc (.cells #[.int .i64 0, .slice none 0 0] 31)) #[.int .i64 0, .slice none 0 0] 31
    have hb : Below w.heap.size w u := by rw [hu]; exact (by repeat (first | with_reducible exact Below.refl _ _ | with_reducible refine Below.setCell ?_ (by first | omega | (simp <;> omega)) _ | with_reducible refine Below.alloc ?_ (by first | omega | (simp <;> omega)) _ | with_reducible refine Below.drew ?_))
    have hus : u.heap.size = p + 1 + 1 + 1 := by rw [hu, hp]; simp
    rw [← hu, ← hp]
    clear hu hp
    replace hbel := hbel.trans (hb.mono hbel.size)
    clear hb
    go_wp2_with fail
    refine (HB.out u).mono ?_
    rintro e v ⟨rfl, hw⟩
    subst v
    have c0 := b_x.at_ 0 rfl
    have c1 := b_x.at_ 1 rfl
    go_wp2_with fail
    obtain ⟨v0, hv0⟩ : ∃ V, V = u.alloc (.cells #[.int .i64 k, .int .i64 (l : Int)] 42) := ⟨_, rfl⟩
    have b_f0 : Bx v0 u.heap.size 42 #[.int .i64 k, .int .i64 (l : Int)] := by rw [hv0]; exact Bx.new _ _ _
    have hb : Below u.heap.size u v0 := by rw [hv0]; exact (Below.refl _ _).alloc (Nat.le_refl _) _
    rw [← hv0]
    clear hv0 c0 c1
    first | rw [← hus] | skip
    refine (l08Ok_at (m : Int) (some ⟨u.heap.size, 0, none⟩) 1 [(k, (l : Int))] v0 HF.out (rdF_oneS b_f0)).mono ?_
    clear b_f0
    replace b_x := b_x.below hb
    replace b_r := b_r.below hb
    replace b_s := b_s.below hb
    replace hbel := hbel.trans (hb.mono hbel.size)
    clear hb
    rintro e v ⟨rfl, hb⟩
    replace b_x := b_x.below hb
    replace b_r := b_r.below hb
    replace b_s := b_s.below hb
    replace hbel := hbel.trans (hb.mono hbel.size)
    clear hb
    have hpv : p + 1 + 1 < v.heap.size := b_s.lt
    have hwv : w.heap.size ≤ v.heap.size := hbel.size
    go_wp2_with fail
    refine (HN.out v).mono ?_
    rintro e v2 ⟨A1, C1, rfl, ow1, hb⟩
    have hv2 := hb.size
    replace b_x := b_x.below hb
    replace b_r := b_r.below hb
    replace b_s := b_s.below hb
    replace hbel := hbel.trans (hb.mono hbel.size)
    clear hb
    obtain ⟨x, rfl⟩ := own_at0 ow1 (by omega)
    have hx2 := ow1.block
    go_upto_region 4 with fail
    obtain ⟨q, hq⟩ : ∃ g, g = v2.heap.size := ⟨_, rfl⟩
    have hk_q : v2.heap.size ≤ q := Nat.le_of_eq hq.symm
    obtain ⟨v3, hv3⟩ : ∃ V, V = v2.alloc (.cells #[.int .i64 b, .slice (some ⟨x, 0, none⟩) m C1] 31) := ⟨_, rfl⟩
    have b_q : Bx v3 q 31 #[.int .i64 b, .slice (some ⟨x, 0, none⟩) m C1] := by rw [hv3, hq]; exact Bx.new _ _ _
    have hb : Below v2.heap.size v2 v3 := by rw [hv3]; exact (Below.refl _ _).alloc (Nat.le_refl _) _
    rw [← hq, ← hv3]
    clear hv3 hq
    replace b_x := b_x.below hb
    replace b_r := b_r.below hb
    replace b_s := b_s.below hb
    replace ow1 := ow1.below hb
    replace hbel := hbel.trans (hb.mono hbel.size)
    clear hb
    have hq3 := b_q.lt
    go_wp2_with fail
    refine (HN.out v3).mono ?_
    rintro e v4 ⟨A2, C2, rfl, ow2, hb⟩
    have hv4 := hb.size
    replace b_x := b_x.below hb
    replace b_r := b_r.below hb
    replace b_s := b_s.below hb
    replace ow1 := ow1.below hb
    replace b_q := b_q.below hb
    replace hbel := hbel.trans (hb.mono hbel.size)
    clear hb
    obtain ⟨y, rfl⟩ := own_at0 ow2 (by omega)
    have hy2 := ow2.block
    go_upto_region 5 with fail
    obtain ⟨h, hh⟩ : ∃ g, g = v4.heap.size := ⟨_, rfl⟩
    have hk_h : v4.heap.size ≤ h := Nat.le_of_eq hh.symm
    obtain ⟨v5, hv5⟩ : ∃ V, V = v4.alloc (.cells #[.int .i64 b, .slice (some ⟨y, 0, none⟩) m C2] 31) := ⟨_, rfl⟩
    have b_h : Bx v5 h 31 #[.int .i64 b, .slice (some ⟨y, 0, none⟩) m C2] := by rw [hv5, hh]; exact Bx.new _ _ _
    have hb : Below v4.heap.size v4 v5 := by rw [hv5]; exact (Below.refl _ _).alloc (Nat.le_refl _) _
    rw [← hh, ← hv5]
    clear hv5 hh
    replace b_x := b_x.below hb
    replace b_r := b_r.below hb
    replace b_s := b_s.below hb
    replace ow1 := ow1.below hb
    replace b_q := b_q.below hb
    replace ow2 := ow2.below hb
    replace hbel := hbel.trans (hb.mono hbel.size)
    clear hb
    have hh5 := b_h.lt
    have hqx : x < q := by omega
    have hqy : q < y := by omega
    have hyh : y < h := by omega
    have hpx : p + 1 + 1 < x := by omega
    obtain ⟨z1, hz1⟩ : ∃ z, z = v2.heap.size := ⟨_, rfl⟩
    obtain ⟨z2, hz2⟩ : ∃ z, z = v4.heap.size := ⟨_, rfl⟩
    obtain ⟨z0, hz0⟩ : ∃ z, z = v.heap.size := ⟨_, rfl⟩
    obtain ⟨z3, hz3⟩ : ∃ z, z = v3.heap.size := ⟨_, rfl⟩
    rw [← hz0, ← hz1] at ow1
    rw [← hz3, ← hz2] at ow2
    have hz4 : z0 ≤ x ∧ x < z1 ∧ z1 ≤ q ∧ q < z3 ∧ z3 ≤ y ∧ y < z2 ∧ z2 ≤ h ∧ p + 1 + 1 < z0 ∧ w.heap.size ≤ z0 := by omega
    clear hz0 hz1 hz2 hz3 hv2 hv4 hq3 hx2 hy2
    have e0 := b_x.at_ 0 rfl
    have e1 := b_x.at_ 1 rfl
    have c0 := b_q.at_ 0 rfl
    have c1 := b_q.at_ 1 rfl
    have d0 := b_h.at_ 0 rfl
    have d1 := b_h.at_ 1 rfl
    have cx := ow1.get (j := l) (by simp; omega)
    have cxf := ow1.thaw l
    go_upto_region 7 with fail
    clear cx cxf
    clear e0 e1 c0 c1 d0 d1
    obtain ⟨v6, hv6⟩ : ∃ V, V = v5.setCell ⟨x, l, none⟩ (.int .i64 (b - 1)) := ⟨_, rfl⟩
    have ow1' := ow1.put l (b - 1)
    have ow2' := ow2.setCell (p := ⟨x, l, none⟩) (by simp; omega) (.int .i64 (b - 1))
    have hb' : Below w.heap.size w v6 := by rw [hv6]; exact hbel.setCell (p := ⟨x, l, none⟩) (by simp; omega) _
    have bx' := b_x.far (p := ⟨x, l, none⟩) (by simp; omega) (.int .i64 (b - 1))
    have br' := b_r.far (p := ⟨x, l, none⟩) (by simp; omega) (.int .i64 (b - 1))
    have bs' := b_s.far (p := ⟨x, l, none⟩) (by simp; omega) (.int .i64 (b - 1))
    have bq' := b_q.far (p := ⟨x, l, none⟩) (by simp; omega) (.int .i64 (b - 1))
    have bh' := b_h.far (p := ⟨x, l, none⟩) (by simp; omega) (.int .i64 (b - 1))
    rw [← hv6] at ow1' ow2' bx' br' bs' bq' bh'
    first | rw [← hv6] | skip
    clear ow1 ow2 b_x b_r b_s b_q b_h hbel hv6
    have ow1 := ow1'
    have ow2 := ow2'
    have b_x := bx'
    have b_r := br'
    have b_s := bs'
    have b_q := bq'
    have b_h := bh'
    have hbel := hb'
    clear ow1' ow2' bx' br' bs' bq' bh' hb'
    have e0 := b_x.at_ 0 rfl
    have e1 := b_x.at_ 1 rfl
    have c0 := b_q.at_ 0 rfl
    have c1 := b_q.at_ 1 rfl
    have d0 := b_h.at_ 0 rfl
    have d1 := b_h.at_ 1 rfl
    have cy := ow2.get (j := l) (by simp; omega)
    have cyf := ow2.thaw l
    go_upto_region 14 with fail
    clear cy cyf
    clear e0 e1 c0 c1 d0 d1
    obtain ⟨v7, hv7⟩ : ∃ V, V = v6.setCell ⟨y, l, none⟩ (.int .i64 (1)) := ⟨_, rfl⟩
    have ow2' := ow2.put l (1)
    have ow1' := ow1.setCell (p := ⟨y, l, none⟩) (by simp; omega) (.int .i64 (1))
    have hb' : Below w.heap.size w v7 := by rw [hv7]; exact hbel.setCell (p := ⟨y, l, none⟩) (by simp; omega) _
    have bx' := b_x.far (p := ⟨y, l, none⟩) (by simp; omega) (.int .i64 (1))
    have br' := b_r.far (p := ⟨y, l, none⟩) (by simp; omega) (.int .i64 (1))
    have bs' := b_s.far (p := ⟨y, l, none⟩) (by simp; omega) (.int .i64 (1))
    have bq' := b_q.far (p := ⟨y, l, none⟩) (by simp; omega) (.int .i64 (1))
    have bh' := b_h.far (p := ⟨y, l, none⟩) (by simp; omega) (.int .i64 (1))
    rw [← hv7] at ow2' ow1' bx' br' bs' bq' bh'
    first | rw [← hv7] | skip
    clear ow1 ow2 b_x b_r b_s b_q b_h hbel hv7
    have ow1 := ow1'
    have ow2 := ow2'
    have b_x := bx'
    have b_r := br'
    have b_s := bs'
    have b_q := bq'
    have b_h := bh'
    have hbel := hb'
    clear ow1' ow2' bx' br' bs' bq' bh' hb'
    have hda := HDA.out
    have hdb := HDB.out
    rw [← hda] at ow1
    rw [← hdb] at ow2
    clear hda hdb
    have hr1 := ow1.rd
    have hr2 := ow2.rd
    have e0 := b_x.at_ 0 rfl
    have e1 := b_x.at_ 1 rfl
    go_wp2_with fail
    obtain ⟨w1, hw1⟩ : ∃ V, V = v7.alloc (.cells #[.int .i64 k, .int .i64 (l : Int)] 42) := ⟨_, rfl⟩
    have b_f1 : Bx w1 v7.heap.size 42 #[.int .i64 k, .int .i64 (l : Int)] := by rw [hw1]; exact Bx.new _ _ _
    have hb : Below v7.heap.size v7 w1 := by rw [hw1]; exact (Below.refl _ _).alloc (Nat.le_refl _) _
    first | rw [← hw1] | skip
    clear hw1 e0 e1
    replace b_x := b_x.below hb
    replace b_r := b_r.below hb
    replace b_s := b_s.below hb
    replace ow1 := ow1.below hb
    replace b_q := b_q.below hb
    replace ow2 := ow2.below hb
    replace b_h := b_h.below hb
    replace hr1 := hr1.below hb
    replace hr2 := hr2.below hb
    replace hbel := hbel.trans (hb.mono hbel.size)
    clear hb
    refine (HSH.out q h x y C1 C2 v7.heap.size w1 hr1 hr2 (rdF_oneS b_f1) (b_q.at_ 0 rfl) (b_q.at_ 1 rfl) (b_h.at_ 0 rfl) (b_h.at_ 1 rfl)).mono ?_
    rintro e w2 ⟨sh, rfl, hb⟩
    clear b_f1
    replace b_x := b_x.below hb
    replace b_r := b_r.below hb
    replace b_s := b_s.below hb
    replace ow1 := ow1.below hb
    replace b_q := b_q.below hb
    replace ow2 := ow2.below hb
    replace b_h := b_h.below hb
    replace hr1 := hr1.below hb
    replace hr2 := hr2.below hb
    replace hbel := hbel.trans (hb.mono hbel.size)
    clear hb
    have r0 := b_r.at_ 0 rfl
    have r1 := b_r.at_ 1 rfl
    have f0 := b_r.thaw 0
    have f1 := b_r.thaw 1
    have t0 := b_s.at_ 0 rfl
    have t1 := b_s.at_ 1 rfl
    have g0 := b_s.thaw 0
    have g1 := b_s.thaw 1
    have hs := b_r.lt
    have hs2 := b_s.lt
    have hbs := hbel.size
    go_wp2
    exact bodyPost_ret (v := .tuple #[.agg #[.int .i64 0, .slice none 0 0], .agg #[.int .i64 0, .slice none 0 0], .int .i64 5]) (by simp [results, go_sem, r0, r1, t0, t1]) rfl
      (twoAny_err HR.out rfl (by repeat (first | with_reducible exact hbel | with_reducible refine Below.setCell ?_ (by first | omega | (simp <;> omega)) _ | with_reducible refine Below.alloc ?_ (by first | omega | (simp <;> omega)) _ | with_reducible refine Below.drew ?_)))
  | true =>
    have hO := o1
    simp only [Bool.and_eq_true] at hO
    rw [o1] at HSH
    cases o2 : okB b (wiA b m k l) with
    | false =>
      have HR := Lib.hid (HR0.out.trans (if_neg (by unfold wiOk; rw [o2]; simp)))
      have HO1 := Lib.hid o2
      clear o1 o2 hO hf
      go_enter Try.func18, Try.ntmps18
      go_upto_region 1 with fail
      obtain ⟨p, hp⟩ : ∃ g, g = w.heap.size := ⟨_, rfl⟩
      have hwp : w.heap.size ≤ p := Nat.le_of_eq hp.symm
      obtain ⟨u, hu⟩ : ∃ u, u = ((w.alloc (.cells #[.int .i64 k, .int .i64 (l : Int)] 42)).alloc (.cells #[.int .i64 0, .slice none 0 0] 31)).alloc (.cells #[.int .i64 0, .slice none 0 0] 31) := ⟨_, rfl⟩
      have b_x : Bx u p 42 #[.int .i64 k, .int .i64 (l : Int)] := by rw [hu, hp]; exact ((Bx.new _ _ _).alloc _).alloc _
      have b_r : Bx u (p + 1) 31 #[.int .i64 0, .slice none 0 0] := by rw [hu, hp]; simpa using (Bx.new (w.alloc (.cells #[.int .i64 k, .int .i64 (l : Int)] 42)) #[.int .i64 0, .slice none 0 0] 31).alloc _
      have b_s : Bx u (p + 1 + 1) 31 #[.int .i64 0, .slice none 0 0] := by rw [hu, hp]; simpa using Bx.new ((w.alloc (.cells #[.int .i64 k, .int .i64 (l : Int)] 42)).alloc (.cells #[.int .i64 0, .slice none 0 0] 31)) #[.int .i64 0, .slice none 0 0] 31
      have hb : Below w.heap.size w u := by rw [hu]; exact (by repeat (first | with_reducible exact Below.refl _ _ | with_reducible refine Below.setCell ?_ (by first | omega | (simp <;> omega)) _ | with_reducible refine Below.alloc ?_ (by first | omega | (simp <;> omega)) _ | with_reducible refine Below.drew ?_))
      have hus : u.heap.size = p + 1 + 1 + 1 := by rw [hu, hp]; simp
      rw [← hu, ← hp]
      clear hu hp
      replace hbel := hbel.trans (hb.mono hbel.size)
      clear hb
      go_wp2_with fail
      refine (HB.out u).mono ?_
      rintro e v ⟨rfl, hw⟩
      subst v
      have c0 := b_x.at_ 0 rfl
      have c1 := b_x.at_ 1 rfl
      go_wp2_with fail
      obtain ⟨v0, hv0⟩ : ∃ V, V = u.alloc (.cells #[.int .i64 k, .int .i64 (l : Int)] 42) := ⟨_, rfl⟩
      have b_f0 : Bx v0 u.heap.size 42 #[.int .i64 k, .int .i64 (l : Int)] := by rw [hv0]; exact Bx.new _ _ _
      have hb : Below u.heap.size u v0 := by rw [hv0]; exact (Below.refl _ _).alloc (Nat.le_refl _) _
      rw [← hv0]
      clear hv0 c0 c1
      first | rw [← hus] | skip
      refine (l08Ok_at (m : Int) (some ⟨u.heap.size, 0, none⟩) 1 [(k, (l : Int))] v0 HF.out (rdF_oneS b_f0)).mono ?_
      clear b_f0
      replace b_x := b_x.below hb
      replace b_r := b_r.below hb
      replace b_s := b_s.below hb
      replace hbel := hbel.trans (hb.mono hbel.size)
      clear hb
      rintro e v ⟨rfl, hb⟩
      replace b_x := b_x.below hb
      replace b_r := b_r.below hb
      replace b_s := b_s.below hb
      replace hbel := hbel.trans (hb.mono hbel.size)
      clear hb
      have hpv : p + 1 + 1 < v.heap.size := b_s.lt
      have hwv : w.heap.size ≤ v.heap.size := hbel.size
      go_wp2_with fail
      refine (HN.out v).mono ?_
      rintro e v2 ⟨A1, C1, rfl, ow1, hb⟩
      have hv2 := hb.size
      replace b_x := b_x.below hb
      replace b_r := b_r.below hb
      replace b_s := b_s.below hb
      replace hbel := hbel.trans (hb.mono hbel.size)
      clear hb
      obtain ⟨x, rfl⟩ := own_at0 ow1 (by omega)
      have hx2 := ow1.block
      go_upto_region 4 with fail
      obtain ⟨q, hq⟩ : ∃ g, g = v2.heap.size := ⟨_, rfl⟩
      have hk_q : v2.heap.size ≤ q := Nat.le_of_eq hq.symm
      obtain ⟨v3, hv3⟩ : ∃ V, V = v2.alloc (.cells #[.int .i64 b, .slice (some ⟨x, 0, none⟩) m C1] 31) := ⟨_, rfl⟩
      have b_q : Bx v3 q 31 #[.int .i64 b, .slice (some ⟨x, 0, none⟩) m C1] := by rw [hv3, hq]; exact Bx.new _ _ _
      have hb : Below v2.heap.size v2 v3 := by rw [hv3]; exact (Below.refl _ _).alloc (Nat.le_refl _) _
      rw [← hq, ← hv3]
      clear hv3 hq
      replace b_x := b_x.below hb
      replace b_r := b_r.below hb
      replace b_s := b_s.below hb
      replace ow1 := ow1.below hb
      replace hbel := hbel.trans (hb.mono hbel.size)
      clear hb
      have hq3 := b_q.lt
      go_wp2_with fail
      refine (HN.out v3).mono ?_
      rintro e v4 ⟨A2, C2, rfl, ow2, hb⟩
      have hv4 := hb.size
      replace b_x := b_x.below hb
      replace b_r := b_r.below hb
      replace b_s := b_s.below hb
      replace ow1 := ow1.below hb
      replace b_q := b_q.below hb
      replace hbel := hbel.trans (hb.mono hbel.size)
      clear hb
      obtain ⟨y, rfl⟩ := own_at0 ow2 (by omega)
      have hy2 := ow2.block
      go_upto_region 5 with fail
      obtain ⟨h, hh⟩ : ∃ g, g = v4.heap.size := ⟨_, rfl⟩
      have hk_h : v4.heap.size ≤ h := Nat.le_of_eq hh.symm
      obtain ⟨v5, hv5⟩ : ∃ V, V = v4.alloc (.cells #[.int .i64 b, .slice (some ⟨y, 0, none⟩) m C2] 31) := ⟨_, rfl⟩
      have b_h : Bx v5 h 31 #[.int .i64 b, .slice (some ⟨y, 0, none⟩) m C2] := by rw [hv5, hh]; exact Bx.new _ _ _
      have hb : Below v4.heap.size v4 v5 := by rw [hv5]; exact (Below.refl _ _).alloc (Nat.le_refl _) _
      rw [← hh, ← hv5]
      clear hv5 hh
      replace b_x := b_x.below hb
      replace b_r := b_r.below hb
      replace b_s := b_s.below hb
      replace ow1 := ow1.below hb
      replace b_q := b_q.below hb
      replace ow2 := ow2.below hb
      replace hbel := hbel.trans (hb.mono hbel.size)
      clear hb
      have hh5 := b_h.lt
      have hqx : x < q := by omega
      have hqy : q < y := by omega
      have hyh : y < h := by omega
      have hpx : p + 1 + 1 < x := by omega
      obtain ⟨z1, hz1⟩ : ∃ z, z = v2.heap.size := ⟨_, rfl⟩
      obtain ⟨z2, hz2⟩ : ∃ z, z = v4.heap.size := ⟨_, rfl⟩
      obtain ⟨z0, hz0⟩ : ∃ z, z = v.heap.size := ⟨_, rfl⟩
      obtain ⟨z3, hz3⟩ : ∃ z, z = v3.heap.size := ⟨_, rfl⟩
      rw [← hz0, ← hz1] at ow1
      rw [← hz3, ← hz2] at ow2
      have hz4 : z0 ≤ x ∧ x < z1 ∧ z1 ≤ q ∧ q < z3 ∧ z3 ≤ y ∧ y < z2 ∧ z2 ≤ h ∧ p + 1 + 1 < z0 ∧ w.heap.size ≤ z0 := by omega
      clear hz0 hz1 hz2 hz3 hv2 hv4 hq3 hx2 hy2
      have e0 := b_x.at_ 0 rfl
      have e1 := b_x.at_ 1 rfl
      have c0 := b_q.at_ 0 rfl
      have c1 := b_q.at_ 1 rfl
      have d0 := b_h.at_ 0 rfl
      have d1 := b_h.at_ 1 rfl
      have cx := ow1.get (j := l) (by simp; omega)
      have cxf := ow1.thaw l
      go_upto_region 7 with fail
      clear cx cxf
      clear e0 e1 c0 c1 d0 d1
      obtain ⟨v6, hv6⟩ : ∃ V, V = v5.setCell ⟨x, l, none⟩ (.int .i64 (b - 1)) := ⟨_, rfl⟩
      have ow1' := ow1.put l (b - 1)
      have ow2' := ow2.setCell (p := ⟨x, l, none⟩) (by simp; omega) (.int .i64 (b - 1))
      have hb' : Below w.heap.size w v6 := by rw [hv6]; exact hbel.setCell (p := ⟨x, l, none⟩) (by simp; omega) _
      have bx' := b_x.far (p := ⟨x, l, none⟩) (by simp; omega) (.int .i64 (b - 1))
      have br' := b_r.far (p := ⟨x, l, none⟩) (by simp; omega) (.int .i64 (b - 1))
      have bs' := b_s.far (p := ⟨x, l, none⟩) (by simp; omega) (.int .i64 (b - 1))
      have bq' := b_q.far (p := ⟨x, l, none⟩) (by simp; omega) (.int .i64 (b - 1))
      have bh' := b_h.far (p := ⟨x, l, none⟩) (by simp; omega) (.int .i64 (b - 1))
      rw [← hv6] at ow1' ow2' bx' br' bs' bq' bh'
      first | rw [← hv6] | skip
      clear ow1 ow2 b_x b_r b_s b_q b_h hbel hv6
      have ow1 := ow1'
      have ow2 := ow2'
      have b_x := bx'
      have b_r := br'
      have b_s := bs'
      have b_q := bq'
      have b_h := bh'
      have hbel := hb'
      clear ow1' ow2' bx' br' bs' bq' bh' hb'
      have e0 := b_x.at_ 0 rfl
      have e1 := b_x.at_ 1 rfl
      have c0 := b_q.at_ 0 rfl
      have c1 := b_q.at_ 1 rfl
      have d0 := b_h.at_ 0 rfl
      have d1 := b_h.at_ 1 rfl
      have cy := ow2.get (j := l) (by simp; omega)
      have cyf := ow2.thaw l
      go_upto_region 14 with fail
      clear cy cyf
      clear e0 e1 c0 c1 d0 d1
      obtain ⟨v7, hv7⟩ : ∃ V, V = v6.setCell ⟨y, l, none⟩ (.int .i64 (1)) := ⟨_, rfl⟩
      have ow2' := ow2.put l (1)
      have ow1' := ow1.setCell (p := ⟨y, l, none⟩) (by simp; omega) (.int .i64 (1))
      have hb' : Below w.heap.size w v7 := by rw [hv7]; exact hbel.setCell (p := ⟨y, l, none⟩) (by simp; omega) _
      have bx' := b_x.far (p := ⟨y, l, none⟩) (by simp; omega) (.int .i64 (1))
      have br' := b_r.far (p := ⟨y, l, none⟩) (by simp; omega) (.int .i64 (1))
      have bs' := b_s.far (p := ⟨y, l, none⟩) (by simp; omega) (.int .i64 (1))
      have bq' := b_q.far (p := ⟨y, l, none⟩) (by simp; omega) (.int .i64 (1))
      have bh' := b_h.far (p := ⟨y, l, none⟩) (by simp; omega) (.int .i64 (1))
      rw [← hv7] at ow2' ow1' bx' br' bs' bq' bh'
      first | rw [← hv7] | skip
      clear ow1 ow2 b_x b_r b_s b_q b_h hbel hv7
      have ow1 := ow1'
      have ow2 := ow2'
      have b_x := bx'
      have b_r := br'
      have b_s := bs'
      have b_q := bq'
      have b_h := bh'
      have hbel := hb'
      clear ow1' ow2' bx' br' bs' bq' bh' hb'
      have hda := HDA.out
      have hdb := HDB.out
      rw [← hda] at ow1
      rw [← hdb] at ow2
      clear hda hdb
      have hr1 := ow1.rd
      have hr2 := ow2.rd
      have e0 := b_x.at_ 0 rfl
      have e1 := b_x.at_ 1 rfl
      go_wp2_with fail
      obtain ⟨w1, hw1⟩ : ∃ V, V = v7.alloc (.cells #[.int .i64 k, .int .i64 (l : Int)] 42) := ⟨_, rfl⟩
      have b_f1 : Bx w1 v7.heap.size 42 #[.int .i64 k, .int .i64 (l : Int)] := by rw [hw1]; exact Bx.new _ _ _
      have hb : Below v7.heap.size v7 w1 := by rw [hw1]; exact (Below.refl _ _).alloc (Nat.le_refl _) _
      first | rw [← hw1] | skip
      clear hw1 e0 e1
      replace b_x := b_x.below hb
      replace b_r := b_r.below hb
      replace b_s := b_s.below hb
      replace ow1 := ow1.below hb
      replace b_q := b_q.below hb
      replace ow2 := ow2.below hb
      replace b_h := b_h.below hb
      replace hr1 := hr1.below hb
      replace hr2 := hr2.below hb
      replace hbel := hbel.trans (hb.mono hbel.size)
      clear hb
      refine (HSH.out q h x y C1 C2 v7.heap.size w1 hr1 hr2 (rdF_oneS b_f1) (b_q.at_ 0 rfl) (b_q.at_ 1 rfl) (b_h.at_ 0 rfl) (b_h.at_ 1 rfl)).mono ?_
      rintro e w2 ⟨sh, rfl, hb⟩
      clear b_f1
      replace b_x := b_x.below hb
      replace b_r := b_r.below hb
      replace b_s := b_s.below hb
      replace ow1 := ow1.below hb
      replace b_q := b_q.below hb
      replace ow2 := ow2.below hb
      replace b_h := b_h.below hb
      replace hr1 := hr1.below hb
      replace hr2 := hr2.below hb
      replace hbel := hbel.trans (hb.mono hbel.size)
      clear hb
      go_wp2_with fail
      refine (l02Ok_at0 q b (some ⟨x, 0, none⟩) C1 (wiA b m k l) w2 HO1.out hr1 (b_q.at_ 0 rfl) (by rw [wi_len]; exact b_q.at_ 1 rfl)).mono ?_
      rintro e w3 ⟨rfl, n3, hw3⟩
      have hb : Below w2.heap.size w2 w3 := by rw [hw3]; exact bel_drewN (Below.refl _ _) n3
      clear hw3
      replace b_x := b_x.below hb
      replace b_r := b_r.below hb
      replace b_s := b_s.below hb
      replace ow1 := ow1.below hb
      replace b_q := b_q.below hb
      replace ow2 := ow2.below hb
      replace b_h := b_h.below hb
      replace hr1 := hr1.below hb
      replace hr2 := hr2.below hb
      replace hbel := hbel.trans (hb.mono hbel.size)
      clear hb
      have r0 := b_r.at_ 0 rfl
      have r1 := b_r.at_ 1 rfl
      have f0 := b_r.thaw 0
      have f1 := b_r.thaw 1
      have t0 := b_s.at_ 0 rfl
      have t1 := b_s.at_ 1 rfl
      have g0 := b_s.thaw 0
      have g1 := b_s.thaw 1
      have hs := b_r.lt
      have hs2 := b_s.lt
      have hbs := hbel.size
      go_wp2
      exact bodyPost_ret (v := .tuple #[.agg #[.int .i64 0, .slice none 0 0], .agg #[.int .i64 0, .slice none 0 0], .int .i64 5]) (by simp [results, go_sem, r0, r1, t0, t1]) rfl
        (twoAny_err HR.out rfl (by repeat (first | with_reducible exact hbel | with_reducible refine Below.setCell ?_ (by first | omega | (simp <;> omega)) _ | with_reducible refine Below.alloc ?_ (by first | omega | (simp <;> omega)) _ | with_reducible refine Below.drew ?_)))
    | true =>
      have HO1 := Lib.hid o2
      cases o3 : okB b (wiB m k l) with
      | false =>
        have HR := Lib.hid (HR0.out.trans (if_neg (by unfold wiOk; rw [o3]; simp)))
        have HO2 := Lib.hid o3
        clear o1 o2 o3 hO hf
        go_enter Try.func18, Try.ntmps18
        go_upto_region 1 with fail
        obtain ⟨p, hp⟩ : ∃ g, g = w.heap.size := ⟨_, rfl⟩
        have hwp : w.heap.size ≤ p := Nat.le_of_eq hp.symm
        obtain ⟨u, hu⟩ : ∃ u, u = ((w.alloc (.cells #[.int .i64 k, .int .i64 (l : Int)] 42)).alloc (.cells #[.int .i64 0, .slice none 0 0] 31)).alloc (.cells #[.int .i64 0, .slice none 0 0] 31) := ⟨_, rfl⟩
        have b_x : Bx u p 42 #[.int .i64 k, .int .i64 (l : Int)] := by rw [hu, hp]; exact ((Bx.new _ _ _).alloc _).alloc _
        have b_r : Bx u (p + 1) 31 #[.int .i64 0, .slice none 0 0] := by rw [hu, hp]; simpa using (Bx.new (w.alloc (.cells #[.int .i64 k, .int .i64 (l : Int)] 42)) #[.int .i64 0, .slice none 0 0] 31).alloc _
        have b_s : Bx u (p + 1 + 1) 31 #[.int .i64 0, .slice none 0 0] := by rw [hu, hp]; simpa using Bx.new ((w.alloc (.cells #[.int .i64 k, .int .i64 (l : Int)] 42)).alloc (.cells #[.int .i64 0, .slice none 0 0] 31)) #[.int .i64 0, .slice none 0 0] 31
        have hb : Below w.heap.size w u := by rw [hu]; exact (by repeat (first | with_reducible exact Below.refl _ _ | with_reducible refine Below.setCell ?_ (by first | omega | (simp <;> omega)) _ | with_reducible refine Below.alloc ?_ (by first | omega | (simp <;> omega)) _ | with_reducible refine Below.drew ?_))
        have hus : u.heap.size = p + 1 + 1 + 1 := by rw [hu, hp]; simp
        rw [← hu, ← hp]
        clear hu hp
        replace hbel := hbel.trans (hb.mono hbel.size)
        clear hb
        go_wp2_with fail
        refine (HB.out u).mono ?_
        rintro e v ⟨rfl, hw⟩
        subst v
        have c0 := b_x.at_ 0 rfl
        have c1 := b_x.at_ 1 rfl
        go_wp2_with fail
        obtain ⟨v0, hv0⟩ : ∃ V, V = u.alloc (.cells #[.int .i64 k, .int .i64 (l : Int)] 42) := ⟨_, rfl⟩
        have b_f0 : Bx v0 u.heap.size 42 #[.int .i64 k, .int .i64 (l : Int)] := by rw [hv0]; exact Bx.new _ _ _
        have hb : Below u.heap.size u v0 := by rw [hv0]; exact (Below.refl _ _).alloc (Nat.le_refl _) _
        rw [← hv0]
        clear hv0 c0 c1
        first | rw [← hus] | skip
        refine (l08Ok_at (m : Int) (some ⟨u.heap.size, 0, none⟩) 1 [(k, (l : Int))] v0 HF.out (rdF_oneS b_f0)).mono ?_
        clear b_f0
        replace b_x := b_x.below hb
        replace b_r := b_r.below hb
        replace b_s := b_s.below hb
        replace hbel := hbel.trans (hb.mono hbel.size)
        clear hb
        rintro e v ⟨rfl, hb⟩
        replace b_x := b_x.below hb
        replace b_r := b_r.below hb
        replace b_s := b_s.below hb
        replace hbel := hbel.trans (hb.mono hbel.size)
        clear hb
        have hpv : p + 1 + 1 < v.heap.size := b_s.lt
        have hwv : w.heap.size ≤ v.heap.size := hbel.size
        go_wp2_with fail
        refine (HN.out v).mono ?_
        rintro e v2 ⟨A1, C1, rfl, ow1, hb⟩
        have hv2 := hb.size
        replace b_x := b_x.below hb
        replace b_r := b_r.below hb
        replace b_s := b_s.below hb
        replace hbel := hbel.trans (hb.mono hbel.size)
        clear hb
        obtain ⟨x, rfl⟩ := own_at0 ow1 (by omega)
        have hx2 := ow1.block
        go_upto_region 4 with fail
        obtain ⟨q, hq⟩ : ∃ g, g = v2.heap.size := ⟨_, rfl⟩
        have hk_q : v2.heap.size ≤ q := Nat.le_of_eq hq.symm
        obtain ⟨v3, hv3⟩ : ∃ V, V = v2.alloc (.cells #[.int .i64 b, .slice (some ⟨x, 0, none⟩) m C1] 31) := ⟨_, rfl⟩
        have b_q : Bx v3 q 31 #[.int .i64 b, .slice (some ⟨x, 0, none⟩) m C1] := by rw [hv3, hq]; exact Bx.new _ _ _
        have hb : Below v2.heap.size v2 v3 := by rw [hv3]; exact (Below.refl _ _).alloc (Nat.le_refl _) _
        rw [← hq, ← hv3]
        clear hv3 hq
        replace b_x := b_x.below hb
        replace b_r := b_r.below hb
        replace b_s := b_s.below hb
        replace ow1 := ow1.below hb
        replace hbel := hbel.trans (hb.mono hbel.size)
        clear hb
        have hq3 := b_q.lt
        go_wp2_with fail
        refine (HN.out v3).mono ?_
        rintro e v4 ⟨A2, C2, rfl, ow2, hb⟩
        have hv4 := hb.size
        replace b_x := b_x.below hb
        replace b_r := b_r.below hb
        replace b_s := b_s.below hb
        replace ow1 := ow1.below hb
        replace b_q := b_q.below hb
        replace hbel := hbel.trans (hb.mono hbel.size)
        clear hb
        obtain ⟨y, rfl⟩ := own_at0 ow2 (by omega)
        have hy2 := ow2.block
        go_upto_region 5 with fail
        obtain ⟨h, hh⟩ : ∃ g, g = v4.heap.size := ⟨_, rfl⟩
        have hk_h : v4.heap.size ≤ h := Nat.le_of_eq hh.symm
        obtain ⟨v5, hv5⟩ : ∃ V, V = v4.alloc (.cells #[.int .i64 b, .slice (some ⟨y, 0, none⟩) m C2] 31) := ⟨_, rfl⟩
        have b_h : Bx v5 h 31 #[.int .i64 b, .slice (some ⟨y, 0, none⟩) m C2] := by rw [hv5, hh]; exact Bx.new _ _ _
        have hb : Below v4.heap.size v4 v5 := by rw [hv5]; exact (Below.refl _ _).alloc (Nat.le_refl _) _
        rw [← hh, ← hv5]
        clear hv5 hh
        replace b_x := b_x.below hb
        replace b_r := b_r.below hb
        replace b_s := b_s.below hb
        replace ow1 := ow1.below hb
        replace b_q := b_q.below hb
        replace ow2 := ow2.below hb
        replace hbel := hbel.trans (hb.mono hbel.size)
        clear hb
        have hh5 := b_h.lt
        have hqx : x < q := by omega
        have hqy : q < y := by omega
        have hyh : y < h := by omega
        have hpx : p + 1 + 1 < x := by omega
        obtain ⟨z1, hz1⟩ : ∃ z, z = v2.heap.size := ⟨_, rfl⟩
        obtain ⟨z2, hz2⟩ : ∃ z, z = v4.heap.size := ⟨_, rfl⟩
        obtain ⟨z0, hz0⟩ : ∃ z, z = v.heap.size := ⟨_, rfl⟩
        obtain ⟨z3, hz3⟩ : ∃ z, z = v3.heap.size := ⟨_, rfl⟩
        rw [← hz0, ← hz1] at ow1
        rw [← hz3, ← hz2] at ow2
        have hz4 : z0 ≤ x ∧ x < z1 ∧ z1 ≤ q ∧ q < z3 ∧ z3 ≤ y ∧ y < z2 ∧ z2 ≤ h ∧ p + 1 + 1 < z0 ∧ w.heap.size ≤ z0 := by omega
        clear hz0 hz1 hz2 hz3 hv2 hv4 hq3 hx2 hy2
        have e0 := b_x.at_ 0 rfl
        have e1 := b_x.at_ 1 rfl
        have c0 := b_q.at_ 0 rfl
        have c1 := b_q.at_ 1 rfl
        have d0 := b_h.at_ 0 rfl
        have d1 := b_h.at_ 1 rfl
        have cx := ow1.get (j := l) (by simp; omega)
        have cxf := ow1.thaw l
        go_upto_region 7 with fail
        clear cx cxf
        clear e0 e1 c0 c1 d0 d1
        obtain ⟨v6, hv6⟩ : ∃ V, V = v5.setCell ⟨x, l, none⟩ (.int .i64 (b - 1)) := ⟨_, rfl⟩
        have ow1' := ow1.put l (b - 1)
        have ow2' := ow2.setCell (p := ⟨x, l, none⟩) (by simp; omega) (.int .i64 (b - 1))
        have hb' : Below w.heap.size w v6 := by rw [hv6]; exact hbel.setCell (p := ⟨x, l, none⟩) (by simp; omega) _
        have bx' := b_x.far (p := ⟨x, l, none⟩) (by simp; omega) (.int .i64 (b - 1))
        have br' := b_r.far (p := ⟨x, l, none⟩) (by simp; omega) (.int .i64 (b - 1))
        have bs' := b_s.far (p := ⟨x, l, none⟩) (by simp; omega) (.int .i64 (b - 1))
        have bq' := b_q.far (p := ⟨x, l, none⟩) (by simp; omega) (.int .i64 (b - 1))
        have bh' := b_h.far (p := ⟨x, l, none⟩) (by simp; omega) (.int .i64 (b - 1))
        rw [← hv6] at ow1' ow2' bx' br' bs' bq' bh'
        first | rw [← hv6] | skip
        clear ow1 ow2 b_x b_r b_s b_q b_h hbel hv6
        have ow1 := ow1'
        have ow2 := ow2'
        have b_x := bx'
        have b_r := br'
        have b_s := bs'
        have b_q := bq'
        have b_h := bh'
        have hbel := hb'
        clear ow1' ow2' bx' br' bs' bq' bh' hb'
        have e0 := b_x.at_ 0 rfl
        have e1 := b_x.at_ 1 rfl
        have c0 := b_q.at_ 0 rfl
        have c1 := b_q.at_ 1 rfl
        have d0 := b_h.at_ 0 rfl
        have d1 := b_h.at_ 1 rfl
        have cy := ow2.get (j := l) (by simp; omega)
        have cyf := ow2.thaw l
        go_upto_region 14 with fail
        clear cy cyf
        clear e0 e1 c0 c1 d0 d1
        obtain ⟨v7, hv7⟩ : ∃ V, V = v6.setCell ⟨y, l, none⟩ (.int .i64 (1)) := ⟨_, rfl⟩
        have ow2' := ow2.put l (1)
        have ow1' := ow1.setCell (p := ⟨y, l, none⟩) (by simp; omega) (.int .i64 (1))
        have hb' : Below w.heap.size w v7 := by rw [hv7]; exact hbel.setCell (p := ⟨y, l, none⟩) (by simp; omega) _
        have bx' := b_x.far (p := ⟨y, l, none⟩) (by simp; omega) (.int .i64 (1))
        have br' := b_r.far (p := ⟨y, l, none⟩) (by simp; omega) (.int .i64 (1))
        have bs' := b_s.far (p := ⟨y, l, none⟩) (by simp; omega) (.int .i64 (1))
        have bq' := b_q.far (p := ⟨y, l, none⟩) (by simp; omega) (.int .i64 (1))
        have bh' := b_h.far (p := ⟨y, l, none⟩) (by simp; omega) (.int .i64 (1))
        rw [← hv7] at ow2' ow1' bx' br' bs' bq' bh'
        first | rw [← hv7] | skip
        clear ow1 ow2 b_x b_r b_s b_q b_h hbel hv7
        have ow1 := ow1'
        have ow2 := ow2'
        have b_x := bx'
        have b_r := br'
        have b_s := bs'
        have b_q := bq'
        have b_h := bh'
        have hbel := hb'
        clear ow1' ow2' bx' br' bs' bq' bh' hb'
        have hda := HDA.out
        have hdb := HDB.out
        rw [← hda] at ow1
        rw [← hdb] at ow2
        clear hda hdb
        have hr1 := ow1.rd
        have hr2 := ow2.rd
        have e0 := b_x.at_ 0 rfl
        have e1 := b_x.at_ 1 rfl
        go_wp2_with fail
        obtain ⟨w1, hw1⟩ : ∃ V, V = v7.alloc (.cells #[.int .i64 k, .int .i64 (l : Int)] 42) := ⟨_, rfl⟩
        have b_f1 : Bx w1 v7.heap.size 42 #[.int .i64 k, .int .i64 (l : Int)] := by rw [hw1]; exact Bx.new _ _ _
        have hb : Below v7.heap.size v7 w1 := by rw [hw1]; exact (Below.refl _ _).alloc (Nat.le_refl _) _
        first | rw [← hw1] | skip
        clear hw1 e0 e1
        replace b_x := b_x.below hb
        replace b_r := b_r.below hb
        replace b_s := b_s.below hb
        replace ow1 := ow1.below hb
        replace b_q := b_q.below hb
        replace ow2 := ow2.below hb
        replace b_h := b_h.below hb
        replace hr1 := hr1.below hb
        replace hr2 := hr2.below hb
        replace hbel := hbel.trans (hb.mono hbel.size)
        clear hb
        refine (HSH.out q h x y C1 C2 v7.heap.size w1 hr1 hr2 (rdF_oneS b_f1) (b_q.at_ 0 rfl) (b_q.at_ 1 rfl) (b_h.at_ 0 rfl) (b_h.at_ 1 rfl)).mono ?_
        rintro e w2 ⟨sh, rfl, hb⟩
        clear b_f1
        replace b_x := b_x.below hb
        replace b_r := b_r.below hb
        replace b_s := b_s.below hb
        replace ow1 := ow1.below hb
        replace b_q := b_q.below hb
        replace ow2 := ow2.below hb
        replace b_h := b_h.below hb
        replace hr1 := hr1.below hb
        replace hr2 := hr2.below hb
        replace hbel := hbel.trans (hb.mono hbel.size)
        clear hb
        go_wp2_with fail
        refine (l02Ok_at0 q b (some ⟨x, 0, none⟩) C1 (wiA b m k l) w2 HO1.out hr1 (b_q.at_ 0 rfl) (by rw [wi_len]; exact b_q.at_ 1 rfl)).mono ?_
        rintro e w3 ⟨rfl, n3, hw3⟩
        have hb : Below w2.heap.size w2 w3 := by rw [hw3]; exact bel_drewN (Below.refl _ _) n3
        clear hw3
        replace b_x := b_x.below hb
        replace b_r := b_r.below hb
        replace b_s := b_s.below hb
        replace ow1 := ow1.below hb
        replace b_q := b_q.below hb
        replace ow2 := ow2.below hb
        replace b_h := b_h.below hb
        replace hr1 := hr1.below hb
        replace hr2 := hr2.below hb
        replace hbel := hbel.trans (hb.mono hbel.size)
        clear hb
        go_wp2_with fail
        refine (l02Ok_at0 h b (some ⟨y, 0, none⟩) C2 (wiB m k l) w3 HO2.out hr2 (b_h.at_ 0 rfl) (by rw [wiB_len]; exact b_h.at_ 1 rfl)).mono ?_
        rintro e w4 ⟨rfl, n4, hw4⟩
        have hb : Below w3.heap.size w3 w4 := by rw [hw4]; exact bel_drewN (Below.refl _ _) n4
        clear hw4
        replace b_x := b_x.below hb
        replace b_r := b_r.below hb
        replace b_s := b_s.below hb
        replace ow1 := ow1.below hb
        replace b_q := b_q.below hb
        replace ow2 := ow2.below hb
        replace b_h := b_h.below hb
        replace hr1 := hr1.below hb
        replace hr2 := hr2.below hb
        replace hbel := hbel.trans (hb.mono hbel.size)
        clear hb
        have r0 := b_r.at_ 0 rfl
        have r1 := b_r.at_ 1 rfl
        have f0 := b_r.thaw 0
        have f1 := b_r.thaw 1
        have t0 := b_s.at_ 0 rfl
        have t1 := b_s.at_ 1 rfl
        have g0 := b_s.thaw 0
        have g1 := b_s.thaw 1
        have hs := b_r.lt
        have hs2 := b_s.lt
        have hbs := hbel.size
        go_wp2
        exact bodyPost_ret (v := .tuple #[.agg #[.int .i64 0, .slice none 0 0], .agg #[.int .i64 0, .slice none 0 0], .int .i64 5]) (by simp [results, go_sem, r0, r1, t0, t1]) rfl
          (twoAny_err HR.out rfl (by repeat (first | with_reducible exact hbel | with_reducible refine Below.setCell ?_ (by first | omega | (simp <;> omega)) _ | with_reducible refine Below.alloc ?_ (by first | omega | (simp <;> omega)) _ | with_reducible refine Below.drew ?_)))
      | true =>
        have HR := Lib.hid (HR0.out.trans (if_pos (by unfold wiOk; rw [o2, o3, hO.1, hO.2]; rfl)))
        have HO2 := Lib.hid o3
        clear o1 o2 o3 hO hf
        go_enter Try.func18, Try.ntmps18
        go_upto_region 1 with fail
        obtain ⟨p, hp⟩ : ∃ g, g = w.heap.size := ⟨_, rfl⟩
        have hwp : w.heap.size ≤ p := Nat.le_of_eq hp.symm
        obtain ⟨u, hu⟩ : ∃ u, u = ((w.alloc (.cells #[.int .i64 k, .int .i64 (l : Int)] 42)).alloc (.cells #[.int .i64 0, .slice none 0 0] 31)).alloc (.cells #[.int .i64 0, .slice none 0 0] 31) := ⟨_, rfl⟩
        have b_x : Bx u p 42 #[.int .i64 k, .int .i64 (l : Int)] := by rw [hu, hp]; exact ((Bx.new _ _ _).alloc _).alloc _
        have b_r : Bx u (p + 1) 31 #[.int .i64 0, .slice none 0 0] := by rw [hu, hp]; simpa using (Bx.new (w.alloc (.cells #[.int .i64 k, .int .i64 (l : Int)] 42)) #[.int .i64 0, .slice none 0 0] 31).alloc _
        have b_s : Bx u (p + 1 + 1) 31 #[.int .i64 0, .slice none 0 0] := by rw [hu, hp]; simpa using Bx.new ((w.alloc (.cells #[.int .i64 k, .int .i64 (l : Int)] 42)).alloc (.cells #[.int .i64 0, .slice none 0 0] 31)) #[.int .i64 0, .slice none 0 0] 31
        have hb : Below w.heap.size w u := by rw [hu]; exact (by repeat (first | with_reducible exact Below.refl _ _ | with_reducible refine Below.setCell ?_ (by first | omega | (simp <;> omega)) _ | with_reducible refine Below.alloc ?_ (by first | omega | (simp <;> omega)) _ | with_reducible refine Below.drew ?_))
        have hus : u.heap.size = p + 1 + 1 + 1 := by rw [hu, hp]; simp
        rw [← hu, ← hp]
        clear hu hp
        replace hbel := hbel.trans (hb.mono hbel.size)
        clear hb
        go_wp2_with fail
        refine (HB.out u).mono ?_
        rintro e v ⟨rfl, hw⟩
        subst v
        have c0 := b_x.at_ 0 rfl
        have c1 := b_x.at_ 1 rfl
        go_wp2_with fail
        obtain ⟨v0, hv0⟩ : ∃ V, V = u.alloc (.cells #[.int .i64 k, .int .i64 (l : Int)] 42) := ⟨_, rfl⟩
        have b_f0 : Bx v0 u.heap.size 42 #[.int .i64 k, .int .i64 (l : Int)] := by rw [hv0]; exact Bx.new _ _ _
        have hb : Below u.heap.size u v0 := by rw [hv0]; exact (Below.refl _ _).alloc (Nat.le_refl _) _
        rw [← hv0]
        clear hv0 c0 c1
        first | rw [← hus] | skip
        refine (l08Ok_at (m : Int) (some ⟨u.heap.size, 0, none⟩) 1 [(k, (l : Int))] v0 HF.out (rdF_oneS b_f0)).mono ?_
        clear b_f0
        replace b_x := b_x.below hb
        replace b_r := b_r.below hb
        replace b_s := b_s.below hb
        replace hbel := hbel.trans (hb.mono hbel.size)
        clear hb
        rintro e v ⟨rfl, hb⟩
        replace b_x := b_x.below hb
        replace b_r := b_r.below hb
        replace b_s := b_s.below hb
        replace hbel := hbel.trans (hb.mono hbel.size)
        clear hb
        have hpv : p + 1 + 1 < v.heap.size := b_s.lt
        have hwv : w.heap.size ≤ v.heap.size := hbel.size
        go_wp2_with fail
        refine (HN.out v).mono ?_
        rintro e v2 ⟨A1, C1, rfl, ow1, hb⟩
        have hv2 := hb.size
        replace b_x := b_x.below hb
        replace b_r := b_r.below hb
        replace b_s := b_s.below hb
        replace hbel := hbel.trans (hb.mono hbel.size)
        clear hb
        obtain ⟨x, rfl⟩ := own_at0 ow1 (by omega)
        have hx2 := ow1.block
        go_upto_region 4 with fail
        obtain ⟨q, hq⟩ : ∃ g, g = v2.heap.size := ⟨_, rfl⟩
        have hk_q : v2.heap.size ≤ q := Nat.le_of_eq hq.symm
        obtain ⟨v3, hv3⟩ : ∃ V, V = v2.alloc (.cells #[.int .i64 b, .slice (some ⟨x, 0, none⟩) m C1] 31) := ⟨_, rfl⟩
        have b_q : Bx v3 q 31 #[.int .i64 b, .slice (some ⟨x, 0, none⟩) m C1] := by rw [hv3, hq]; exact Bx.new _ _ _
        have hb : Below v2.heap.size v2 v3 := by rw [hv3]; exact (Below.refl _ _).alloc (Nat.le_refl _) _
        rw [← hq, ← hv3]
        clear hv3 hq
        replace b_x := b_x.below hb
        replace b_r := b_r.below hb
        replace b_s := b_s.below hb
        replace ow1 := ow1.below hb
        replace hbel := hbel.trans (hb.mono hbel.size)
        clear hb
        have hq3 := b_q.lt
        go_wp2_with fail
        refine (HN.out v3).mono ?_
        rintro e v4 ⟨A2, C2, rfl, ow2, hb⟩
        have hv4 := hb.size
        replace b_x := b_x.below hb
        replace b_r := b_r.below hb
        replace b_s := b_s.below hb
        replace ow1 := ow1.below hb
        replace b_q := b_q.below hb
        replace hbel := hbel.trans (hb.mono hbel.size)
        clear hb
        obtain ⟨y, rfl⟩ := own_at0 ow2 (by omega)
        have hy2 := ow2.block
        go_upto_region 5 with fail
        obtain ⟨h, hh⟩ : ∃ g, g = v4.heap.size := ⟨_, rfl⟩
        have hk_h : v4.heap.size ≤ h := Nat.le_of_eq hh.symm
        obtain ⟨v5, hv5⟩ : ∃ V, V = v4.alloc (.cells #[.int .i64 b, .slice (some ⟨y, 0, none⟩) m C2] 31) := ⟨_, rfl⟩
        have b_h : Bx v5 h 31 #[.int .i64 b, .slice (some ⟨y, 0, none⟩) m C2] := by rw [hv5, hh]; exact Bx.new _ _ _
        have hb : Below v4.heap.size v4 v5 := by rw [hv5]; exact (Below.refl _ _).alloc (Nat.le_refl _) _
        rw [← hh, ← hv5]
        clear hv5 hh
        replace b_x := b_x.below hb
        replace b_r := b_r.below hb
        replace b_s := b_s.below hb
        replace ow1 := ow1.below hb
        replace b_q := b_q.below hb
        replace ow2 := ow2.below hb
        replace hbel := hbel.trans (hb.mono hbel.size)
        clear hb
        have hh5 := b_h.lt
        have hqx : x < q := by omega
        have hqy : q < y := by omega
        have hyh : y < h := by omega
        have hpx : p + 1 + 1 < x := by omega
        obtain ⟨z1, hz1⟩ : ∃ z, z = v2.heap.size := ⟨_, rfl⟩
        obtain ⟨z2, hz2⟩ : ∃ z, z = v4.heap.size := ⟨_, rfl⟩
        obtain ⟨z0, hz0⟩ : ∃ z, z = v.heap.size := ⟨_, rfl⟩
        obtain ⟨z3, hz3⟩ : ∃ z, z = v3.heap.size := ⟨_, rfl⟩
        rw [← hz0, ← hz1] at ow1
        rw [← hz3, ← hz2] at ow2
        have hz4 : z0 ≤ x ∧ x < z1 ∧ z1 ≤ q ∧ q < z3 ∧ z3 ≤ y ∧ y < z2 ∧ z2 ≤ h ∧ p + 1 + 1 < z0 ∧ w.heap.size ≤ z0 := by omega
        clear hz0 hz1 hz2 hz3 hv2 hv4 hq3 hx2 hy2
        have e0 := b_x.at_ 0 rfl
        have e1 := b_x.at_ 1 rfl
        have c0 := b_q.at_ 0 rfl
        have c1 := b_q.at_ 1 rfl
        have d0 := b_h.at_ 0 rfl
        have d1 := b_h.at_ 1 rfl
        have cx := ow1.get (j := l) (by simp; omega)
        have cxf := ow1.thaw l
        go_upto_region 7 with fail
        clear cx cxf
        clear e0 e1 c0 c1 d0 d1
        obtain ⟨v6, hv6⟩ : ∃ V, V = v5.setCell ⟨x, l, none⟩ (.int .i64 (b - 1)) := ⟨_, rfl⟩
        have ow1' := ow1.put l (b - 1)
        have ow2' := ow2.setCell (p := ⟨x, l, none⟩) (by simp; omega) (.int .i64 (b - 1))
        have hb' : Below w.heap.size w v6 := by rw [hv6]; exact hbel.setCell (p := ⟨x, l, none⟩) (by simp; omega) _
        have bx' := b_x.far (p := ⟨x, l, none⟩) (by simp; omega) (.int .i64 (b - 1))
        have br' := b_r.far (p := ⟨x, l, none⟩) (by simp; omega) (.int .i64 (b - 1))
        have bs' := b_s.far (p := ⟨x, l, none⟩) (by simp; omega) (.int .i64 (b - 1))
        have bq' := b_q.far (p := ⟨x, l, none⟩) (by simp; omega) (.int .i64 (b - 1))
        have bh' := b_h.far (p := ⟨x, l, none⟩) (by simp; omega) (.int .i64 (b - 1))
        rw [← hv6] at ow1' ow2' bx' br' bs' bq' bh'
        first | rw [← hv6] | skip
        clear ow1 ow2 b_x b_r b_s b_q b_h hbel hv6
        have ow1 := ow1'
        have ow2 := ow2'
        have b_x := bx'
        have b_r := br'
        have b_s := bs'
        have b_q := bq'
        have b_h := bh'
        have hbel := hb'
        clear ow1' ow2' bx' br' bs' bq' bh' hb'
        have e0 := b_x.at_ 0 rfl
        have e1 := b_x.at_ 1 rfl
        have c0 := b_q.at_ 0 rfl
        have c1 := b_q.at_ 1 rfl
        have d0 := b_h.at_ 0 rfl
        have d1 := b_h.at_ 1 rfl
        have cy := ow2.get (j := l) (by simp; omega)
        have cyf := ow2.thaw l
        go_upto_region 14 with fail
        clear cy cyf
        clear e0 e1 c0 c1 d0 d1
        obtain ⟨v7, hv7⟩ : ∃ V, V = v6.setCell ⟨y, l, none⟩ (.int .i64 (1)) := ⟨_, rfl⟩
        have ow2' := ow2.put l (1)
        have ow1' := ow1.setCell (p := ⟨y, l, none⟩) (by simp; omega) (.int .i64 (1))
        have hb' : Below w.heap.size w v7 := by rw [hv7]; exact hbel.setCell (p := ⟨y, l, none⟩) (by simp; omega) _
        have bx' := b_x.far (p := ⟨y, l, none⟩) (by simp; omega) (.int .i64 (1))
        have br' := b_r.far (p := ⟨y, l, none⟩) (by simp; omega) (.int .i64 (1))
        have bs' := b_s.far (p := ⟨y, l, none⟩) (by simp; omega) (.int .i64 (1))
        have bq' := b_q.far (p := ⟨y, l, none⟩) (by simp; omega) (.int .i64 (1))
        have bh' := b_h.far (p := ⟨y, l, none⟩) (by simp; omega) (.int .i64 (1))
        rw [← hv7] at ow2' ow1' bx' br' bs' bq' bh'
        first | rw [← hv7] | skip
        clear ow1 ow2 b_x b_r b_s b_q b_h hbel hv7
        have ow1 := ow1'
        have ow2 := ow2'
        have b_x := bx'
        have b_r := br'
        have b_s := bs'
        have b_q := bq'
        have b_h := bh'
        have hbel := hb'
        clear ow1' ow2' bx' br' bs' bq' bh' hb'
        have hda := HDA.out
        have hdb := HDB.out
        rw [← hda] at ow1
        rw [← hdb] at ow2
        clear hda hdb
        have hr1 := ow1.rd
        have hr2 := ow2.rd
        have e0 := b_x.at_ 0 rfl
        have e1 := b_x.at_ 1 rfl
        go_wp2_with fail
        obtain ⟨w1, hw1⟩ : ∃ V, V = v7.alloc (.cells #[.int .i64 k, .int .i64 (l : Int)] 42) := ⟨_, rfl⟩
        have b_f1 : Bx w1 v7.heap.size 42 #[.int .i64 k, .int .i64 (l : Int)] := by rw [hw1]; exact Bx.new _ _ _
        have hb : Below v7.heap.size v7 w1 := by rw [hw1]; exact (Below.refl _ _).alloc (Nat.le_refl _) _
        first | rw [← hw1] | skip
        clear hw1 e0 e1
        replace b_x := b_x.below hb
        replace b_r := b_r.below hb
        replace b_s := b_s.below hb
        replace ow1 := ow1.below hb
        replace b_q := b_q.below hb
        replace ow2 := ow2.below hb
        replace b_h := b_h.below hb
        replace hr1 := hr1.below hb
        replace hr2 := hr2.below hb
        replace hbel := hbel.trans (hb.mono hbel.size)
        clear hb
        refine (HSH.out q h x y C1 C2 v7.heap.size w1 hr1 hr2 (rdF_oneS b_f1) (b_q.at_ 0 rfl) (b_q.at_ 1 rfl) (b_h.at_ 0 rfl) (b_h.at_ 1 rfl)).mono ?_
        rintro e w2 ⟨sh, rfl, hb⟩
        clear b_f1
        replace b_x := b_x.below hb
        replace b_r := b_r.below hb
        replace b_s := b_s.below hb
        replace ow1 := ow1.below hb
        replace b_q := b_q.below hb
        replace ow2 := ow2.below hb
        replace b_h := b_h.below hb
        replace hr1 := hr1.below hb
        replace hr2 := hr2.below hb
        replace hbel := hbel.trans (hb.mono hbel.size)
        clear hb
        go_wp2_with fail
        refine (l02Ok_at0 q b (some ⟨x, 0, none⟩) C1 (wiA b m k l) w2 HO1.out hr1 (b_q.at_ 0 rfl) (by rw [wi_len]; exact b_q.at_ 1 rfl)).mono ?_
        rintro e w3 ⟨rfl, n3, hw3⟩
        have hb : Below w2.heap.size w2 w3 := by rw [hw3]; exact bel_drewN (Below.refl _ _) n3
        clear hw3
        replace b_x := b_x.below hb
        replace b_r := b_r.below hb
        replace b_s := b_s.below hb
        replace ow1 := ow1.below hb
        replace b_q := b_q.below hb
        replace ow2 := ow2.below hb
        replace b_h := b_h.below hb
        replace hr1 := hr1.below hb
        replace hr2 := hr2.below hb
        replace hbel := hbel.trans (hb.mono hbel.size)
        clear hb
        go_wp2_with fail
        refine (l02Ok_at0 h b (some ⟨y, 0, none⟩) C2 (wiB m k l) w3 HO2.out hr2 (b_h.at_ 0 rfl) (by rw [wiB_len]; exact b_h.at_ 1 rfl)).mono ?_
        rintro e w4 ⟨rfl, n4, hw4⟩
        have hb : Below w3.heap.size w3 w4 := by rw [hw4]; exact bel_drewN (Below.refl _ _) n4
        clear hw4
        replace b_x := b_x.below hb
        replace b_r := b_r.below hb
        replace b_s := b_s.below hb
        replace ow1 := ow1.below hb
        replace b_q := b_q.below hb
        replace ow2 := ow2.below hb
        replace b_h := b_h.below hb
        replace hr1 := hr1.below hb
        replace hr2 := hr2.below hb
        replace hbel := hbel.trans (hb.mono hbel.size)
        clear hb
        have hh8 := b_h.lt
        go_upto_region 17 with fail
        have s0 : ∀ w', (Bx w' q 31 #[.int .i64 b, .slice (some ⟨x, 0, none⟩) m C1] ∧ Bx w' h 31 #[.int .i64 b, .slice (some ⟨y, 0, none⟩) m C2]) → w'.cell? ⟨q, 0, none⟩ = some (.int .i64 b) := fun _ h => h.1.at_ 0 rfl
        have s1 : ∀ w', (Bx w' q 31 #[.int .i64 b, .slice (some ⟨x, 0, none⟩) m C1] ∧ Bx w' h 31 #[.int .i64 b, .slice (some ⟨y, 0, none⟩) m C2]) → w'.cell? ⟨q, 1, none⟩ = some (.slice (some ⟨x, 0, none⟩) m C1) := fun _ h => h.1.at_ 1 rfl
        have s2 : ∀ w', (Bx w' q 31 #[.int .i64 b, .slice (some ⟨x, 0, none⟩) m C1] ∧ Bx w' h 31 #[.int .i64 b, .slice (some ⟨y, 0, none⟩) m C2]) → w'.cell? ⟨h, 0, none⟩ = some (.int .i64 b) := fun _ h => h.2.at_ 0 rfl
        have s3 : ∀ w', (Bx w' q 31 #[.int .i64 b, .slice (some ⟨x, 0, none⟩) m C1] ∧ Bx w' h 31 #[.int .i64 b, .slice (some ⟨y, 0, none⟩) m C2]) → w'.cell? ⟨h, 1, none⟩ = some (.slice (some ⟨y, 0, none⟩) m C2) := fun _ h => h.2.at_ 1 rfl
        have hS : Bx w4.drew q 31 #[.int .i64 b, .slice (some ⟨x, 0, none⟩) m C1] ∧ Bx w4.drew h 31 #[.int .i64 b, .slice (some ⟨y, 0, none⟩) m C2] := ⟨b_q.drew, b_h.drew⟩
        refine wp_region_marked (fun w' => Bx w' q 31 #[.int .i64 b, .slice (some ⟨x, 0, none⟩) m C1] ∧ Bx w' h 31 #[.int .i64 b, .slice (some ⟨y, 0, none⟩) m C2]) 4 (by kernel_rfl) ?_
        refine wpAnyM_take (i := 0) (v := ?_) rfl (by kernel_rfl) (by kernel_rfl) (by kernel_rfl) (by kernel_rfl) (by kernel_rfl) (fun _ _ _ h => h) hS (.inl ⟨by rfl, ?_⟩) ?_
        rotate_left 1
        · intro w' hS'; go_simp; try with_reducible rfl
        simp only [Act.put, List.setIfInBounds_toArray, List.set_cons_succ, List.set_cons_zero, List.getElem_toArray, List.getElem_cons_zero]
        refine wpAnyM_take (i := 1) (v := ?_) rfl (by kernel_rfl) (by kernel_rfl) (by kernel_rfl) (by kernel_rfl) (by kernel_rfl) (fun _ _ _ h => h) hS (.inl ⟨by rfl, ?_⟩) ?_
        rotate_left 1
        · intro w' hS'; go_simp; try with_reducible rfl
        simp only [Act.put, List.setIfInBounds_toArray, List.set_cons_succ, List.set_cons_zero, List.getElem_toArray, List.getElem_cons_succ, List.getElem_cons_zero]
        have r0 := b_r.at_ 0 rfl
        have r1 := b_r.at_ 1 rfl
        have f0 := b_r.thaw 0
        have f1 := b_r.thaw 1
        have t0 := b_s.at_ 0 rfl
        have t1 := b_s.at_ 1 rfl
        have g0 := b_s.thaw 0
        have g1 := b_s.thaw 1
        have hs := b_r.lt
        have hs2 := b_s.lt
        have hbs := hbel.size
        have n1 : q ≠ p + 1 := by omega
        have n2 : h ≠ p + 1 := by omega
        have n3 : q ≠ p + 1 + 1 := by omega
        have n4 : h ≠ p + 1 + 1 := by omega
        refine wpAnyM_one (i := 2) (by kernel_rfl) rfl (by rfl) (fun K hK => ?_)
        go_simp
        replace hS := And.intro ((hS.1.far (p := ⟨p + 1, 0, none⟩) n1 (.int .i64 b)).far (p := ⟨p + 1, 1, none⟩) n1 (.slice (some ⟨x, 0, none⟩) m C1)) ((hS.2.far (p := ⟨p + 1, 0, none⟩) n2 (.int .i64 b)).far (p := ⟨p + 1, 1, none⟩) n2 (.slice (some ⟨x, 0, none⟩) m C1))
        refine hK _ _ (.inr hS) ?_
        try simp only [Act.put, List.setIfInBounds_toArray, List.set_cons_succ, List.set_cons_zero, List.getElem_toArray, List.getElem_cons_succ, List.getElem_cons_zero]
        clear hK K
        refine wpAnyM_one (i := 3) (by kernel_rfl) rfl (by rfl) (fun K hK => ?_)
        go_simp
        replace hS := And.intro ((hS.1.far (p := ⟨p + 1 + 1, 0, none⟩) n3 (.int .i64 b)).far (p := ⟨p + 1 + 1, 1, none⟩) n3 (.slice (some ⟨y, 0, none⟩) m C2)) ((hS.2.far (p := ⟨p + 1 + 1, 0, none⟩) n4 (.int .i64 b)).far (p := ⟨p + 1 + 1, 1, none⟩) n4 (.slice (some ⟨y, 0, none⟩) m C2))
        refine hK _ _ (.inr hS) ?_
        try simp only [Act.put, List.setIfInBounds_toArray, List.set_cons_succ, List.set_cons_zero, List.getElem_toArray, List.getElem_cons_succ, List.getElem_cons_zero]
        clear hK K
        refine wpAnyM_one (i := 4) (by kernel_rfl) rfl (by rfl) (fun K hK => ?_)
        go_simp
        refine hK _ _ (.inl rfl) ?_
        clear hK K
        refine wpAnyM_done (by kernel_rfl) ?_ _
        try simp only [Act.put, List.setIfInBounds_toArray, List.set_cons_succ, List.set_cons_zero, List.getElem_toArray, List.getElem_cons_succ, List.getElem_cons_zero]
        go_wp2
        have own1 := (((ow1.setCell (p := ⟨p + 1, 0, none⟩) (.inl (by simp; omega)) (.int .i64 b)).setCell (p := ⟨p + 1, 1, none⟩) (.inl (by simp; omega)) (.slice (some ⟨x, 0, none⟩) m C1)).setCell (p := ⟨p + 1 + 1, 0, none⟩) (.inl (by simp; omega)) (.int .i64 b)).setCell (p := ⟨p + 1 + 1, 1, none⟩) (.inl (by simp; omega)) (.slice (some ⟨y, 0, none⟩) m C2)
        have own2 := (((ow2.setCell (p := ⟨p + 1, 0, none⟩) (.inl (by simp; omega)) (.int .i64 b)).setCell (p := ⟨p + 1, 1, none⟩) (.inl (by simp; omega)) (.slice (some ⟨x, 0, none⟩) m C1)).setCell (p := ⟨p + 1 + 1, 0, none⟩) (.inl (by simp; omega)) (.int .i64 b)).setCell (p := ⟨p + 1 + 1, 1, none⟩) (.inl (by simp; omega)) (.slice (some ⟨y, 0, none⟩) m C2)
        have hlast : Below w.heap.size w _ := (((hbel.drew.setCell (p := ⟨p + 1, 0, none⟩) (by simp; omega) (.int .i64 b)).setCell (p := ⟨p + 1, 1, none⟩) (by simp; omega) (.slice (some ⟨x, 0, none⟩) m C1)).setCell (p := ⟨p + 1 + 1, 0, none⟩) (by simp; omega) (.int .i64 b)).setCell (p := ⟨p + 1 + 1, 1, none⟩) (by simp; omega) (.slice (some ⟨y, 0, none⟩) m C2)
        have hz8 := hlast.size
        exact bodyPost_ret (v := .tuple #[.agg #[.int .i64 b, .slice (some ⟨x, 0, none⟩) m C1], .agg #[.int .i64 b, .slice (some ⟨y, 0, none⟩) m C2], .int .i64 0]) (by simp [results, go_sem, r0, r1, t0, t1]) rfl
          (twoAny_ok HR.out (wi_len b m k l) (wiB_len m k l) rfl own1.drew own2.drew (by omega) (by omega) (by simp; omega) (by simp; omega) (by omega) hlast)

set_option maxRecDepth 100000 in
set_option maxHeartbeats 16000000 in
theorem witnessS_two (b : Int) (m l : Nat) (k : Int)
    (w : World) (_ : I64 b) (h1 : 2 ≤ b) (h2 : b ≤ 16) (hm0 : 1 ≤ m) (hm : m ≤ 16) (hl : l < m) (hf : faultsB (m : Int) [(k, (l : Int))] = true) (HR0 : Hid (wiR b (m : Int) (k, (l : Int)) = if wiOk b m k l = true then (b, wiA b m k l, b, wiB m k l, 0) else (0, [], 0, [], 5))) (hk : k = 2) :
    Calls Try.prog 18 #[.int .i64 b, .int .i64 m, .agg #[.int .i64 k, .int .i64 (l : Int)]] w (TwoAny (wiR b m (k, (l : Int))) w) := by
  have R := Try.results18
  have hbel : Below w.heap.size w w := Below.refl _ _
  have HB := Lib.hid (l02Base_any b)
  rw [show baseB b = true by simp [baseB, h1, h2]] at HB
  have HF := Lib.hid hf
  have HN := Lib.hid (fun w => specl02New_any b 0 m w h1 h2 hm (Int.le_refl _) (by omega))
  rw [digs_zero (by omega)] at HN
  have HSH := Lib.hid (fun (q h x y C D G : Nat) (v : World) (ha : Rd v (some ⟨x, 0, none⟩) (wiA b m k l)) (hc : Rd v (some ⟨y, 0, none⟩) (wiB m k l)) (hf2 : RdF pairF v (some ⟨G, 0, none⟩) [(k, (l : Int))]) (q0 : v.cell? ⟨q, 0, none⟩ = some (.int .i64 b)) (q1 : v.cell? ⟨q, 1, none⟩ = some (.slice (some ⟨x, 0, none⟩) m C)) (p0 : v.cell? ⟨h, 0, none⟩ = some (.int .i64 b)) (p1 : v.cell? ⟨h, 1, none⟩ = some (.slice (some ⟨y, 0, none⟩) m D)) => shows_at q h x y C D G v h1 h2 hm hl hf ha hc hf2 q0 q1 p0 p1)
  have tk : (k == 1) = false := by simp [hk]
  have tk3 : (k == 3) = false := by simp [hk]
  have HDA := Lib.hid (show wiA b m k l = List.replicate m 0 by simp [wiA, hk])
  have HDB := Lib.hid (show wiB m k l = List.replicate m 0 by simp [wiB, hk])
  clear hk
  cases o1 : okB b (tab (levD b (wiA b m k l) (wiB m k l) (kds [(k, (l : Int))])) m) && okB b (tab (sumD b (wiA b m k l) (wiB m k l)) m) with
  | false =>
    have HR := Lib.hid (HR0.out.trans (if_neg (by unfold wiOk; intro hh; simp only [Bool.and_eq_true] at hh; rw [hh.1.2, hh.2] at o1; cases o1)))
    rw [o1] at HSH
    clear o1 hf
    go_enter Try.func18, Try.ntmps18
    go_upto_region 1 with fail
    obtain ⟨p, hp⟩ : ∃ g, g = w.heap.size := ⟨_, rfl⟩
    have hwp : w.heap.size ≤ p := Nat.le_of_eq hp.symm
    obtain ⟨u, hu⟩ : ∃ u, u = ((w.alloc (.cells #[.int .i64 k, .int .i64 (l : Int)] 42)).alloc (.cells #[.int .i64 0, .slice none 0 0] 31)).alloc (.cells #[.int .i64 0, .slice none 0 0] 31) := ⟨_, rfl⟩
    have b_x : Bx u p 42 #[.int .i64 k, .int .i64 (l : Int)] := by rw [hu, hp]; exact ((Bx.new _ _ _).alloc _).alloc _
    have b_r : Bx u (p + 1) 31 #[.int .i64 0, .slice none 0 0] := by rw [hu, hp]; simpa using (Bx.new (w.alloc (.cells #[.int .i64 k, .int .i64 (l : Int)] 42)) #[.int .i64 0, .slice none 0 0] 31).alloc _
    have b_s : Bx u (p + 1 + 1) 31 #[.int .i64 0, .slice none 0 0] := by rw [hu, hp]; simpa using Bx.new ((w.alloc (.cells #[.int .i64 k, .int .i64 (l : Int)] 42)).alloc (.cells #[.int .i64 0, .slice none 0 0] 31)) #[.int .i64 0, .slice none 0 0] 31
    have hb : Below w.heap.size w u := by rw [hu]; exact (by repeat (first | with_reducible exact Below.refl _ _ | with_reducible refine Below.setCell ?_ (by first | omega | (simp <;> omega)) _ | with_reducible refine Below.alloc ?_ (by first | omega | (simp <;> omega)) _ | with_reducible refine Below.drew ?_))
    have hus : u.heap.size = p + 1 + 1 + 1 := by rw [hu, hp]; simp
    rw [← hu, ← hp]
    clear hu hp
    replace hbel := hbel.trans (hb.mono hbel.size)
    clear hb
    go_wp2_with fail
    refine (HB.out u).mono ?_
    rintro e v ⟨rfl, hw⟩
    subst v
    have c0 := b_x.at_ 0 rfl
    have c1 := b_x.at_ 1 rfl
    go_wp2_with fail
    obtain ⟨v0, hv0⟩ : ∃ V, V = u.alloc (.cells #[.int .i64 k, .int .i64 (l : Int)] 42) := ⟨_, rfl⟩
    have b_f0 : Bx v0 u.heap.size 42 #[.int .i64 k, .int .i64 (l : Int)] := by rw [hv0]; exact Bx.new _ _ _
    have hb : Below u.heap.size u v0 := by rw [hv0]; exact (Below.refl _ _).alloc (Nat.le_refl _) _
    rw [← hv0]
    clear hv0 c0 c1
    first | rw [← hus] | skip
    refine (l08Ok_at (m : Int) (some ⟨u.heap.size, 0, none⟩) 1 [(k, (l : Int))] v0 HF.out (rdF_oneS b_f0)).mono ?_
    clear b_f0
    replace b_x := b_x.below hb
    replace b_r := b_r.below hb
    replace b_s := b_s.below hb
    replace hbel := hbel.trans (hb.mono hbel.size)
    clear hb
    rintro e v ⟨rfl, hb⟩
    replace b_x := b_x.below hb
    replace b_r := b_r.below hb
    replace b_s := b_s.below hb
    replace hbel := hbel.trans (hb.mono hbel.size)
    clear hb
    have hpv : p + 1 + 1 < v.heap.size := b_s.lt
    have hwv : w.heap.size ≤ v.heap.size := hbel.size
    go_wp2_with fail
    refine (HN.out v).mono ?_
    rintro e v2 ⟨A1, C1, rfl, ow1, hb⟩
    have hv2 := hb.size
    replace b_x := b_x.below hb
    replace b_r := b_r.below hb
    replace b_s := b_s.below hb
    replace hbel := hbel.trans (hb.mono hbel.size)
    clear hb
    obtain ⟨x, rfl⟩ := own_at0 ow1 (by omega)
    have hx2 := ow1.block
    go_upto_region 4 with fail
    obtain ⟨q, hq⟩ : ∃ g, g = v2.heap.size := ⟨_, rfl⟩
    have hk_q : v2.heap.size ≤ q := Nat.le_of_eq hq.symm
    obtain ⟨v3, hv3⟩ : ∃ V, V = v2.alloc (.cells #[.int .i64 b, .slice (some ⟨x, 0, none⟩) m C1] 31) := ⟨_, rfl⟩
    have b_q : Bx v3 q 31 #[.int .i64 b, .slice (some ⟨x, 0, none⟩) m C1] := by rw [hv3, hq]; exact Bx.new _ _ _
    have hb : Below v2.heap.size v2 v3 := by rw [hv3]; exact (Below.refl _ _).alloc (Nat.le_refl _) _
    rw [← hq, ← hv3]
    clear hv3 hq
    replace b_x := b_x.below hb
    replace b_r := b_r.below hb
    replace b_s := b_s.below hb
    replace ow1 := ow1.below hb
    replace hbel := hbel.trans (hb.mono hbel.size)
    clear hb
    have hq3 := b_q.lt
    go_wp2_with fail
    refine (HN.out v3).mono ?_
    rintro e v4 ⟨A2, C2, rfl, ow2, hb⟩
    have hv4 := hb.size
    replace b_x := b_x.below hb
    replace b_r := b_r.below hb
    replace b_s := b_s.below hb
    replace ow1 := ow1.below hb
    replace b_q := b_q.below hb
    replace hbel := hbel.trans (hb.mono hbel.size)
    clear hb
    obtain ⟨y, rfl⟩ := own_at0 ow2 (by omega)
    have hy2 := ow2.block
    go_upto_region 5 with fail
    obtain ⟨h, hh⟩ : ∃ g, g = v4.heap.size := ⟨_, rfl⟩
    have hk_h : v4.heap.size ≤ h := Nat.le_of_eq hh.symm
    obtain ⟨v5, hv5⟩ : ∃ V, V = v4.alloc (.cells #[.int .i64 b, .slice (some ⟨y, 0, none⟩) m C2] 31) := ⟨_, rfl⟩
    have b_h : Bx v5 h 31 #[.int .i64 b, .slice (some ⟨y, 0, none⟩) m C2] := by rw [hv5, hh]; exact Bx.new _ _ _
    have hb : Below v4.heap.size v4 v5 := by rw [hv5]; exact (Below.refl _ _).alloc (Nat.le_refl _) _
    rw [← hh, ← hv5]
    clear hv5 hh
    replace b_x := b_x.below hb
    replace b_r := b_r.below hb
    replace b_s := b_s.below hb
    replace ow1 := ow1.below hb
    replace b_q := b_q.below hb
    replace ow2 := ow2.below hb
    replace hbel := hbel.trans (hb.mono hbel.size)
    clear hb
    have hh5 := b_h.lt
    have hqx : x < q := by omega
    have hqy : q < y := by omega
    have hyh : y < h := by omega
    have hpx : p + 1 + 1 < x := by omega
    obtain ⟨z1, hz1⟩ : ∃ z, z = v2.heap.size := ⟨_, rfl⟩
    obtain ⟨z2, hz2⟩ : ∃ z, z = v4.heap.size := ⟨_, rfl⟩
    obtain ⟨z0, hz0⟩ : ∃ z, z = v.heap.size := ⟨_, rfl⟩
    obtain ⟨z3, hz3⟩ : ∃ z, z = v3.heap.size := ⟨_, rfl⟩
    rw [← hz0, ← hz1] at ow1
    rw [← hz3, ← hz2] at ow2
    have hz4 : z0 ≤ x ∧ x < z1 ∧ z1 ≤ q ∧ q < z3 ∧ z3 ≤ y ∧ y < z2 ∧ z2 ≤ h ∧ p + 1 + 1 < z0 ∧ w.heap.size ≤ z0 := by omega
    clear hz0 hz1 hz2 hz3 hv2 hv4 hq3 hx2 hy2
    have e0 := b_x.at_ 0 rfl
    have e1 := b_x.at_ 1 rfl
    have c0 := b_q.at_ 0 rfl
    have c1 := b_q.at_ 1 rfl
    have d0 := b_h.at_ 0 rfl
    have d1 := b_h.at_ 1 rfl
    go_upto_region 14 with fail
    clear e0 e1 c0 c1 d0 d1
    have hda := HDA.out
    have hdb := HDB.out
    rw [← hda] at ow1
    rw [← hdb] at ow2
    clear hda hdb
    have hr1 := ow1.rd
    have hr2 := ow2.rd
    have e0 := b_x.at_ 0 rfl
    have e1 := b_x.at_ 1 rfl
    go_wp2_with fail
    obtain ⟨w1, hw1⟩ : ∃ V, V = v5.alloc (.cells #[.int .i64 k, .int .i64 (l : Int)] 42) := ⟨_, rfl⟩
    have b_f1 : Bx w1 v5.heap.size 42 #[.int .i64 k, .int .i64 (l : Int)] := by rw [hw1]; exact Bx.new _ _ _
    have hb : Below v5.heap.size v5 w1 := by rw [hw1]; exact (Below.refl _ _).alloc (Nat.le_refl _) _
    first | rw [← hw1] | skip
    clear hw1 e0 e1
    replace b_x := b_x.below hb
    replace b_r := b_r.below hb
    replace b_s := b_s.below hb
    replace ow1 := ow1.below hb
    replace b_q := b_q.below hb
    replace ow2 := ow2.below hb
    replace b_h := b_h.below hb
    replace hr1 := hr1.below hb
    replace hr2 := hr2.below hb
    replace hbel := hbel.trans (hb.mono hbel.size)
    clear hb
    refine (HSH.out q h x y C1 C2 v5.heap.size w1 hr1 hr2 (rdF_oneS b_f1) (b_q.at_ 0 rfl) (b_q.at_ 1 rfl) (b_h.at_ 0 rfl) (b_h.at_ 1 rfl)).mono ?_
    rintro e w2 ⟨sh, rfl, hb⟩
    clear b_f1
    replace b_x := b_x.below hb
    replace b_r := b_r.below hb
    replace b_s := b_s.below hb
    replace ow1 := ow1.below hb
    replace b_q := b_q.below hb
    replace ow2 := ow2.below hb
    replace b_h := b_h.below hb
    replace hr1 := hr1.below hb
    replace hr2 := hr2.below hb
    replace hbel := hbel.trans (hb.mono hbel.size)
    clear hb
    have r0 := b_r.at_ 0 rfl
    have r1 := b_r.at_ 1 rfl
    have f0 := b_r.thaw 0
    have f1 := b_r.thaw 1
    have t0 := b_s.at_ 0 rfl
    have t1 := b_s.at_ 1 rfl
    have g0 := b_s.thaw 0
    have g1 := b_s.thaw 1
    have hs := b_r.lt
    have hs2 := b_s.lt
    have hbs := hbel.size
    go_wp2
    exact bodyPost_ret (v := .tuple #[.agg #[.int .i64 0, .slice none 0 0], .agg #[.int .i64 0, .slice none 0 0], .int .i64 5]) (by simp [results, go_sem, r0, r1, t0, t1]) rfl
      (twoAny_err HR.out rfl (by repeat (first | with_reducible exact hbel | with_reducible refine Below.setCell ?_ (by first | omega | (simp <;> omega)) _ | with_reducible refine Below.alloc ?_ (by first | omega | (simp <;> omega)) _ | with_reducible refine Below.drew ?_)))
  | true =>
    have hO := o1
    simp only [Bool.and_eq_true] at hO
    rw [o1] at HSH
    cases o2 : okB b (wiA b m k l) with
    | false =>
      have HR := Lib.hid (HR0.out.trans (if_neg (by unfold wiOk; rw [o2]; simp)))
      have HO1 := Lib.hid o2
      clear o1 o2 hO hf
      go_enter Try.func18, Try.ntmps18
      go_upto_region 1 with fail
      obtain ⟨p, hp⟩ : ∃ g, g = w.heap.size := ⟨_, rfl⟩
      have hwp : w.heap.size ≤ p := Nat.le_of_eq hp.symm
      obtain ⟨u, hu⟩ : ∃ u, u = ((w.alloc (.cells #[.int .i64 k, .int .i64 (l : Int)] 42)).alloc (.cells #[.int .i64 0, .slice none 0 0] 31)).alloc (.cells #[.int .i64 0, .slice none 0 0] 31) := ⟨_, rfl⟩
      have b_x : Bx u p 42 #[.int .i64 k, .int .i64 (l : Int)] := by rw [hu, hp]; exact ((Bx.new _ _ _).alloc _).alloc _
      have b_r : Bx u (p + 1) 31 #[.int .i64 0, .slice none 0 0] := by rw [hu, hp]; simpa using (Bx.new (w.alloc (.cells #[.int .i64 k, .int .i64 (l : Int)] 42)) #[.int .i64 0, .slice none 0 0] 31).alloc _
      have b_s : Bx u (p + 1 + 1) 31 #[.int .i64 0, .slice none 0 0] := by rw [hu, hp]; simpa using Bx.new ((w.alloc (.cells #[.int .i64 k, .int .i64 (l : Int)] 42)).alloc (.cells #[.int .i64 0, .slice none 0 0] 31)) #[.int .i64 0, .slice none 0 0] 31
      have hb : Below w.heap.size w u := by rw [hu]; exact (by repeat (first | with_reducible exact Below.refl _ _ | with_reducible refine Below.setCell ?_ (by first | omega | (simp <;> omega)) _ | with_reducible refine Below.alloc ?_ (by first | omega | (simp <;> omega)) _ | with_reducible refine Below.drew ?_))
      have hus : u.heap.size = p + 1 + 1 + 1 := by rw [hu, hp]; simp
      rw [← hu, ← hp]
      clear hu hp
      replace hbel := hbel.trans (hb.mono hbel.size)
      clear hb
      go_wp2_with fail
      refine (HB.out u).mono ?_
      rintro e v ⟨rfl, hw⟩
      subst v
      have c0 := b_x.at_ 0 rfl
      have c1 := b_x.at_ 1 rfl
      go_wp2_with fail
      obtain ⟨v0, hv0⟩ : ∃ V, V = u.alloc (.cells #[.int .i64 k, .int .i64 (l : Int)] 42) := ⟨_, rfl⟩
      have b_f0 : Bx v0 u.heap.size 42 #[.int .i64 k, .int .i64 (l : Int)] := by rw [hv0]; exact Bx.new _ _ _
      have hb : Below u.heap.size u v0 := by rw [hv0]; exact (Below.refl _ _).alloc (Nat.le_refl _) _
      rw [← hv0]
      clear hv0 c0 c1
      first | rw [← hus] | skip
      refine (l08Ok_at (m : Int) (some ⟨u.heap.size, 0, none⟩) 1 [(k, (l : Int))] v0 HF.out (rdF_oneS b_f0)).mono ?_
      clear b_f0
      replace b_x := b_x.below hb
      replace b_r := b_r.below hb
      replace b_s := b_s.below hb
      replace hbel := hbel.trans (hb.mono hbel.size)
      clear hb
      rintro e v ⟨rfl, hb⟩
      replace b_x := b_x.below hb
      replace b_r := b_r.below hb
      replace b_s := b_s.below hb
      replace hbel := hbel.trans (hb.mono hbel.size)
      clear hb
      have hpv : p + 1 + 1 < v.heap.size := b_s.lt
      have hwv : w.heap.size ≤ v.heap.size := hbel.size
      go_wp2_with fail
      refine (HN.out v).mono ?_
      rintro e v2 ⟨A1, C1, rfl, ow1, hb⟩
      have hv2 := hb.size
      replace b_x := b_x.below hb
      replace b_r := b_r.below hb
      replace b_s := b_s.below hb
      replace hbel := hbel.trans (hb.mono hbel.size)
      clear hb
      obtain ⟨x, rfl⟩ := own_at0 ow1 (by omega)
      have hx2 := ow1.block
      go_upto_region 4 with fail
      obtain ⟨q, hq⟩ : ∃ g, g = v2.heap.size := ⟨_, rfl⟩
      have hk_q : v2.heap.size ≤ q := Nat.le_of_eq hq.symm
      obtain ⟨v3, hv3⟩ : ∃ V, V = v2.alloc (.cells #[.int .i64 b, .slice (some ⟨x, 0, none⟩) m C1] 31) := ⟨_, rfl⟩
      have b_q : Bx v3 q 31 #[.int .i64 b, .slice (some ⟨x, 0, none⟩) m C1] := by rw [hv3, hq]; exact Bx.new _ _ _
      have hb : Below v2.heap.size v2 v3 := by rw [hv3]; exact (Below.refl _ _).alloc (Nat.le_refl _) _
      rw [← hq, ← hv3]
      clear hv3 hq
      replace b_x := b_x.below hb
      replace b_r := b_r.below hb
      replace b_s := b_s.below hb
      replace ow1 := ow1.below hb
      replace hbel := hbel.trans (hb.mono hbel.size)
      clear hb
      have hq3 := b_q.lt
      go_wp2_with fail
      refine (HN.out v3).mono ?_
      rintro e v4 ⟨A2, C2, rfl, ow2, hb⟩
      have hv4 := hb.size
      replace b_x := b_x.below hb
      replace b_r := b_r.below hb
      replace b_s := b_s.below hb
      replace ow1 := ow1.below hb
      replace b_q := b_q.below hb
      replace hbel := hbel.trans (hb.mono hbel.size)
      clear hb
      obtain ⟨y, rfl⟩ := own_at0 ow2 (by omega)
      have hy2 := ow2.block
      go_upto_region 5 with fail
      obtain ⟨h, hh⟩ : ∃ g, g = v4.heap.size := ⟨_, rfl⟩
      have hk_h : v4.heap.size ≤ h := Nat.le_of_eq hh.symm
      obtain ⟨v5, hv5⟩ : ∃ V, V = v4.alloc (.cells #[.int .i64 b, .slice (some ⟨y, 0, none⟩) m C2] 31) := ⟨_, rfl⟩
      have b_h : Bx v5 h 31 #[.int .i64 b, .slice (some ⟨y, 0, none⟩) m C2] := by rw [hv5, hh]; exact Bx.new _ _ _
      have hb : Below v4.heap.size v4 v5 := by rw [hv5]; exact (Below.refl _ _).alloc (Nat.le_refl _) _
      rw [← hh, ← hv5]
      clear hv5 hh
      replace b_x := b_x.below hb
      replace b_r := b_r.below hb
      replace b_s := b_s.below hb
      replace ow1 := ow1.below hb
      replace b_q := b_q.below hb
      replace ow2 := ow2.below hb
      replace hbel := hbel.trans (hb.mono hbel.size)
      clear hb
      have hh5 := b_h.lt
      have hqx : x < q := by omega
      have hqy : q < y := by omega
      have hyh : y < h := by omega
      have hpx : p + 1 + 1 < x := by omega
      obtain ⟨z1, hz1⟩ : ∃ z, z = v2.heap.size := ⟨_, rfl⟩
      obtain ⟨z2, hz2⟩ : ∃ z, z = v4.heap.size := ⟨_, rfl⟩
      obtain ⟨z0, hz0⟩ : ∃ z, z = v.heap.size := ⟨_, rfl⟩
      obtain ⟨z3, hz3⟩ : ∃ z, z = v3.heap.size := ⟨_, rfl⟩
      rw [← hz0, ← hz1] at ow1
      rw [← hz3, ← hz2] at ow2
      have hz4 : z0 ≤ x ∧ x < z1 ∧ z1 ≤ q ∧ q < z3 ∧ z3 ≤ y ∧ y < z2 ∧ z2 ≤ h ∧ p + 1 + 1 < z0 ∧ w.heap.size ≤ z0 := by omega
      clear hz0 hz1 hz2 hz3 hv2 hv4 hq3 hx2 hy2
      have e0 := b_x.at_ 0 rfl
      have e1 := b_x.at_ 1 rfl
      have c0 := b_q.at_ 0 rfl
      have c1 := b_q.at_ 1 rfl
      have d0 := b_h.at_ 0 rfl
      have d1 := b_h.at_ 1 rfl
      go_upto_region 14 with fail
      clear e0 e1 c0 c1 d0 d1
      have hda := HDA.out
      have hdb := HDB.out
      rw [← hda] at ow1
      rw [← hdb] at ow2
      clear hda hdb
      have hr1 := ow1.rd
      have hr2 := ow2.rd
      have e0 := b_x.at_ 0 rfl
      have e1 := b_x.at_ 1 rfl
      go_wp2_with fail
      obtain ⟨w1, hw1⟩ : ∃ V, V = v5.alloc (.cells #[.int .i64 k, .int .i64 (l : Int)] 42) := ⟨_, rfl⟩
      have b_f1 : Bx w1 v5.heap.size 42 #[.int .i64 k, .int .i64 (l : Int)] := by rw [hw1]; exact Bx.new _ _ _
      have hb : Below v5.heap.size v5 w1 := by rw [hw1]; exact (Below.refl _ _).alloc (Nat.le_refl _) _
      first | rw [← hw1] | skip
      clear hw1 e0 e1
      replace b_x := b_x.below hb
      replace b_r := b_r.below hb
      replace b_s := b_s.below hb
      replace ow1 := ow1.below hb
      replace b_q := b_q.below hb
      replace ow2 := ow2.below hb
      replace b_h := b_h.below hb
      replace hr1 := hr1.below hb
      replace hr2 := hr2.below hb
      replace hbel := hbel.trans (hb.mono hbel.size)
      clear hb
      refine (HSH.out q h x y C1 C2 v5.heap.size w1 hr1 hr2 (rdF_oneS b_f1) (b_q.at_ 0 rfl) (b_q.at_ 1 rfl) (b_h.at_ 0 rfl) (b_h.at_ 1 rfl)).mono ?_
      rintro e w2 ⟨sh, rfl, hb⟩
      clear b_f1
      replace b_x := b_x.below hb
      replace b_r := b_r.below hb
      replace b_s := b_s.below hb
      replace ow1 := ow1.below hb
      replace b_q := b_q.below hb
      replace ow2 := ow2.below hb
      replace b_h := b_h.below hb
      replace hr1 := hr1.below hb
      replace hr2 := hr2.below hb
      replace hbel := hbel.trans (hb.mono hbel.size)
      clear hb
      go_wp2_with fail
      refine (l02Ok_at0 q b (some ⟨x, 0, none⟩) C1 (wiA b m k l) w2 HO1.out hr1 (b_q.at_ 0 rfl) (by rw [wi_len]; exact b_q.at_ 1 rfl)).mono ?_
      rintro e w3 ⟨rfl, n3, hw3⟩
      have hb : Below w2.heap.size w2 w3 := by rw [hw3]; exact bel_drewN (Below.refl _ _) n3
      clear hw3
      replace b_x := b_x.below hb
      replace b_r := b_r.below hb
      replace b_s := b_s.below hb
      replace ow1 := ow1.below hb
      replace b_q := b_q.below hb
      replace ow2 := ow2.below hb
      replace b_h := b_h.below hb
      replace hr1 := hr1.below hb
      replace hr2 := hr2.below hb
      replace hbel := hbel.trans (hb.mono hbel.size)
      clear hb
      have r0 := b_r.at_ 0 rfl
      have r1 := b_r.at_ 1 rfl
      have f0 := b_r.thaw 0
      have f1 := b_r.thaw 1
      have t0 := b_s.at_ 0 rfl
      have t1 := b_s.at_ 1 rfl
      have g0 := b_s.thaw 0
      have g1 := b_s.thaw 1
      have hs := b_r.lt
      have hs2 := b_s.lt
      have hbs := hbel.size
      go_wp2
      exact bodyPost_ret (v := .tuple #[.agg #[.int .i64 0, .slice none 0 0], .agg #[.int .i64 0, .slice none 0 0], .int .i64 5]) (by simp [results, go_sem, r0, r1, t0, t1]) rfl
        (twoAny_err HR.out rfl (by repeat (first | with_reducible exact hbel | with_reducible refine Below.setCell ?_ (by first | omega | (simp <;> omega)) _ | with_reducible refine Below.alloc ?_ (by first | omega | (simp <;> omega)) _ | with_reducible refine Below.drew ?_)))
    | true =>
      have HO1 := Lib.hid o2
      cases o3 : okB b (wiB m k l) with
      | false =>
        have HR := Lib.hid (HR0.out.trans (if_neg (by unfold wiOk; rw [o3]; simp)))
        have HO2 := Lib.hid o3
        clear o1 o2 o3 hO hf
        go_enter Try.func18, Try.ntmps18
        go_upto_region 1 with fail
        obtain ⟨p, hp⟩ : ∃ g, g = w.heap.size := ⟨_, rfl⟩
        have hwp : w.heap.size ≤ p := Nat.le_of_eq hp.symm
        obtain ⟨u, hu⟩ : ∃ u, u = ((w.alloc (.cells #[.int .i64 k, .int .i64 (l : Int)] 42)).alloc (.cells #[.int .i64 0, .slice none 0 0] 31)).alloc (.cells #[.int .i64 0, .slice none 0 0] 31) := ⟨_, rfl⟩
        have b_x : Bx u p 42 #[.int .i64 k, .int .i64 (l : Int)] := by rw [hu, hp]; exact ((Bx.new _ _ _).alloc _).alloc _
        have b_r : Bx u (p + 1) 31 #[.int .i64 0, .slice none 0 0] := by rw [hu, hp]; simpa using (Bx.new (w.alloc (.cells #[.int .i64 k, .int .i64 (l : Int)] 42)) #[.int .i64 0, .slice none 0 0] 31).alloc _
        have b_s : Bx u (p + 1 + 1) 31 #[.int .i64 0, .slice none 0 0] := by rw [hu, hp]; simpa using Bx.new ((w.alloc (.cells #[.int .i64 k, .int .i64 (l : Int)] 42)).alloc (.cells #[.int .i64 0, .slice none 0 0] 31)) #[.int .i64 0, .slice none 0 0] 31
        have hb : Below w.heap.size w u := by rw [hu]; exact (by repeat (first | with_reducible exact Below.refl _ _ | with_reducible refine Below.setCell ?_ (by first | omega | (simp <;> omega)) _ | with_reducible refine Below.alloc ?_ (by first | omega | (simp <;> omega)) _ | with_reducible refine Below.drew ?_))
        have hus : u.heap.size = p + 1 + 1 + 1 := by rw [hu, hp]; simp
        rw [← hu, ← hp]
        clear hu hp
        replace hbel := hbel.trans (hb.mono hbel.size)
        clear hb
        go_wp2_with fail
        refine (HB.out u).mono ?_
        rintro e v ⟨rfl, hw⟩
        subst v
        have c0 := b_x.at_ 0 rfl
        have c1 := b_x.at_ 1 rfl
        go_wp2_with fail
        obtain ⟨v0, hv0⟩ : ∃ V, V = u.alloc (.cells #[.int .i64 k, .int .i64 (l : Int)] 42) := ⟨_, rfl⟩
        have b_f0 : Bx v0 u.heap.size 42 #[.int .i64 k, .int .i64 (l : Int)] := by rw [hv0]; exact Bx.new _ _ _
        have hb : Below u.heap.size u v0 := by rw [hv0]; exact (Below.refl _ _).alloc (Nat.le_refl _) _
        rw [← hv0]
        clear hv0 c0 c1
        first | rw [← hus] | skip
        refine (l08Ok_at (m : Int) (some ⟨u.heap.size, 0, none⟩) 1 [(k, (l : Int))] v0 HF.out (rdF_oneS b_f0)).mono ?_
        clear b_f0
        replace b_x := b_x.below hb
        replace b_r := b_r.below hb
        replace b_s := b_s.below hb
        replace hbel := hbel.trans (hb.mono hbel.size)
        clear hb
        rintro e v ⟨rfl, hb⟩
        replace b_x := b_x.below hb
        replace b_r := b_r.below hb
        replace b_s := b_s.below hb
        replace hbel := hbel.trans (hb.mono hbel.size)
        clear hb
        have hpv : p + 1 + 1 < v.heap.size := b_s.lt
        have hwv : w.heap.size ≤ v.heap.size := hbel.size
        go_wp2_with fail
        refine (HN.out v).mono ?_
        rintro e v2 ⟨A1, C1, rfl, ow1, hb⟩
        have hv2 := hb.size
        replace b_x := b_x.below hb
        replace b_r := b_r.below hb
        replace b_s := b_s.below hb
        replace hbel := hbel.trans (hb.mono hbel.size)
        clear hb
        obtain ⟨x, rfl⟩ := own_at0 ow1 (by omega)
        have hx2 := ow1.block
        go_upto_region 4 with fail
        obtain ⟨q, hq⟩ : ∃ g, g = v2.heap.size := ⟨_, rfl⟩
        have hk_q : v2.heap.size ≤ q := Nat.le_of_eq hq.symm
        obtain ⟨v3, hv3⟩ : ∃ V, V = v2.alloc (.cells #[.int .i64 b, .slice (some ⟨x, 0, none⟩) m C1] 31) := ⟨_, rfl⟩
        have b_q : Bx v3 q 31 #[.int .i64 b, .slice (some ⟨x, 0, none⟩) m C1] := by rw [hv3, hq]; exact Bx.new _ _ _
        have hb : Below v2.heap.size v2 v3 := by rw [hv3]; exact (Below.refl _ _).alloc (Nat.le_refl _) _
        rw [← hq, ← hv3]
        clear hv3 hq
        replace b_x := b_x.below hb
        replace b_r := b_r.below hb
        replace b_s := b_s.below hb
        replace ow1 := ow1.below hb
        replace hbel := hbel.trans (hb.mono hbel.size)
        clear hb
        have hq3 := b_q.lt
        go_wp2_with fail
        refine (HN.out v3).mono ?_
        rintro e v4 ⟨A2, C2, rfl, ow2, hb⟩
        have hv4 := hb.size
        replace b_x := b_x.below hb
        replace b_r := b_r.below hb
        replace b_s := b_s.below hb
        replace ow1 := ow1.below hb
        replace b_q := b_q.below hb
        replace hbel := hbel.trans (hb.mono hbel.size)
        clear hb
        obtain ⟨y, rfl⟩ := own_at0 ow2 (by omega)
        have hy2 := ow2.block
        go_upto_region 5 with fail
        obtain ⟨h, hh⟩ : ∃ g, g = v4.heap.size := ⟨_, rfl⟩
        have hk_h : v4.heap.size ≤ h := Nat.le_of_eq hh.symm
        obtain ⟨v5, hv5⟩ : ∃ V, V = v4.alloc (.cells #[.int .i64 b, .slice (some ⟨y, 0, none⟩) m C2] 31) := ⟨_, rfl⟩
        have b_h : Bx v5 h 31 #[.int .i64 b, .slice (some ⟨y, 0, none⟩) m C2] := by rw [hv5, hh]; exact Bx.new _ _ _
        have hb : Below v4.heap.size v4 v5 := by rw [hv5]; exact (Below.refl _ _).alloc (Nat.le_refl _) _
        rw [← hh, ← hv5]
        clear hv5 hh
        replace b_x := b_x.below hb
        replace b_r := b_r.below hb
        replace b_s := b_s.below hb
        replace ow1 := ow1.below hb
        replace b_q := b_q.below hb
        replace ow2 := ow2.below hb
        replace hbel := hbel.trans (hb.mono hbel.size)
        clear hb
        have hh5 := b_h.lt
        have hqx : x < q := by omega
        have hqy : q < y := by omega
        have hyh : y < h := by omega
        have hpx : p + 1 + 1 < x := by omega
        obtain ⟨z1, hz1⟩ : ∃ z, z = v2.heap.size := ⟨_, rfl⟩
        obtain ⟨z2, hz2⟩ : ∃ z, z = v4.heap.size := ⟨_, rfl⟩
        obtain ⟨z0, hz0⟩ : ∃ z, z = v.heap.size := ⟨_, rfl⟩
        obtain ⟨z3, hz3⟩ : ∃ z, z = v3.heap.size := ⟨_, rfl⟩
        rw [← hz0, ← hz1] at ow1
        rw [← hz3, ← hz2] at ow2
        have hz4 : z0 ≤ x ∧ x < z1 ∧ z1 ≤ q ∧ q < z3 ∧ z3 ≤ y ∧ y < z2 ∧ z2 ≤ h ∧ p + 1 + 1 < z0 ∧ w.heap.size ≤ z0 := by omega
        clear hz0 hz1 hz2 hz3 hv2 hv4 hq3 hx2 hy2
        have e0 := b_x.at_ 0 rfl
        have e1 := b_x.at_ 1 rfl
        have c0 := b_q.at_ 0 rfl
        have c1 := b_q.at_ 1 rfl
        have d0 := b_h.at_ 0 rfl
        have d1 := b_h.at_ 1 rfl
        go_upto_region 14 with fail
        clear e0 e1 c0 c1 d0 d1
        have hda := HDA.out
        have hdb := HDB.out
        rw [← hda] at ow1
        rw [← hdb] at ow2
        clear hda hdb
        have hr1 := ow1.rd
        have hr2 := ow2.rd
        have e0 := b_x.at_ 0 rfl
        have e1 := b_x.at_ 1 rfl
        go_wp2_with fail
        obtain ⟨w1, hw1⟩ : ∃ V, V = v5.alloc (.cells #[.int .i64 k, .int .i64 (l : Int)] 42) := ⟨_, rfl⟩
        have b_f1 : Bx w1 v5.heap.size 42 #[.int .i64 k, .int .i64 (l : Int)] := by rw [hw1]; exact Bx.new _ _ _
        have hb : Below v5.heap.size v5 w1 := by rw [hw1]; exact (Below.refl _ _).alloc (Nat.le_refl _) _
        first | rw [← hw1] | skip
        clear hw1 e0 e1
        replace b_x := b_x.below hb
        replace b_r := b_r.below hb
        replace b_s := b_s.below hb
        replace ow1 := ow1.below hb
        replace b_q := b_q.below hb
        replace ow2 := ow2.below hb
        replace b_h := b_h.below hb
        replace hr1 := hr1.below hb
        replace hr2 := hr2.below hb
        replace hbel := hbel.trans (hb.mono hbel.size)
        clear hb
        refine (HSH.out q h x y C1 C2 v5.heap.size w1 hr1 hr2 (rdF_oneS b_f1) (b_q.at_ 0 rfl) (b_q.at_ 1 rfl) (b_h.at_ 0 rfl) (b_h.at_ 1 rfl)).mono ?_
        rintro e w2 ⟨sh, rfl, hb⟩
        clear b_f1
        replace b_x := b_x.below hb
        replace b_r := b_r.below hb
        replace b_s := b_s.below hb
        replace ow1 := ow1.below hb
        replace b_q := b_q.below hb
        replace ow2 := ow2.below hb
        replace b_h := b_h.below hb
        replace hr1 := hr1.below hb
        replace hr2 := hr2.below hb
        replace hbel := hbel.trans (hb.mono hbel.size)
        clear hb
        go_wp2_with fail
        refine (l02Ok_at0 q b (some ⟨x, 0, none⟩) C1 (wiA b m k l) w2 HO1.out hr1 (b_q.at_ 0 rfl) (by rw [wi_len]; exact b_q.at_ 1 rfl)).mono ?_
        rintro e w3 ⟨rfl, n3, hw3⟩
        have hb : Below w2.heap.size w2 w3 := by rw [hw3]; exact bel_drewN (Below.refl _ _) n3
        clear hw3
        replace b_x := b_x.below hb
        replace b_r := b_r.below hb
        replace b_s := b_s.below hb
        replace ow1 := ow1.below hb
        replace b_q := b_q.below hb
        replace ow2 := ow2.below hb
        replace b_h := b_h.below hb
        replace hr1 := hr1.below hb
        replace hr2 := hr2.below hb
        replace hbel := hbel.trans (hb.mono hbel.size)
        clear hb
        go_wp2_with fail
        refine (l02Ok_at0 h b (some ⟨y, 0, none⟩) C2 (wiB m k l) w3 HO2.out hr2 (b_h.at_ 0 rfl) (by rw [wiB_len]; exact b_h.at_ 1 rfl)).mono ?_
        rintro e w4 ⟨rfl, n4, hw4⟩
        have hb : Below w3.heap.size w3 w4 := by rw [hw4]; exact bel_drewN (Below.refl _ _) n4
        clear hw4
        replace b_x := b_x.below hb
        replace b_r := b_r.below hb
        replace b_s := b_s.below hb
        replace ow1 := ow1.below hb
        replace b_q := b_q.below hb
        replace ow2 := ow2.below hb
        replace b_h := b_h.below hb
        replace hr1 := hr1.below hb
        replace hr2 := hr2.below hb
        replace hbel := hbel.trans (hb.mono hbel.size)
        clear hb
        have r0 := b_r.at_ 0 rfl
        have r1 := b_r.at_ 1 rfl
        have f0 := b_r.thaw 0
        have f1 := b_r.thaw 1
        have t0 := b_s.at_ 0 rfl
        have t1 := b_s.at_ 1 rfl
        have g0 := b_s.thaw 0
        have g1 := b_s.thaw 1
        have hs := b_r.lt
        have hs2 := b_s.lt
        have hbs := hbel.size
        go_wp2
        exact bodyPost_ret (v := .tuple #[.agg #[.int .i64 0, .slice none 0 0], .agg #[.int .i64 0, .slice none 0 0], .int .i64 5]) (by simp [results, go_sem, r0, r1, t0, t1]) rfl
          (twoAny_err HR.out rfl (by repeat (first | with_reducible exact hbel | with_reducible refine Below.setCell ?_ (by first | omega | (simp <;> omega)) _ | with_reducible refine Below.alloc ?_ (by first | omega | (simp <;> omega)) _ | with_reducible refine Below.drew ?_)))
      | true =>
        have HR := Lib.hid (HR0.out.trans (if_pos (by unfold wiOk; rw [o2, o3, hO.1, hO.2]; rfl)))
        have HO2 := Lib.hid o3
        clear o1 o2 o3 hO hf
        go_enter Try.func18, Try.ntmps18
        go_upto_region 1 with fail
        obtain ⟨p, hp⟩ : ∃ g, g = w.heap.size := ⟨_, rfl⟩
        have hwp : w.heap.size ≤ p := Nat.le_of_eq hp.symm
        obtain ⟨u, hu⟩ : ∃ u, u = ((w.alloc (.cells #[.int .i64 k, .int .i64 (l : Int)] 42)).alloc (.cells #[.int .i64 0, .slice none 0 0] 31)).alloc (.cells #[.int .i64 0, .slice none 0 0] 31) := ⟨_, rfl⟩
        have b_x : Bx u p 42 #[.int .i64 k, .int .i64 (l : Int)] := by rw [hu, hp]; exact ((Bx.new _ _ _).alloc _).alloc _
        have b_r : Bx u (p + 1) 31 #[.int .i64 0, .slice none 0 0] := by rw [hu, hp]; simpa using (Bx.new (w.alloc (.cells #[.int .i64 k, .int .i64 (l : Int)] 42)) #[.int .i64 0, .slice none 0 0] 31).alloc _
        have b_s : Bx u (p + 1 + 1) 31 #[.int .i64 0, .slice none 0 0] := by rw [hu, hp]; simpa using Bx.new ((w.alloc (.cells #[.int .i64 k, .int .i64 (l : Int)] 42)).alloc (.cells #[.int .i64 0, .slice none 0 0] 31)) #[.int .i64 0, .slice none 0 0] 31
        have hb : Below w.heap.size w u := by rw [hu]; exact (by repeat (first | with_reducible exact Below.refl _ _ | with_reducible refine Below.setCell ?_ (by first | omega | (simp <;> omega)) _ | with_reducible refine Below.alloc ?_ (by first | omega | (simp <;> omega)) _ | with_reducible refine Below.drew ?_))
        have hus : u.heap.size = p + 1 + 1 + 1 := by rw [hu, hp]; simp
        rw [← hu, ← hp]
        clear hu hp
        replace hbel := hbel.trans (hb.mono hbel.size)
        clear hb
        go_wp2_with fail
        refine (HB.out u).mono ?_
        rintro e v ⟨rfl, hw⟩
        subst v
        have c0 := b_x.at_ 0 rfl
        have c1 := b_x.at_ 1 rfl
        go_wp2_with fail
        obtain ⟨v0, hv0⟩ : ∃ V, V = u.alloc (.cells #[.int .i64 k, .int .i64 (l : Int)] 42) := ⟨_, rfl⟩
        have b_f0 : Bx v0 u.heap.size 42 #[.int .i64 k, .int .i64 (l : Int)] := by rw [hv0]; exact Bx.new _ _ _
        have hb : Below u.heap.size u v0 := by rw [hv0]; exact (Below.refl _ _).alloc (Nat.le_refl _) _
        rw [← hv0]
        clear hv0 c0 c1
        first | rw [← hus] | skip
        refine (l08Ok_at (m : Int) (some ⟨u.heap.size, 0, none⟩) 1 [(k, (l : Int))] v0 HF.out (rdF_oneS b_f0)).mono ?_
        clear b_f0
        replace b_x := b_x.below hb
        replace b_r := b_r.below hb
        replace b_s := b_s.below hb
        replace hbel := hbel.trans (hb.mono hbel.size)
        clear hb
        rintro e v ⟨rfl, hb⟩
        replace b_x := b_x.below hb
        replace b_r := b_r.below hb
        replace b_s := b_s.below hb
        replace hbel := hbel.trans (hb.mono hbel.size)
        clear hb
        have hpv : p + 1 + 1 < v.heap.size := b_s.lt
        have hwv : w.heap.size ≤ v.heap.size := hbel.size
        go_wp2_with fail
        refine (HN.out v).mono ?_
        rintro e v2 ⟨A1, C1, rfl, ow1, hb⟩
        have hv2 := hb.size
        replace b_x := b_x.below hb
        replace b_r := b_r.below hb
        replace b_s := b_s.below hb
        replace hbel := hbel.trans (hb.mono hbel.size)
        clear hb
        obtain ⟨x, rfl⟩ := own_at0 ow1 (by omega)
        have hx2 := ow1.block
        go_upto_region 4 with fail
        obtain ⟨q, hq⟩ : ∃ g, g = v2.heap.size := ⟨_, rfl⟩
        have hk_q : v2.heap.size ≤ q := Nat.le_of_eq hq.symm
        obtain ⟨v3, hv3⟩ : ∃ V, V = v2.alloc (.cells #[.int .i64 b, .slice (some ⟨x, 0, none⟩) m C1] 31) := ⟨_, rfl⟩
        have b_q : Bx v3 q 31 #[.int .i64 b, .slice (some ⟨x, 0, none⟩) m C1] := by rw [hv3, hq]; exact Bx.new _ _ _
        have hb : Below v2.heap.size v2 v3 := by rw [hv3]; exact (Below.refl _ _).alloc (Nat.le_refl _) _
        rw [← hq, ← hv3]
        clear hv3 hq
        replace b_x := b_x.below hb
        replace b_r := b_r.below hb
        replace b_s := b_s.below hb
        replace ow1 := ow1.below hb
        replace hbel := hbel.trans (hb.mono hbel.size)
        clear hb
        have hq3 := b_q.lt
        go_wp2_with fail
        refine (HN.out v3).mono ?_
        rintro e v4 ⟨A2, C2, rfl, ow2, hb⟩
        have hv4 := hb.size
        replace b_x := b_x.below hb
        replace b_r := b_r.below hb
        replace b_s := b_s.below hb
        replace ow1 := ow1.below hb
        replace b_q := b_q.below hb
        replace hbel := hbel.trans (hb.mono hbel.size)
        clear hb
        obtain ⟨y, rfl⟩ := own_at0 ow2 (by omega)
        have hy2 := ow2.block
        go_upto_region 5 with fail
        obtain ⟨h, hh⟩ : ∃ g, g = v4.heap.size := ⟨_, rfl⟩
        have hk_h : v4.heap.size ≤ h := Nat.le_of_eq hh.symm
        obtain ⟨v5, hv5⟩ : ∃ V, V = v4.alloc (.cells #[.int .i64 b, .slice (some ⟨y, 0, none⟩) m C2] 31) := ⟨_, rfl⟩
        have b_h : Bx v5 h 31 #[.int .i64 b, .slice (some ⟨y, 0, none⟩) m C2] := by rw [hv5, hh]; exact Bx.new _ _ _
        have hb : Below v4.heap.size v4 v5 := by rw [hv5]; exact (Below.refl _ _).alloc (Nat.le_refl _) _
        rw [← hh, ← hv5]
        clear hv5 hh
        replace b_x := b_x.below hb
        replace b_r := b_r.below hb
        replace b_s := b_s.below hb
        replace ow1 := ow1.below hb
        replace b_q := b_q.below hb
        replace ow2 := ow2.below hb
        replace hbel := hbel.trans (hb.mono hbel.size)
        clear hb
        have hh5 := b_h.lt
        have hqx : x < q := by omega
        have hqy : q < y := by omega
        have hyh : y < h := by omega
        have hpx : p + 1 + 1 < x := by omega
        obtain ⟨z1, hz1⟩ : ∃ z, z = v2.heap.size := ⟨_, rfl⟩
        obtain ⟨z2, hz2⟩ : ∃ z, z = v4.heap.size := ⟨_, rfl⟩
        obtain ⟨z0, hz0⟩ : ∃ z, z = v.heap.size := ⟨_, rfl⟩
        obtain ⟨z3, hz3⟩ : ∃ z, z = v3.heap.size := ⟨_, rfl⟩
        rw [← hz0, ← hz1] at ow1
        rw [← hz3, ← hz2] at ow2
        have hz4 : z0 ≤ x ∧ x < z1 ∧ z1 ≤ q ∧ q < z3 ∧ z3 ≤ y ∧ y < z2 ∧ z2 ≤ h ∧ p + 1 + 1 < z0 ∧ w.heap.size ≤ z0 := by omega
        clear hz0 hz1 hz2 hz3 hv2 hv4 hq3 hx2 hy2
        have e0 := b_x.at_ 0 rfl
        have e1 := b_x.at_ 1 rfl
        have c0 := b_q.at_ 0 rfl
        have c1 := b_q.at_ 1 rfl
        have d0 := b_h.at_ 0 rfl
        have d1 := b_h.at_ 1 rfl
        go_upto_region 14 with fail
        clear e0 e1 c0 c1 d0 d1
        have hda := HDA.out
        have hdb := HDB.out
        rw [← hda] at ow1
        rw [← hdb] at ow2
        clear hda hdb
        have hr1 := ow1.rd
        have hr2 := ow2.rd
        have e0 := b_x.at_ 0 rfl
        have e1 := b_x.at_ 1 rfl
        go_wp2_with fail
        obtain ⟨w1, hw1⟩ : ∃ V, V = v5.alloc (.cells #[.int .i64 k, .int .i64 (l : Int)] 42) := ⟨_, rfl⟩
        have b_f1 : Bx w1 v5.heap.size 42 #[.int .i64 k, .int .i64 (l : Int)] := by rw [hw1]; exact Bx.new _ _ _
        have hb : Below v5.heap.size v5 w1 := by rw [hw1]; exact (Below.refl _ _).alloc (Nat.le_refl _) _
        first | rw [← hw1] | skip
        clear hw1 e0 e1
        replace b_x := b_x.below hb
        replace b_r := b_r.below hb
        replace b_s := b_s.below hb
        replace ow1 := ow1.below hb
        replace b_q := b_q.below hb
        replace ow2 := ow2.below hb
        replace b_h := b_h.below hb
        replace hr1 := hr1.below hb
        replace hr2 := hr2.below hb
        replace hbel := hbel.trans (hb.mono hbel.size)
        clear hb
        refine (HSH.out q h x y C1 C2 v5.heap.size w1 hr1 hr2 (rdF_oneS b_f1) (b_q.at_ 0 rfl) (b_q.at_ 1 rfl) (b_h.at_ 0 rfl) (b_h.at_ 1 rfl)).mono ?_
        rintro e w2 ⟨sh, rfl, hb⟩
        clear b_f1
        replace b_x := b_x.below hb
        replace b_r := b_r.below hb
        replace b_s := b_s.below hb
        replace ow1 := ow1.below hb
        replace b_q := b_q.below hb
        replace ow2 := ow2.below hb
        replace b_h := b_h.below hb
        replace hr1 := hr1.below hb
        replace hr2 := hr2.below hb
        replace hbel := hbel.trans (hb.mono hbel.size)
        clear hb
        go_wp2_with fail
        refine (l02Ok_at0 q b (some ⟨x, 0, none⟩) C1 (wiA b m k l) w2 HO1.out hr1 (b_q.at_ 0 rfl) (by rw [wi_len]; exact b_q.at_ 1 rfl)).mono ?_
        rintro e w3 ⟨rfl, n3, hw3⟩
        have hb : Below w2.heap.size w2 w3 := by rw [hw3]; exact bel_drewN (Below.refl _ _) n3
        clear hw3
        replace b_x := b_x.below hb
        replace b_r := b_r.below hb
        replace b_s := b_s.below hb
        replace ow1 := ow1.below hb
        replace b_q := b_q.below hb
        replace ow2 := ow2.below hb
        replace b_h := b_h.below hb
        replace hr1 := hr1.below hb
        replace hr2 := hr2.below hb
        replace hbel := hbel.trans (hb.mono hbel.size)
        clear hb
        go_wp2_with fail
        refine (l02Ok_at0 h b (some ⟨y, 0, none⟩) C2 (wiB m k l) w3 HO2.out hr2 (b_h.at_ 0 rfl) (by rw [wiB_len]; exact b_h.at_ 1 rfl)).mono ?_
        rintro e w4 ⟨rfl, n4, hw4⟩
        have hb : Below w3.heap.size w3 w4 := by rw [hw4]; exact bel_drewN (Below.refl _ _) n4
        clear hw4
        replace b_x := b_x.below hb
        replace b_r := b_r.below hb
        replace b_s := b_s.below hb
        replace ow1 := ow1.below hb
        replace b_q := b_q.below hb
        replace ow2 := ow2.below hb
        replace b_h := b_h.below hb
        replace hr1 := hr1.below hb
        replace hr2 := hr2.below hb
        replace hbel := hbel.trans (hb.mono hbel.size)
        clear hb
        have hh8 := b_h.lt
        go_upto_region 17 with fail
        have s0 : ∀ w', (Bx w' q 31 #[.int .i64 b, .slice (some ⟨x, 0, none⟩) m C1] ∧ Bx w' h 31 #[.int .i64 b, .slice (some ⟨y, 0, none⟩) m C2]) → w'.cell? ⟨q, 0, none⟩ = some (.int .i64 b) := fun _ h => h.1.at_ 0 rfl
        have s1 : ∀ w', (Bx w' q 31 #[.int .i64 b, .slice (some ⟨x, 0, none⟩) m C1] ∧ Bx w' h 31 #[.int .i64 b, .slice (some ⟨y, 0, none⟩) m C2]) → w'.cell? ⟨q, 1, none⟩ = some (.slice (some ⟨x, 0, none⟩) m C1) := fun _ h => h.1.at_ 1 rfl
        have s2 : ∀ w', (Bx w' q 31 #[.int .i64 b, .slice (some ⟨x, 0, none⟩) m C1] ∧ Bx w' h 31 #[.int .i64 b, .slice (some ⟨y, 0, none⟩) m C2]) → w'.cell? ⟨h, 0, none⟩ = some (.int .i64 b) := fun _ h => h.2.at_ 0 rfl
        have s3 : ∀ w', (Bx w' q 31 #[.int .i64 b, .slice (some ⟨x, 0, none⟩) m C1] ∧ Bx w' h 31 #[.int .i64 b, .slice (some ⟨y, 0, none⟩) m C2]) → w'.cell? ⟨h, 1, none⟩ = some (.slice (some ⟨y, 0, none⟩) m C2) := fun _ h => h.2.at_ 1 rfl
        have hS : Bx w4.drew q 31 #[.int .i64 b, .slice (some ⟨x, 0, none⟩) m C1] ∧ Bx w4.drew h 31 #[.int .i64 b, .slice (some ⟨y, 0, none⟩) m C2] := ⟨b_q.drew, b_h.drew⟩
        refine wp_region_marked (fun w' => Bx w' q 31 #[.int .i64 b, .slice (some ⟨x, 0, none⟩) m C1] ∧ Bx w' h 31 #[.int .i64 b, .slice (some ⟨y, 0, none⟩) m C2]) 4 (by kernel_rfl) ?_
        refine wpAnyM_take (i := 0) (v := ?_) rfl (by kernel_rfl) (by kernel_rfl) (by kernel_rfl) (by kernel_rfl) (by kernel_rfl) (fun _ _ _ h => h) hS (.inl ⟨by rfl, ?_⟩) ?_
        rotate_left 1
        · intro w' hS'; go_simp; try with_reducible rfl
        simp only [Act.put, List.setIfInBounds_toArray, List.set_cons_succ, List.set_cons_zero, List.getElem_toArray, List.getElem_cons_zero]
        refine wpAnyM_take (i := 1) (v := ?_) rfl (by kernel_rfl) (by kernel_rfl) (by kernel_rfl) (by kernel_rfl) (by kernel_rfl) (fun _ _ _ h => h) hS (.inl ⟨by rfl, ?_⟩) ?_
        rotate_left 1
        · intro w' hS'; go_simp; try with_reducible rfl
        simp only [Act.put, List.setIfInBounds_toArray, List.set_cons_succ, List.set_cons_zero, List.getElem_toArray, List.getElem_cons_succ, List.getElem_cons_zero]
        have r0 := b_r.at_ 0 rfl
        have r1 := b_r.at_ 1 rfl
        have f0 := b_r.thaw 0
        have f1 := b_r.thaw 1
        have t0 := b_s.at_ 0 rfl
        have t1 := b_s.at_ 1 rfl
        have g0 := b_s.thaw 0
        have g1 := b_s.thaw 1
        have hs := b_r.lt
        have hs2 := b_s.lt
        have hbs := hbel.size
        have n1 : q ≠ p + 1 := by omega
        have n2 : h ≠ p + 1 := by omega
        have n3 : q ≠ p + 1 + 1 := by omega
        have n4 : h ≠ p + 1 + 1 := by omega
        refine wpAnyM_one (i := 2) (by kernel_rfl) rfl (by rfl) (fun K hK => ?_)
        go_simp
        replace hS := And.intro ((hS.1.far (p := ⟨p + 1, 0, none⟩) n1 (.int .i64 b)).far (p := ⟨p + 1, 1, none⟩) n1 (.slice (some ⟨x, 0, none⟩) m C1)) ((hS.2.far (p := ⟨p + 1, 0, none⟩) n2 (.int .i64 b)).far (p := ⟨p + 1, 1, none⟩) n2 (.slice (some ⟨x, 0, none⟩) m C1))
        refine hK _ _ (.inr hS) ?_
        try simp only [Act.put, List.setIfInBounds_toArray, List.set_cons_succ, List.set_cons_zero, List.getElem_toArray, List.getElem_cons_succ, List.getElem_cons_zero]
        clear hK K
        refine wpAnyM_one (i := 3) (by kernel_rfl) rfl (by rfl) (fun K hK => ?_)
        go_simp
        replace hS := And.intro ((hS.1.far (p := ⟨p + 1 + 1, 0, none⟩) n3 (.int .i64 b)).far (p := ⟨p + 1 + 1, 1, none⟩) n3 (.slice (some ⟨y, 0, none⟩) m C2)) ((hS.2.far (p := ⟨p + 1 + 1, 0, none⟩) n4 (.int .i64 b)).far (p := ⟨p + 1 + 1, 1, none⟩) n4 (.slice (some ⟨y, 0, none⟩) m C2))
        refine hK _ _ (.inr hS) ?_
        try simp only [Act.put, List.setIfInBounds_toArray, List.set_cons_succ, List.set_cons_zero, List.getElem_toArray, List.getElem_cons_succ, List.getElem_cons_zero]
        clear hK K
        refine wpAnyM_one (i := 4) (by kernel_rfl) rfl (by rfl) (fun K hK => ?_)
        go_simp
        refine hK _ _ (.inl rfl) ?_
        clear hK K
        refine wpAnyM_done (by kernel_rfl) ?_ _
        try simp only [Act.put, List.setIfInBounds_toArray, List.set_cons_succ, List.set_cons_zero, List.getElem_toArray, List.getElem_cons_succ, List.getElem_cons_zero]
        go_wp2
        have own1 := (((ow1.setCell (p := ⟨p + 1, 0, none⟩) (.inl (by simp; omega)) (.int .i64 b)).setCell (p := ⟨p + 1, 1, none⟩) (.inl (by simp; omega)) (.slice (some ⟨x, 0, none⟩) m C1)).setCell (p := ⟨p + 1 + 1, 0, none⟩) (.inl (by simp; omega)) (.int .i64 b)).setCell (p := ⟨p + 1 + 1, 1, none⟩) (.inl (by simp; omega)) (.slice (some ⟨y, 0, none⟩) m C2)
        have own2 := (((ow2.setCell (p := ⟨p + 1, 0, none⟩) (.inl (by simp; omega)) (.int .i64 b)).setCell (p := ⟨p + 1, 1, none⟩) (.inl (by simp; omega)) (.slice (some ⟨x, 0, none⟩) m C1)).setCell (p := ⟨p + 1 + 1, 0, none⟩) (.inl (by simp; omega)) (.int .i64 b)).setCell (p := ⟨p + 1 + 1, 1, none⟩) (.inl (by simp; omega)) (.slice (some ⟨y, 0, none⟩) m C2)
        have hlast : Below w.heap.size w _ := (((hbel.drew.setCell (p := ⟨p + 1, 0, none⟩) (by simp; omega) (.int .i64 b)).setCell (p := ⟨p + 1, 1, none⟩) (by simp; omega) (.slice (some ⟨x, 0, none⟩) m C1)).setCell (p := ⟨p + 1 + 1, 0, none⟩) (by simp; omega) (.int .i64 b)).setCell (p := ⟨p + 1 + 1, 1, none⟩) (by simp; omega) (.slice (some ⟨y, 0, none⟩) m C2)
        have hz8 := hlast.size
        exact bodyPost_ret (v := .tuple #[.agg #[.int .i64 b, .slice (some ⟨x, 0, none⟩) m C1], .agg #[.int .i64 b, .slice (some ⟨y, 0, none⟩) m C2], .int .i64 0]) (by simp [results, go_sem, r0, r1, t0, t1]) rfl
          (twoAny_ok HR.out (wi_len b m k l) (wiB_len m k l) rfl own1.drew own2.drew (by omega) (by omega) (by simp; omega) (by simp; omega) (by omega) hlast)

set_option maxRecDepth 100000 in
set_option maxHeartbeats 16000000 in
theorem witnessS_three (b : Int) (m l : Nat) (k : Int)
    (w : World) (_ : I64 b) (h1 : 2 ≤ b) (h2 : b ≤ 16) (hm0 : 1 ≤ m) (hm : m ≤ 16) (hl : l < m) (hf : faultsB (m : Int) [(k, (l : Int))] = true) (HR0 : Hid (wiR b (m : Int) (k, (l : Int)) = if wiOk b m k l = true then (b, wiA b m k l, b, wiB m k l, 0) else (0, [], 0, [], 5))) (hk : k = 3) (h0 : 0 < l) :
    Calls Try.prog 18 #[.int .i64 b, .int .i64 m, .agg #[.int .i64 k, .int .i64 (l : Int)]] w (TwoAny (wiR b m (k, (l : Int))) w) := by
  have R := Try.results18
  have hbel : Below w.heap.size w w := Below.refl _ _
  have HB := Lib.hid (l02Base_any b)
  rw [show baseB b = true by simp [baseB, h1, h2]] at HB
  have HF := Lib.hid hf
  have HN := Lib.hid (fun w => specl02New_any b 0 m w h1 h2 hm (Int.le_refl _) (by omega))
  rw [digs_zero (by omega)] at HN
  have HSH := Lib.hid (fun (q h x y C D G : Nat) (v : World) (ha : Rd v (some ⟨x, 0, none⟩) (wiA b m k l)) (hc : Rd v (some ⟨y, 0, none⟩) (wiB m k l)) (hf2 : RdF pairF v (some ⟨G, 0, none⟩) [(k, (l : Int))]) (q0 : v.cell? ⟨q, 0, none⟩ = some (.int .i64 b)) (q1 : v.cell? ⟨q, 1, none⟩ = some (.slice (some ⟨x, 0, none⟩) m C)) (p0 : v.cell? ⟨h, 0, none⟩ = some (.int .i64 b)) (p1 : v.cell? ⟨h, 1, none⟩ = some (.slice (some ⟨y, 0, none⟩) m D)) => shows_at q h x y C D G v h1 h2 hm hl hf ha hc hf2 q0 q1 p0 p1)
  obtain ⟨j, hj⟩ : ∃ j, j = l - 1 := ⟨_, rfl⟩
  have tk : (k == 1) = false := by simp [hk]
  have tk3 : (k == 3) = true := by simp [hk]
  have hv1 : IntKind.i64.wrap (b - 1) = b - 1 := fits_int _ (by omega) (by omega)
  have hln : (l : Int) < (m : Int) := by omega
  have h0i : (0 : Int) < (l : Int) := by omega
  have hv2 : IntKind.i64.wrap ((l : Int) - 1) = (j : Int) := by rw [show (l : Int) - 1 = (j : Int) by omega]; exact fits_int _ (by omega) (by omega)
  have hjn : (j : Int) < (m : Int) := by omega
  have hjl : ¬ j = l := by omega
  have hlj : ¬ l = j := by omega
  have hjm : j < m := by omega
  have HJ := Lib.hid hj
  have HDA := Lib.hid (show wiA b m k l = ((List.replicate m 0).set j (b - 1)).set l (b - 1) by simp [wiA, hk, h0, hj])
  have HDB := Lib.hid (show wiB m k l = (List.replicate m 0).set j 1 by simp [wiB, hk, h0, hj])
  clear hk
  clear hj
  cases o1 : okB b (tab (levD b (wiA b m k l) (wiB m k l) (kds [(k, (l : Int))])) m) && okB b (tab (sumD b (wiA b m k l) (wiB m k l)) m) with
  | false =>
    have HR := Lib.hid (HR0.out.trans (if_neg (by unfold wiOk; intro hh; simp only [Bool.and_eq_true] at hh; rw [hh.1.2, hh.2] at o1; cases o1)))
    rw [o1] at HSH
    clear o1 hf
    go_enter Try.func18, Try.ntmps18
    go_upto_region 1 with fail
    obtain ⟨p, hp⟩ : ∃ g, g = w.heap.size := ⟨_, rfl⟩
    have hwp : w.heap.size ≤ p := Nat.le_of_eq hp.symm
    obtain ⟨u, hu⟩ : ∃ u, u = ((w.alloc (.cells #[.int .i64 k, .int .i64 (l : Int)] 42)).alloc (.cells #[.int .i64 0, .slice none 0 0] 31)).alloc (.cells #[.int .i64 0, .slice none 0 0] 31) := ⟨_, rfl⟩
    have b_x : Bx u p 42 #[.int .i64 k, .int .i64 (l : Int)] := by rw [hu, hp]; exact ((Bx.new _ _ _).alloc _).alloc _
    have b_r : Bx u (p + 1) 31 #[.int .i64 0, .slice none 0 0] := by rw [hu, hp]; simpa using (Bx.new (w.alloc (.cells #[.int .i64 k, .int .i64 (l : Int)] 42)) #[.int .i64 0, .slice none 0 0] 31).alloc _
    have b_s : Bx u (p + 1 + 1) 31 #[.int .i64 0, .slice none 0 0] := by rw [hu, hp]; simpa using Bx.new ((w.alloc (.cells #[.int .i64 k, .int .i64 (l : Int)] 42)).alloc (.cells #[.int .i64 0, .slice none 0 0] 31)) #[.int .i64 0, .slice none 0 0] 31
    have hb : Below w.heap.size w u := by rw [hu]; exact (by repeat (first | with_reducible exact Below.refl _ _ | with_reducible refine Below.setCell ?_ (by first | omega | (simp <;> omega)) _ | with_reducible refine Below.alloc ?_ (by first | omega | (simp <;> omega)) _ | with_reducible refine Below.drew ?_))
    have hus : u.heap.size = p + 1 + 1 + 1 := by rw [hu, hp]; simp
    rw [← hu, ← hp]
    clear hu hp
    replace hbel := hbel.trans (hb.mono hbel.size)
    clear hb
    go_wp2_with fail
    refine (HB.out u).mono ?_
    rintro e v ⟨rfl, hw⟩
    subst v
    have c0 := b_x.at_ 0 rfl
    have c1 := b_x.at_ 1 rfl
    go_wp2_with fail
    obtain ⟨v0, hv0⟩ : ∃ V, V = u.alloc (.cells #[.int .i64 k, .int .i64 (l : Int)] 42) := ⟨_, rfl⟩
    have b_f0 : Bx v0 u.heap.size 42 #[.int .i64 k, .int .i64 (l : Int)] := by rw [hv0]; exact Bx.new _ _ _
    have hb : Below u.heap.size u v0 := by rw [hv0]; exact (Below.refl _ _).alloc (Nat.le_refl _) _
    rw [← hv0]
    clear hv0 c0 c1
    first | rw [← hus] | skip
    refine (l08Ok_at (m : Int) (some ⟨u.heap.size, 0, none⟩) 1 [(k, (l : Int))] v0 HF.out (rdF_oneS b_f0)).mono ?_
    clear b_f0
    replace b_x := b_x.below hb
    replace b_r := b_r.below hb
    replace b_s := b_s.below hb
    replace hbel := hbel.trans (hb.mono hbel.size)
    clear hb
    rintro e v ⟨rfl, hb⟩
    replace b_x := b_x.below hb
    replace b_r := b_r.below hb
    replace b_s := b_s.below hb
    replace hbel := hbel.trans (hb.mono hbel.size)
    clear hb
    have hpv : p + 1 + 1 < v.heap.size := b_s.lt
    have hwv : w.heap.size ≤ v.heap.size := hbel.size
    go_wp2_with fail
    refine (HN.out v).mono ?_
    rintro e v2 ⟨A1, C1, rfl, ow1, hb⟩
    have hv2 := hb.size
    replace b_x := b_x.below hb
    replace b_r := b_r.below hb
    replace b_s := b_s.below hb
    replace hbel := hbel.trans (hb.mono hbel.size)
    clear hb
    obtain ⟨x, rfl⟩ := own_at0 ow1 (by omega)
    have hx2 := ow1.block
    go_upto_region 4 with fail
    obtain ⟨q, hq⟩ : ∃ g, g = v2.heap.size := ⟨_, rfl⟩
    have hk_q : v2.heap.size ≤ q := Nat.le_of_eq hq.symm
    obtain ⟨v3, hv3⟩ : ∃ V, V = v2.alloc (.cells #[.int .i64 b, .slice (some ⟨x, 0, none⟩) m C1] 31) := ⟨_, rfl⟩
    have b_q : Bx v3 q 31 #[.int .i64 b, .slice (some ⟨x, 0, none⟩) m C1] := by rw [hv3, hq]; exact Bx.new _ _ _
    have hb : Below v2.heap.size v2 v3 := by rw [hv3]; exact (Below.refl _ _).alloc (Nat.le_refl _) _
    rw [← hq, ← hv3]
    clear hv3 hq
    replace b_x := b_x.below hb
    replace b_r := b_r.below hb
    replace b_s := b_s.below hb
    replace ow1 := ow1.below hb
    replace hbel := hbel.trans (hb.mono hbel.size)
    clear hb
    have hq3 := b_q.lt
    go_wp2_with fail
    refine (HN.out v3).mono ?_
    rintro e v4 ⟨A2, C2, rfl, ow2, hb⟩
    have hv4 := hb.size
    replace b_x := b_x.below hb
    replace b_r := b_r.below hb
    replace b_s := b_s.below hb
    replace ow1 := ow1.below hb
    replace b_q := b_q.below hb
    replace hbel := hbel.trans (hb.mono hbel.size)
    clear hb
    obtain ⟨y, rfl⟩ := own_at0 ow2 (by omega)
    have hy2 := ow2.block
    go_upto_region 5 with fail
    obtain ⟨h, hh⟩ : ∃ g, g = v4.heap.size := ⟨_, rfl⟩
    have hk_h : v4.heap.size ≤ h := Nat.le_of_eq hh.symm
    obtain ⟨v5, hv5⟩ : ∃ V, V = v4.alloc (.cells #[.int .i64 b, .slice (some ⟨y, 0, none⟩) m C2] 31) := ⟨_, rfl⟩
    have b_h : Bx v5 h 31 #[.int .i64 b, .slice (some ⟨y, 0, none⟩) m C2] := by rw [hv5, hh]; exact Bx.new _ _ _
    have hb : Below v4.heap.size v4 v5 := by rw [hv5]; exact (Below.refl _ _).alloc (Nat.le_refl _) _
    rw [← hh, ← hv5]
    clear hv5 hh
    replace b_x := b_x.below hb
    replace b_r := b_r.below hb
    replace b_s := b_s.below hb
    replace ow1 := ow1.below hb
    replace b_q := b_q.below hb
    replace ow2 := ow2.below hb
    replace hbel := hbel.trans (hb.mono hbel.size)
    clear hb
    have hh5 := b_h.lt
    have hqx : x < q := by omega
    have hqy : q < y := by omega
    have hyh : y < h := by omega
    have hpx : p + 1 + 1 < x := by omega
    obtain ⟨z1, hz1⟩ : ∃ z, z = v2.heap.size := ⟨_, rfl⟩
    obtain ⟨z2, hz2⟩ : ∃ z, z = v4.heap.size := ⟨_, rfl⟩
    obtain ⟨z0, hz0⟩ : ∃ z, z = v.heap.size := ⟨_, rfl⟩
    obtain ⟨z3, hz3⟩ : ∃ z, z = v3.heap.size := ⟨_, rfl⟩
    rw [← hz0, ← hz1] at ow1
    rw [← hz3, ← hz2] at ow2
    have hz4 : z0 ≤ x ∧ x < z1 ∧ z1 ≤ q ∧ q < z3 ∧ z3 ≤ y ∧ y < z2 ∧ z2 ≤ h ∧ p + 1 + 1 < z0 ∧ w.heap.size ≤ z0 := by omega
    clear hz0 hz1 hz2 hz3 hv2 hv4 hq3 hx2 hy2
    have e0 := b_x.at_ 0 rfl
    have e1 := b_x.at_ 1 rfl
    have c0 := b_q.at_ 0 rfl
    have c1 := b_q.at_ 1 rfl
    have d0 := b_h.at_ 0 rfl
    have d1 := b_h.at_ 1 rfl
    have cx := ow1.get (j := j) (by simp; omega)
    have cxf := ow1.thaw j
    go_upto_region 10 with fail
    clear cx cxf
    clear e0 e1 c0 c1 d0 d1
    obtain ⟨v6, hv6⟩ : ∃ V, V = v5.setCell ⟨x, j, none⟩ (.int .i64 (b - 1)) := ⟨_, rfl⟩
    have ow1' := ow1.put j (b - 1)
    have ow2' := ow2.setCell (p := ⟨x, j, none⟩) (by simp; omega) (.int .i64 (b - 1))
    have hb' : Below w.heap.size w v6 := by rw [hv6]; exact hbel.setCell (p := ⟨x, j, none⟩) (by simp; omega) _
    have bx' := b_x.far (p := ⟨x, j, none⟩) (by simp; omega) (.int .i64 (b - 1))
    have br' := b_r.far (p := ⟨x, j, none⟩) (by simp; omega) (.int .i64 (b - 1))
    have bs' := b_s.far (p := ⟨x, j, none⟩) (by simp; omega) (.int .i64 (b - 1))
    have bq' := b_q.far (p := ⟨x, j, none⟩) (by simp; omega) (.int .i64 (b - 1))
    have bh' := b_h.far (p := ⟨x, j, none⟩) (by simp; omega) (.int .i64 (b - 1))
    rw [← hv6] at ow1' ow2' bx' br' bs' bq' bh'
    first | rw [← hv6] | skip
    clear ow1 ow2 b_x b_r b_s b_q b_h hbel hv6
    have ow1 := ow1'
    have ow2 := ow2'
    have b_x := bx'
    have b_r := br'
    have b_s := bs'
    have b_q := bq'
    have b_h := bh'
    have hbel := hb'
    clear ow1' ow2' bx' br' bs' bq' bh' hb'
    have e0 := b_x.at_ 0 rfl
    have e1 := b_x.at_ 1 rfl
    have c0 := b_q.at_ 0 rfl
    have c1 := b_q.at_ 1 rfl
    have d0 := b_h.at_ 0 rfl
    have d1 := b_h.at_ 1 rfl
    have cy := ow2.get (j := j) (by simp; omega)
    have cyf := ow2.thaw j
    go_upto_region 11 with fail
    clear cy cyf
    clear e0 e1 c0 c1 d0 d1
    obtain ⟨v7, hv7⟩ : ∃ V, V = v6.setCell ⟨y, j, none⟩ (.int .i64 (1)) := ⟨_, rfl⟩
    have ow2' := ow2.put j (1)
    have ow1' := ow1.setCell (p := ⟨y, j, none⟩) (by simp; omega) (.int .i64 (1))
    have hb' : Below w.heap.size w v7 := by rw [hv7]; exact hbel.setCell (p := ⟨y, j, none⟩) (by simp; omega) _
    have bx' := b_x.far (p := ⟨y, j, none⟩) (by simp; omega) (.int .i64 (1))
    have br' := b_r.far (p := ⟨y, j, none⟩) (by simp; omega) (.int .i64 (1))
    have bs' := b_s.far (p := ⟨y, j, none⟩) (by simp; omega) (.int .i64 (1))
    have bq' := b_q.far (p := ⟨y, j, none⟩) (by simp; omega) (.int .i64 (1))
    have bh' := b_h.far (p := ⟨y, j, none⟩) (by simp; omega) (.int .i64 (1))
    rw [← hv7] at ow2' ow1' bx' br' bs' bq' bh'
    first | rw [← hv7] | skip
    clear ow1 ow2 b_x b_r b_s b_q b_h hbel hv7
    have ow1 := ow1'
    have ow2 := ow2'
    have b_x := bx'
    have b_r := br'
    have b_s := bs'
    have b_q := bq'
    have b_h := bh'
    have hbel := hb'
    clear ow1' ow2' bx' br' bs' bq' bh' hb'
    have e0 := b_x.at_ 0 rfl
    have e1 := b_x.at_ 1 rfl
    have c0 := b_q.at_ 0 rfl
    have c1 := b_q.at_ 1 rfl
    have d0 := b_h.at_ 0 rfl
    have d1 := b_h.at_ 1 rfl
    have cz := ow1.get (j := l) (by simp; omega)
    have czf := ow1.thaw l
    go_upto_region 14 with fail
    clear cz czf
    clear e0 e1 c0 c1 d0 d1
    obtain ⟨v8, hv8⟩ : ∃ V, V = v7.setCell ⟨x, l, none⟩ (.int .i64 (b - 1)) := ⟨_, rfl⟩
    have ow1' := ow1.put l (b - 1)
    have ow2' := ow2.setCell (p := ⟨x, l, none⟩) (by simp; omega) (.int .i64 (b - 1))
    have hb' : Below w.heap.size w v8 := by rw [hv8]; exact hbel.setCell (p := ⟨x, l, none⟩) (by simp; omega) _
    have bx' := b_x.far (p := ⟨x, l, none⟩) (by simp; omega) (.int .i64 (b - 1))
    have br' := b_r.far (p := ⟨x, l, none⟩) (by simp; omega) (.int .i64 (b - 1))
    have bs' := b_s.far (p := ⟨x, l, none⟩) (by simp; omega) (.int .i64 (b - 1))
    have bq' := b_q.far (p := ⟨x, l, none⟩) (by simp; omega) (.int .i64 (b - 1))
    have bh' := b_h.far (p := ⟨x, l, none⟩) (by simp; omega) (.int .i64 (b - 1))
    rw [← hv8] at ow1' ow2' bx' br' bs' bq' bh'
    first | rw [← hv8] | skip
    clear ow1 ow2 b_x b_r b_s b_q b_h hbel hv8
    have ow1 := ow1'
    have ow2 := ow2'
    have b_x := bx'
    have b_r := br'
    have b_s := bs'
    have b_q := bq'
    have b_h := bh'
    have hbel := hb'
    clear ow1' ow2' bx' br' bs' bq' bh' hb'
    have hda := HDA.out
    have hdb := HDB.out
    rw [← hda] at ow1
    rw [← hdb] at ow2
    clear hda hdb
    have hr1 := ow1.rd
    have hr2 := ow2.rd
    have e0 := b_x.at_ 0 rfl
    have e1 := b_x.at_ 1 rfl
    go_wp2_with fail
    obtain ⟨w1, hw1⟩ : ∃ V, V = v8.alloc (.cells #[.int .i64 k, .int .i64 (l : Int)] 42) := ⟨_, rfl⟩
    have b_f1 : Bx w1 v8.heap.size 42 #[.int .i64 k, .int .i64 (l : Int)] := by rw [hw1]; exact Bx.new _ _ _
    have hb : Below v8.heap.size v8 w1 := by rw [hw1]; exact (Below.refl _ _).alloc (Nat.le_refl _) _
    first | rw [← hw1] | skip
    clear hw1 e0 e1
    replace b_x := b_x.below hb
    replace b_r := b_r.below hb
    replace b_s := b_s.below hb
    replace ow1 := ow1.below hb
    replace b_q := b_q.below hb
    replace ow2 := ow2.below hb
    replace b_h := b_h.below hb
    replace hr1 := hr1.below hb
    replace hr2 := hr2.below hb
    replace hbel := hbel.trans (hb.mono hbel.size)
    clear hb
    refine (HSH.out q h x y C1 C2 v8.heap.size w1 hr1 hr2 (rdF_oneS b_f1) (b_q.at_ 0 rfl) (b_q.at_ 1 rfl) (b_h.at_ 0 rfl) (b_h.at_ 1 rfl)).mono ?_
    rintro e w2 ⟨sh, rfl, hb⟩
    clear b_f1
    replace b_x := b_x.below hb
    replace b_r := b_r.below hb
    replace b_s := b_s.below hb
    replace ow1 := ow1.below hb
    replace b_q := b_q.below hb
    replace ow2 := ow2.below hb
    replace b_h := b_h.below hb
    replace hr1 := hr1.below hb
    replace hr2 := hr2.below hb
    replace hbel := hbel.trans (hb.mono hbel.size)
    clear hb
    have r0 := b_r.at_ 0 rfl
    have r1 := b_r.at_ 1 rfl
    have f0 := b_r.thaw 0
    have f1 := b_r.thaw 1
    have t0 := b_s.at_ 0 rfl
    have t1 := b_s.at_ 1 rfl
    have g0 := b_s.thaw 0
    have g1 := b_s.thaw 1
    have hs := b_r.lt
    have hs2 := b_s.lt
    have hbs := hbel.size
    go_wp2
    exact bodyPost_ret (v := .tuple #[.agg #[.int .i64 0, .slice none 0 0], .agg #[.int .i64 0, .slice none 0 0], .int .i64 5]) (by simp [results, go_sem, r0, r1, t0, t1]) rfl
      (twoAny_err HR.out rfl (by repeat (first | with_reducible exact hbel | with_reducible refine Below.setCell ?_ (by first | omega | (simp <;> omega)) _ | with_reducible refine Below.alloc ?_ (by first | omega | (simp <;> omega)) _ | with_reducible refine Below.drew ?_)))
  | true =>
    have hO := o1
    simp only [Bool.and_eq_true] at hO
    rw [o1] at HSH
    cases o2 : okB b (wiA b m k l) with
    | false =>
      have HR := Lib.hid (HR0.out.trans (if_neg (by unfold wiOk; rw [o2]; simp)))
      have HO1 := Lib.hid o2
      clear o1 o2 hO hf
      go_enter Try.func18, Try.ntmps18
      go_upto_region 1 with fail
      obtain ⟨p, hp⟩ : ∃ g, g = w.heap.size := ⟨_, rfl⟩
      have hwp : w.heap.size ≤ p := Nat.le_of_eq hp.symm
      obtain ⟨u, hu⟩ : ∃ u, u = ((w.alloc (.cells #[.int .i64 k, .int .i64 (l : Int)] 42)).alloc (.cells #[.int .i64 0, .slice none 0 0] 31)).alloc (.cells #[.int .i64 0, .slice none 0 0] 31) := ⟨_, rfl⟩
      have b_x : Bx u p 42 #[.int .i64 k, .int .i64 (l : Int)] := by rw [hu, hp]; exact ((Bx.new _ _ _).alloc _).alloc _
      have b_r : Bx u (p + 1) 31 #[.int .i64 0, .slice none 0 0] := by rw [hu, hp]; simpa using (Bx.new (w.alloc (.cells #[.int .i64 k, .int .i64 (l : Int)] 42)) #[.int .i64 0, .slice none 0 0] 31).alloc _
      have b_s : Bx u (p + 1 + 1) 31 #[.int .i64 0, .slice none 0 0] := by rw [hu, hp]; simpa using Bx.new ((w.alloc (.cells #[.int .i64 k, .int .i64 (l : Int)] 42)).alloc (.cells #[.int .i64 0, .slice none 0 0] 31)) #[.int .i64 0, .slice none 0 0] 31
      have hb : Below w.heap.size w u := by rw [hu]; exact (by repeat (first | with_reducible exact Below.refl _ _ | with_reducible refine Below.setCell ?_ (by first | omega | (simp <;> omega)) _ | with_reducible refine Below.alloc ?_ (by first | omega | (simp <;> omega)) _ | with_reducible refine Below.drew ?_))
      have hus : u.heap.size = p + 1 + 1 + 1 := by rw [hu, hp]; simp
      rw [← hu, ← hp]
      clear hu hp
      replace hbel := hbel.trans (hb.mono hbel.size)
      clear hb
      go_wp2_with fail
      refine (HB.out u).mono ?_
      rintro e v ⟨rfl, hw⟩
      subst v
      have c0 := b_x.at_ 0 rfl
      have c1 := b_x.at_ 1 rfl
      go_wp2_with fail
      obtain ⟨v0, hv0⟩ : ∃ V, V = u.alloc (.cells #[.int .i64 k, .int .i64 (l : Int)] 42) := ⟨_, rfl⟩
      have b_f0 : Bx v0 u.heap.size 42 #[.int .i64 k, .int .i64 (l : Int)] := by rw [hv0]; exact Bx.new _ _ _
      have hb : Below u.heap.size u v0 := by rw [hv0]; exact (Below.refl _ _).alloc (Nat.le_refl _) _
      rw [← hv0]
      clear hv0 c0 c1
      first | rw [← hus] | skip
      refine (l08Ok_at (m : Int) (some ⟨u.heap.size, 0, none⟩) 1 [(k, (l : Int))] v0 HF.out (rdF_oneS b_f0)).mono ?_
      clear b_f0
      replace b_x := b_x.below hb
      replace b_r := b_r.below hb
      replace b_s := b_s.below hb
      replace hbel := hbel.trans (hb.mono hbel.size)
      clear hb
      rintro e v ⟨rfl, hb⟩
      replace b_x := b_x.below hb
      replace b_r := b_r.below hb
      replace b_s := b_s.below hb
      replace hbel := hbel.trans (hb.mono hbel.size)
      clear hb
      have hpv : p + 1 + 1 < v.heap.size := b_s.lt
      have hwv : w.heap.size ≤ v.heap.size := hbel.size
      go_wp2_with fail
      refine (HN.out v).mono ?_
      rintro e v2 ⟨A1, C1, rfl, ow1, hb⟩
      have hv2 := hb.size
      replace b_x := b_x.below hb
      replace b_r := b_r.below hb
      replace b_s := b_s.below hb
      replace hbel := hbel.trans (hb.mono hbel.size)
      clear hb
      obtain ⟨x, rfl⟩ := own_at0 ow1 (by omega)
      have hx2 := ow1.block
      go_upto_region 4 with fail
      obtain ⟨q, hq⟩ : ∃ g, g = v2.heap.size := ⟨_, rfl⟩
      have hk_q : v2.heap.size ≤ q := Nat.le_of_eq hq.symm
      obtain ⟨v3, hv3⟩ : ∃ V, V = v2.alloc (.cells #[.int .i64 b, .slice (some ⟨x, 0, none⟩) m C1] 31) := ⟨_, rfl⟩
      have b_q : Bx v3 q 31 #[.int .i64 b, .slice (some ⟨x, 0, none⟩) m C1] := by rw [hv3, hq]; exact Bx.new _ _ _
      have hb : Below v2.heap.size v2 v3 := by rw [hv3]; exact (Below.refl _ _).alloc (Nat.le_refl _) _
      rw [← hq, ← hv3]
      clear hv3 hq
      replace b_x := b_x.below hb
      replace b_r := b_r.below hb
      replace b_s := b_s.below hb
      replace ow1 := ow1.below hb
      replace hbel := hbel.trans (hb.mono hbel.size)
      clear hb
      have hq3 := b_q.lt
      go_wp2_with fail
      refine (HN.out v3).mono ?_
      rintro e v4 ⟨A2, C2, rfl, ow2, hb⟩
      have hv4 := hb.size
      replace b_x := b_x.below hb
      replace b_r := b_r.below hb
      replace b_s := b_s.below hb
      replace ow1 := ow1.below hb
      replace b_q := b_q.below hb
      replace hbel := hbel.trans (hb.mono hbel.size)
      clear hb
      obtain ⟨y, rfl⟩ := own_at0 ow2 (by omega)
      have hy2 := ow2.block
      go_upto_region 5 with fail
      obtain ⟨h, hh⟩ : ∃ g, g = v4.heap.size := ⟨_, rfl⟩
      have hk_h : v4.heap.size ≤ h := Nat.le_of_eq hh.symm
      obtain ⟨v5, hv5⟩ : ∃ V, V = v4.alloc (.cells #[.int .i64 b, .slice (some ⟨y, 0, none⟩) m C2] 31) := ⟨_, rfl⟩
      have b_h : Bx v5 h 31 #[.int .i64 b, .slice (some ⟨y, 0, none⟩) m C2] := by rw [hv5, hh]; exact Bx.new _ _ _
      have hb : Below v4.heap.size v4 v5 := by rw [hv5]; exact (Below.refl _ _).alloc (Nat.le_refl _) _
      rw [← hh, ← hv5]
      clear hv5 hh
      replace b_x := b_x.below hb
      replace b_r := b_r.below hb
      replace b_s := b_s.below hb
      replace ow1 := ow1.below hb
      replace b_q := b_q.below hb
      replace ow2 := ow2.below hb
      replace hbel := hbel.trans (hb.mono hbel.size)
      clear hb
      have hh5 := b_h.lt
      have hqx : x < q := by omega
      have hqy : q < y := by omega
      have hyh : y < h := by omega
      have hpx : p + 1 + 1 < x := by omega
      obtain ⟨z1, hz1⟩ : ∃ z, z = v2.heap.size := ⟨_, rfl⟩
      obtain ⟨z2, hz2⟩ : ∃ z, z = v4.heap.size := ⟨_, rfl⟩
      obtain ⟨z0, hz0⟩ : ∃ z, z = v.heap.size := ⟨_, rfl⟩
      obtain ⟨z3, hz3⟩ : ∃ z, z = v3.heap.size := ⟨_, rfl⟩
      rw [← hz0, ← hz1] at ow1
      rw [← hz3, ← hz2] at ow2
      have hz4 : z0 ≤ x ∧ x < z1 ∧ z1 ≤ q ∧ q < z3 ∧ z3 ≤ y ∧ y < z2 ∧ z2 ≤ h ∧ p + 1 + 1 < z0 ∧ w.heap.size ≤ z0 := by omega
      clear hz0 hz1 hz2 hz3 hv2 hv4 hq3 hx2 hy2
      have e0 := b_x.at_ 0 rfl
      have e1 := b_x.at_ 1 rfl
      have c0 := b_q.at_ 0 rfl
      have c1 := b_q.at_ 1 rfl
      have d0 := b_h.at_ 0 rfl
      have d1 := b_h.at_ 1 rfl
      have cx := ow1.get (j := j) (by simp; omega)
      have cxf := ow1.thaw j
      go_upto_region 10 with fail
      clear cx cxf
      clear e0 e1 c0 c1 d0 d1
      obtain ⟨v6, hv6⟩ : ∃ V, V = v5.setCell ⟨x, j, none⟩ (.int .i64 (b - 1)) := ⟨_, rfl⟩
      have ow1' := ow1.put j (b - 1)
      have ow2' := ow2.setCell (p := ⟨x, j, none⟩) (by simp; omega) (.int .i64 (b - 1))
      have hb' : Below w.heap.size w v6 := by rw [hv6]; exact hbel.setCell (p := ⟨x, j, none⟩) (by simp; omega) _
      have bx' := b_x.far (p := ⟨x, j, none⟩) (by simp; omega) (.int .i64 (b - 1))
      have br' := b_r.far (p := ⟨x, j, none⟩) (by simp; omega) (.int .i64 (b - 1))
      have bs' := b_s.far (p := ⟨x, j, none⟩) (by simp; omega) (.int .i64 (b - 1))
      have bq' := b_q.far (p := ⟨x, j, none⟩) (by simp; omega) (.int .i64 (b - 1))
      have bh' := b_h.far (p := ⟨x, j, none⟩) (by simp; omega) (.int .i64 (b - 1))
      rw [← hv6] at ow1' ow2' bx' br' bs' bq' bh'
      first | rw [← hv6] | skip
      clear ow1 ow2 b_x b_r b_s b_q b_h hbel hv6
      have ow1 := ow1'
      have ow2 := ow2'
      have b_x := bx'
      have b_r := br'
      have b_s := bs'
      have b_q := bq'
      have b_h := bh'
      have hbel := hb'
      clear ow1' ow2' bx' br' bs' bq' bh' hb'
      have e0 := b_x.at_ 0 rfl
      have e1 := b_x.at_ 1 rfl
      have c0 := b_q.at_ 0 rfl
      have c1 := b_q.at_ 1 rfl
      have d0 := b_h.at_ 0 rfl
      have d1 := b_h.at_ 1 rfl
      have cy := ow2.get (j := j) (by simp; omega)
      have cyf := ow2.thaw j
      go_upto_region 11 with fail
      clear cy cyf
      clear e0 e1 c0 c1 d0 d1
      obtain ⟨v7, hv7⟩ : ∃ V, V = v6.setCell ⟨y, j, none⟩ (.int .i64 (1)) := ⟨_, rfl⟩
      have ow2' := ow2.put j (1)
      have ow1' := ow1.setCell (p := ⟨y, j, none⟩) (by simp; omega) (.int .i64 (1))
      have hb' : Below w.heap.size w v7 := by rw [hv7]; exact hbel.setCell (p := ⟨y, j, none⟩) (by simp; omega) _
      have bx' := b_x.far (p := ⟨y, j, none⟩) (by simp; omega) (.int .i64 (1))
      have br' := b_r.far (p := ⟨y, j, none⟩) (by simp; omega) (.int .i64 (1))
      have bs' := b_s.far (p := ⟨y, j, none⟩) (by simp; omega) (.int .i64 (1))
      have bq' := b_q.far (p := ⟨y, j, none⟩) (by simp; omega) (.int .i64 (1))
      have bh' := b_h.far (p := ⟨y, j, none⟩) (by simp; omega) (.int .i64 (1))
      rw [← hv7] at ow2' ow1' bx' br' bs' bq' bh'
      first | rw [← hv7] | skip
      clear ow1 ow2 b_x b_r b_s b_q b_h hbel hv7
      have ow1 := ow1'
      have ow2 := ow2'
      have b_x := bx'
      have b_r := br'
      have b_s := bs'
      have b_q := bq'
      have b_h := bh'
      have hbel := hb'
      clear ow1' ow2' bx' br' bs' bq' bh' hb'
      have e0 := b_x.at_ 0 rfl
      have e1 := b_x.at_ 1 rfl
      have c0 := b_q.at_ 0 rfl
      have c1 := b_q.at_ 1 rfl
      have d0 := b_h.at_ 0 rfl
      have d1 := b_h.at_ 1 rfl
      have cz := ow1.get (j := l) (by simp; omega)
      have czf := ow1.thaw l
      go_upto_region 14 with fail
      clear cz czf
      clear e0 e1 c0 c1 d0 d1
      obtain ⟨v8, hv8⟩ : ∃ V, V = v7.setCell ⟨x, l, none⟩ (.int .i64 (b - 1)) := ⟨_, rfl⟩
      have ow1' := ow1.put l (b - 1)
      have ow2' := ow2.setCell (p := ⟨x, l, none⟩) (by simp; omega) (.int .i64 (b - 1))
      have hb' : Below w.heap.size w v8 := by rw [hv8]; exact hbel.setCell (p := ⟨x, l, none⟩) (by simp; omega) _
      have bx' := b_x.far (p := ⟨x, l, none⟩) (by simp; omega) (.int .i64 (b - 1))
      have br' := b_r.far (p := ⟨x, l, none⟩) (by simp; omega) (.int .i64 (b - 1))
      have bs' := b_s.far (p := ⟨x, l, none⟩) (by simp; omega) (.int .i64 (b - 1))
      have bq' := b_q.far (p := ⟨x, l, none⟩) (by simp; omega) (.int .i64 (b - 1))
      have bh' := b_h.far (p := ⟨x, l, none⟩) (by simp; omega) (.int .i64 (b - 1))
      rw [← hv8] at ow1' ow2' bx' br' bs' bq' bh'
      first | rw [← hv8] | skip
      clear ow1 ow2 b_x b_r b_s b_q b_h hbel hv8
      have ow1 := ow1'
      have ow2 := ow2'
      have b_x := bx'
      have b_r := br'
      have b_s := bs'
      have b_q := bq'
      have b_h := bh'
      have hbel := hb'
      clear ow1' ow2' bx' br' bs' bq' bh' hb'
      have hda := HDA.out
      have hdb := HDB.out
      rw [← hda] at ow1
      rw [← hdb] at ow2
      clear hda hdb
      have hr1 := ow1.rd
      have hr2 := ow2.rd
      have e0 := b_x.at_ 0 rfl
      have e1 := b_x.at_ 1 rfl
      go_wp2_with fail
      obtain ⟨w1, hw1⟩ : ∃ V, V = v8.alloc (.cells #[.int .i64 k, .int .i64 (l : Int)] 42) := ⟨_, rfl⟩
      have b_f1 : Bx w1 v8.heap.size 42 #[.int .i64 k, .int .i64 (l : Int)] := by rw [hw1]; exact Bx.new _ _ _
      have hb : Below v8.heap.size v8 w1 := by rw [hw1]; exact (Below.refl _ _).alloc (Nat.le_refl _) _
      first | rw [← hw1] | skip
      clear hw1 e0 e1
      replace b_x := b_x.below hb
      replace b_r := b_r.below hb
      replace b_s := b_s.below hb
      replace ow1 := ow1.below hb
      replace b_q := b_q.below hb
      replace ow2 := ow2.below hb
      replace b_h := b_h.below hb
      replace hr1 := hr1.below hb
      replace hr2 := hr2.below hb
      replace hbel := hbel.trans (hb.mono hbel.size)
      clear hb
      refine (HSH.out q h x y C1 C2 v8.heap.size w1 hr1 hr2 (rdF_oneS b_f1) (b_q.at_ 0 rfl) (b_q.at_ 1 rfl) (b_h.at_ 0 rfl) (b_h.at_ 1 rfl)).mono ?_
      rintro e w2 ⟨sh, rfl, hb⟩
      clear b_f1
      replace b_x := b_x.below hb
      replace b_r := b_r.below hb
      replace b_s := b_s.below hb
      replace ow1 := ow1.below hb
      replace b_q := b_q.below hb
      replace ow2 := ow2.below hb
      replace b_h := b_h.below hb
      replace hr1 := hr1.below hb
      replace hr2 := hr2.below hb
      replace hbel := hbel.trans (hb.mono hbel.size)
      clear hb
      go_wp2_with fail
      refine (l02Ok_at0 q b (some ⟨x, 0, none⟩) C1 (wiA b m k l) w2 HO1.out hr1 (b_q.at_ 0 rfl) (by rw [wi_len]; exact b_q.at_ 1 rfl)).mono ?_
      rintro e w3 ⟨rfl, n3, hw3⟩
      have hb : Below w2.heap.size w2 w3 := by rw [hw3]; exact bel_drewN (Below.refl _ _) n3
      clear hw3
      replace b_x := b_x.below hb
      replace b_r := b_r.below hb
      replace b_s := b_s.below hb
      replace ow1 := ow1.below hb
      replace b_q := b_q.below hb
      replace ow2 := ow2.below hb
      replace b_h := b_h.below hb
      replace hr1 := hr1.below hb
      replace hr2 := hr2.below hb
      replace hbel := hbel.trans (hb.mono hbel.size)
      clear hb
      have r0 := b_r.at_ 0 rfl
      have r1 := b_r.at_ 1 rfl
      have f0 := b_r.thaw 0
      have f1 := b_r.thaw 1
      have t0 := b_s.at_ 0 rfl
      have t1 := b_s.at_ 1 rfl
      have g0 := b_s.thaw 0
      have g1 := b_s.thaw 1
      have hs := b_r.lt
      have hs2 := b_s.lt
      have hbs := hbel.size
      go_wp2
      exact bodyPost_ret (v := .tuple #[.agg #[.int .i64 0, .slice none 0 0], .agg #[.int .i64 0, .slice none 0 0], .int .i64 5]) (by simp [results, go_sem, r0, r1, t0, t1]) rfl
        (twoAny_err HR.out rfl (by repeat (first | with_reducible exact hbel | with_reducible refine Below.setCell ?_ (by first | omega | (simp <;> omega)) _ | with_reducible refine Below.alloc ?_ (by first | omega | (simp <;> omega)) _ | with_reducible refine Below.drew ?_)))
    | true =>
      have HO1 := Lib.hid o2
      cases o3 : okB b (wiB m k l) with
      | false =>
        have HR := Lib.hid (HR0.out.trans (if_neg (by unfold wiOk; rw [o3]; simp)))
        have HO2 := Lib.hid o3
        clear o1 o2 o3 hO hf
        go_enter Try.func18, Try.ntmps18
        go_upto_region 1 with fail
        obtain ⟨p, hp⟩ : ∃ g, g = w.heap.size := ⟨_, rfl⟩
        have hwp : w.heap.size ≤ p := Nat.le_of_eq hp.symm
        obtain ⟨u, hu⟩ : ∃ u, u = ((w.alloc (.cells #[.int .i64 k, .int .i64 (l : Int)] 42)).alloc (.cells #[.int .i64 0, .slice none 0 0] 31)).alloc (.cells #[.int .i64 0, .slice none 0 0] 31) := ⟨_, rfl⟩
        have b_x : Bx u p 42 #[.int .i64 k, .int .i64 (l : Int)] := by rw [hu, hp]; exact ((Bx.new _ _ _).alloc _).alloc _
        have b_r : Bx u (p + 1) 31 #[.int .i64 0, .slice none 0 0] := by rw [hu, hp]; simpa using (Bx.new (w.alloc (.cells #[.int .i64 k, .int .i64 (l : Int)] 42)) #[.int .i64 0, .slice none 0 0] 31).alloc _
        have b_s : Bx u (p + 1 + 1) 31 #[.int .i64 0, .slice none 0 0] := by rw [hu, hp]; simpa using Bx.new ((w.alloc (.cells #[.int .i64 k, .int .i64 (l : Int)] 42)).alloc (.cells #[.int .i64 0, .slice none 0 0] 31)) #[.int .i64 0, .slice none 0 0] 31
        have hb : Below w.heap.size w u := by rw [hu]; exact (by repeat (first | with_reducible exact Below.refl _ _ | with_reducible refine Below.setCell ?_ (by first | omega | (simp <;> omega)) _ | with_reducible refine Below.alloc ?_ (by first | omega | (simp <;> omega)) _ | with_reducible refine Below.drew ?_))
        have hus : u.heap.size = p + 1 + 1 + 1 := by rw [hu, hp]; simp
        rw [← hu, ← hp]
        clear hu hp
        replace hbel := hbel.trans (hb.mono hbel.size)
        clear hb
        go_wp2_with fail
        refine (HB.out u).mono ?_
        rintro e v ⟨rfl, hw⟩
        subst v
        have c0 := b_x.at_ 0 rfl
        have c1 := b_x.at_ 1 rfl
        go_wp2_with fail
        obtain ⟨v0, hv0⟩ : ∃ V, V = u.alloc (.cells #[.int .i64 k, .int .i64 (l : Int)] 42) := ⟨_, rfl⟩
        have b_f0 : Bx v0 u.heap.size 42 #[.int .i64 k, .int .i64 (l : Int)] := by rw [hv0]; exact Bx.new _ _ _
        have hb : Below u.heap.size u v0 := by rw [hv0]; exact (Below.refl _ _).alloc (Nat.le_refl _) _
        rw [← hv0]
        clear hv0 c0 c1
        first | rw [← hus] | skip
        refine (l08Ok_at (m : Int) (some ⟨u.heap.size, 0, none⟩) 1 [(k, (l : Int))] v0 HF.out (rdF_oneS b_f0)).mono ?_
        clear b_f0
        replace b_x := b_x.below hb
        replace b_r := b_r.below hb
        replace b_s := b_s.below hb
        replace hbel := hbel.trans (hb.mono hbel.size)
        clear hb
        rintro e v ⟨rfl, hb⟩
        replace b_x := b_x.below hb
        replace b_r := b_r.below hb
        replace b_s := b_s.below hb
        replace hbel := hbel.trans (hb.mono hbel.size)
        clear hb
        have hpv : p + 1 + 1 < v.heap.size := b_s.lt
        have hwv : w.heap.size ≤ v.heap.size := hbel.size
        go_wp2_with fail
        refine (HN.out v).mono ?_
        rintro e v2 ⟨A1, C1, rfl, ow1, hb⟩
        have hv2 := hb.size
        replace b_x := b_x.below hb
        replace b_r := b_r.below hb
        replace b_s := b_s.below hb
        replace hbel := hbel.trans (hb.mono hbel.size)
        clear hb
        obtain ⟨x, rfl⟩ := own_at0 ow1 (by omega)
        have hx2 := ow1.block
        go_upto_region 4 with fail
        obtain ⟨q, hq⟩ : ∃ g, g = v2.heap.size := ⟨_, rfl⟩
        have hk_q : v2.heap.size ≤ q := Nat.le_of_eq hq.symm
        obtain ⟨v3, hv3⟩ : ∃ V, V = v2.alloc (.cells #[.int .i64 b, .slice (some ⟨x, 0, none⟩) m C1] 31) := ⟨_, rfl⟩
        have b_q : Bx v3 q 31 #[.int .i64 b, .slice (some ⟨x, 0, none⟩) m C1] := by rw [hv3, hq]; exact Bx.new _ _ _
        have hb : Below v2.heap.size v2 v3 := by rw [hv3]; exact (Below.refl _ _).alloc (Nat.le_refl _) _
        rw [← hq, ← hv3]
        clear hv3 hq
        replace b_x := b_x.below hb
        replace b_r := b_r.below hb
        replace b_s := b_s.below hb
        replace ow1 := ow1.below hb
        replace hbel := hbel.trans (hb.mono hbel.size)
        clear hb
        have hq3 := b_q.lt
        go_wp2_with fail
        refine (HN.out v3).mono ?_
        rintro e v4 ⟨A2, C2, rfl, ow2, hb⟩
        have hv4 := hb.size
        replace b_x := b_x.below hb
        replace b_r := b_r.below hb
        replace b_s := b_s.below hb
        replace ow1 := ow1.below hb
        replace b_q := b_q.below hb
        replace hbel := hbel.trans (hb.mono hbel.size)
        clear hb
        obtain ⟨y, rfl⟩ := own_at0 ow2 (by omega)
        have hy2 := ow2.block
        go_upto_region 5 with fail
        obtain ⟨h, hh⟩ : ∃ g, g = v4.heap.size := ⟨_, rfl⟩
        have hk_h : v4.heap.size ≤ h := Nat.le_of_eq hh.symm
        obtain ⟨v5, hv5⟩ : ∃ V, V = v4.alloc (.cells #[.int .i64 b, .slice (some ⟨y, 0, none⟩) m C2] 31) := ⟨_, rfl⟩
        have b_h : Bx v5 h 31 #[.int .i64 b, .slice (some ⟨y, 0, none⟩) m C2] := by rw [hv5, hh]; exact Bx.new _ _ _
        have hb : Below v4.heap.size v4 v5 := by rw [hv5]; exact (Below.refl _ _).alloc (Nat.le_refl _) _
        rw [← hh, ← hv5]
        clear hv5 hh
        replace b_x := b_x.below hb
        replace b_r := b_r.below hb
        replace b_s := b_s.below hb
        replace ow1 := ow1.below hb
        replace b_q := b_q.below hb
        replace ow2 := ow2.below hb
        replace hbel := hbel.trans (hb.mono hbel.size)
        clear hb
        have hh5 := b_h.lt
        have hqx : x < q := by omega
        have hqy : q < y := by omega
        have hyh : y < h := by omega
        have hpx : p + 1 + 1 < x := by omega
        obtain ⟨z1, hz1⟩ : ∃ z, z = v2.heap.size := ⟨_, rfl⟩
        obtain ⟨z2, hz2⟩ : ∃ z, z = v4.heap.size := ⟨_, rfl⟩
        obtain ⟨z0, hz0⟩ : ∃ z, z = v.heap.size := ⟨_, rfl⟩
        obtain ⟨z3, hz3⟩ : ∃ z, z = v3.heap.size := ⟨_, rfl⟩
        rw [← hz0, ← hz1] at ow1
        rw [← hz3, ← hz2] at ow2
        have hz4 : z0 ≤ x ∧ x < z1 ∧ z1 ≤ q ∧ q < z3 ∧ z3 ≤ y ∧ y < z2 ∧ z2 ≤ h ∧ p + 1 + 1 < z0 ∧ w.heap.size ≤ z0 := by omega
        clear hz0 hz1 hz2 hz3 hv2 hv4 hq3 hx2 hy2
        have e0 := b_x.at_ 0 rfl
        have e1 := b_x.at_ 1 rfl
        have c0 := b_q.at_ 0 rfl
        have c1 := b_q.at_ 1 rfl
        have d0 := b_h.at_ 0 rfl
        have d1 := b_h.at_ 1 rfl
        have cx := ow1.get (j := j) (by simp; omega)
        have cxf := ow1.thaw j
        go_upto_region 10 with fail
        clear cx cxf
        clear e0 e1 c0 c1 d0 d1
        obtain ⟨v6, hv6⟩ : ∃ V, V = v5.setCell ⟨x, j, none⟩ (.int .i64 (b - 1)) := ⟨_, rfl⟩
        have ow1' := ow1.put j (b - 1)
        have ow2' := ow2.setCell (p := ⟨x, j, none⟩) (by simp; omega) (.int .i64 (b - 1))
        have hb' : Below w.heap.size w v6 := by rw [hv6]; exact hbel.setCell (p := ⟨x, j, none⟩) (by simp; omega) _
        have bx' := b_x.far (p := ⟨x, j, none⟩) (by simp; omega) (.int .i64 (b - 1))
        have br' := b_r.far (p := ⟨x, j, none⟩) (by simp; omega) (.int .i64 (b - 1))
        have bs' := b_s.far (p := ⟨x, j, none⟩) (by simp; omega) (.int .i64 (b - 1))
        have bq' := b_q.far (p := ⟨x, j, none⟩) (by simp; omega) (.int .i64 (b - 1))
        have bh' := b_h.far (p := ⟨x, j, none⟩) (by simp; omega) (.int .i64 (b - 1))
        rw [← hv6] at ow1' ow2' bx' br' bs' bq' bh'
        first | rw [← hv6] | skip
        clear ow1 ow2 b_x b_r b_s b_q b_h hbel hv6
        have ow1 := ow1'
        have ow2 := ow2'
        have b_x := bx'
        have b_r := br'
        have b_s := bs'
        have b_q := bq'
        have b_h := bh'
        have hbel := hb'
        clear ow1' ow2' bx' br' bs' bq' bh' hb'
        have e0 := b_x.at_ 0 rfl
        have e1 := b_x.at_ 1 rfl
        have c0 := b_q.at_ 0 rfl
        have c1 := b_q.at_ 1 rfl
        have d0 := b_h.at_ 0 rfl
        have d1 := b_h.at_ 1 rfl
        have cy := ow2.get (j := j) (by simp; omega)
        have cyf := ow2.thaw j
        go_upto_region 11 with fail
        clear cy cyf
        clear e0 e1 c0 c1 d0 d1
        obtain ⟨v7, hv7⟩ : ∃ V, V = v6.setCell ⟨y, j, none⟩ (.int .i64 (1)) := ⟨_, rfl⟩
        have ow2' := ow2.put j (1)
        have ow1' := ow1.setCell (p := ⟨y, j, none⟩) (by simp; omega) (.int .i64 (1))
        have hb' : Below w.heap.size w v7 := by rw [hv7]; exact hbel.setCell (p := ⟨y, j, none⟩) (by simp; omega) _
        have bx' := b_x.far (p := ⟨y, j, none⟩) (by simp; omega) (.int .i64 (1))
        have br' := b_r.far (p := ⟨y, j, none⟩) (by simp; omega) (.int .i64 (1))
        have bs' := b_s.far (p := ⟨y, j, none⟩) (by simp; omega) (.int .i64 (1))
        have bq' := b_q.far (p := ⟨y, j, none⟩) (by simp; omega) (.int .i64 (1))
        have bh' := b_h.far (p := ⟨y, j, none⟩) (by simp; omega) (.int .i64 (1))
        rw [← hv7] at ow2' ow1' bx' br' bs' bq' bh'
        first | rw [← hv7] | skip
        clear ow1 ow2 b_x b_r b_s b_q b_h hbel hv7
        have ow1 := ow1'
        have ow2 := ow2'
        have b_x := bx'
        have b_r := br'
        have b_s := bs'
        have b_q := bq'
        have b_h := bh'
        have hbel := hb'
        clear ow1' ow2' bx' br' bs' bq' bh' hb'
        have e0 := b_x.at_ 0 rfl
        have e1 := b_x.at_ 1 rfl
        have c0 := b_q.at_ 0 rfl
        have c1 := b_q.at_ 1 rfl
        have d0 := b_h.at_ 0 rfl
        have d1 := b_h.at_ 1 rfl
        have cz := ow1.get (j := l) (by simp; omega)
        have czf := ow1.thaw l
        go_upto_region 14 with fail
        clear cz czf
        clear e0 e1 c0 c1 d0 d1
        obtain ⟨v8, hv8⟩ : ∃ V, V = v7.setCell ⟨x, l, none⟩ (.int .i64 (b - 1)) := ⟨_, rfl⟩
        have ow1' := ow1.put l (b - 1)
        have ow2' := ow2.setCell (p := ⟨x, l, none⟩) (by simp; omega) (.int .i64 (b - 1))
        have hb' : Below w.heap.size w v8 := by rw [hv8]; exact hbel.setCell (p := ⟨x, l, none⟩) (by simp; omega) _
        have bx' := b_x.far (p := ⟨x, l, none⟩) (by simp; omega) (.int .i64 (b - 1))
        have br' := b_r.far (p := ⟨x, l, none⟩) (by simp; omega) (.int .i64 (b - 1))
        have bs' := b_s.far (p := ⟨x, l, none⟩) (by simp; omega) (.int .i64 (b - 1))
        have bq' := b_q.far (p := ⟨x, l, none⟩) (by simp; omega) (.int .i64 (b - 1))
        have bh' := b_h.far (p := ⟨x, l, none⟩) (by simp; omega) (.int .i64 (b - 1))
        rw [← hv8] at ow1' ow2' bx' br' bs' bq' bh'
        first | rw [← hv8] | skip
        clear ow1 ow2 b_x b_r b_s b_q b_h hbel hv8
        have ow1 := ow1'
        have ow2 := ow2'
        have b_x := bx'
        have b_r := br'
        have b_s := bs'
        have b_q := bq'
        have b_h := bh'
        have hbel := hb'
        clear ow1' ow2' bx' br' bs' bq' bh' hb'
        have hda := HDA.out
        have hdb := HDB.out
        rw [← hda] at ow1
        rw [← hdb] at ow2
        clear hda hdb
        have hr1 := ow1.rd
        have hr2 := ow2.rd
        have e0 := b_x.at_ 0 rfl
        have e1 := b_x.at_ 1 rfl
        go_wp2_with fail
        obtain ⟨w1, hw1⟩ : ∃ V, V = v8.alloc (.cells #[.int .i64 k, .int .i64 (l : Int)] 42) := ⟨_, rfl⟩
        have b_f1 : Bx w1 v8.heap.size 42 #[.int .i64 k, .int .i64 (l : Int)] := by rw [hw1]; exact Bx.new _ _ _
        have hb : Below v8.heap.size v8 w1 := by rw [hw1]; exact (Below.refl _ _).alloc (Nat.le_refl _) _
        first | rw [← hw1] | skip
        clear hw1 e0 e1
        replace b_x := b_x.below hb
        replace b_r := b_r.below hb
        replace b_s := b_s.below hb
        replace ow1 := ow1.below hb
        replace b_q := b_q.below hb
        replace ow2 := ow2.below hb
        replace b_h := b_h.below hb
        replace hr1 := hr1.below hb
        replace hr2 := hr2.below hb
        replace hbel := hbel.trans (hb.mono hbel.size)
        clear hb
        refine (HSH.out q h x y C1 C2 v8.heap.size w1 hr1 hr2 (rdF_oneS b_f1) (b_q.at_ 0 rfl) (b_q.at_ 1 rfl) (b_h.at_ 0 rfl) (b_h.at_ 1 rfl)).mono ?_
        rintro e w2 ⟨sh, rfl, hb⟩
        clear b_f1
        replace b_x := b_x.below hb
        replace b_r := b_r.below hb
        replace b_s := b_s.below hb
        replace ow1 := ow1.below hb
        replace b_q := b_q.below hb
        replace ow2 := ow2.below hb
        replace b_h := b_h.below hb
        replace hr1 := hr1.below hb
        replace hr2 := hr2.below hb
        replace hbel := hbel.trans (hb.mono hbel.size)
        clear hb
        go_wp2_with fail
        refine (l02Ok_at0 q b (some ⟨x, 0, none⟩) C1 (wiA b m k l) w2 HO1.out hr1 (b_q.at_ 0 rfl) (by rw [wi_len]; exact b_q.at_ 1 rfl)).mono ?_
        rintro e w3 ⟨rfl, n3, hw3⟩
        have hb : Below w2.heap.size w2 w3 := by rw [hw3]; exact bel_drewN (Below.refl _ _) n3
        clear hw3
        replace b_x := b_x.below hb
        replace b_r := b_r.below hb
        replace b_s := b_s.below hb
        replace ow1 := ow1.below hb
        replace b_q := b_q.below hb
        replace ow2 := ow2.below hb
        replace b_h := b_h.below hb
        replace hr1 := hr1.below hb
        replace hr2 := hr2.below hb
        replace hbel := hbel.trans (hb.mono hbel.size)
        clear hb
        go_wp2_with fail
        refine (l02Ok_at0 h b (some ⟨y, 0, none⟩) C2 (wiB m k l) w3 HO2.out hr2 (b_h.at_ 0 rfl) (by rw [wiB_len]; exact b_h.at_ 1 rfl)).mono ?_
        rintro e w4 ⟨rfl, n4, hw4⟩
        have hb : Below w3.heap.size w3 w4 := by rw [hw4]; exact bel_drewN (Below.refl _ _) n4
        clear hw4
        replace b_x := b_x.below hb
        replace b_r := b_r.below hb
        replace b_s := b_s.below hb
        replace ow1 := ow1.below hb
        replace b_q := b_q.below hb
        replace ow2 := ow2.below hb
        replace b_h := b_h.below hb
        replace hr1 := hr1.below hb
        replace hr2 := hr2.below hb
        replace hbel := hbel.trans (hb.mono hbel.size)
        clear hb
        have r0 := b_r.at_ 0 rfl
        have r1 := b_r.at_ 1 rfl
        have f0 := b_r.thaw 0
        have f1 := b_r.thaw 1
        have t0 := b_s.at_ 0 rfl
        have t1 := b_s.at_ 1 rfl
        have g0 := b_s.thaw 0
        have g1 := b_s.thaw 1
        have hs := b_r.lt
        have hs2 := b_s.lt
        have hbs := hbel.size
        go_wp2
        exact bodyPost_ret (v := .tuple #[.agg #[.int .i64 0, .slice none 0 0], .agg #[.int .i64 0, .slice none 0 0], .int .i64 5]) (by simp [results, go_sem, r0, r1, t0, t1]) rfl
          (twoAny_err HR.out rfl (by repeat (first | with_reducible exact hbel | with_reducible refine Below.setCell ?_ (by first | omega | (simp <;> omega)) _ | with_reducible refine Below.alloc ?_ (by first | omega | (simp <;> omega)) _ | with_reducible refine Below.drew ?_)))
      | true =>
        have HR := Lib.hid (HR0.out.trans (if_pos (by unfold wiOk; rw [o2, o3, hO.1, hO.2]; rfl)))
        have HO2 := Lib.hid o3
        clear o1 o2 o3 hO hf
        go_enter Try.func18, Try.ntmps18
        go_upto_region 1 with fail
        obtain ⟨p, hp⟩ : ∃ g, g = w.heap.size := ⟨_, rfl⟩
        have hwp : w.heap.size ≤ p := Nat.le_of_eq hp.symm
        obtain ⟨u, hu⟩ : ∃ u, u = ((w.alloc (.cells #[.int .i64 k, .int .i64 (l : Int)] 42)).alloc (.cells #[.int .i64 0, .slice none 0 0] 31)).alloc (.cells #[.int .i64 0, .slice none 0 0] 31) := ⟨_, rfl⟩
        have b_x : Bx u p 42 #[.int .i64 k, .int .i64 (l : Int)] := by rw [hu, hp]; exact ((Bx.new _ _ _).alloc _).alloc _
        have b_r : Bx u (p + 1) 31 #[.int .i64 0, .slice none 0 0] := by rw [hu, hp]; simpa using (Bx.new (w.alloc (.cells #[.int .i64 k, .int .i64 (l : Int)] 42)) #[.int .i64 0, .slice none 0 0] 31).alloc _
        have b_s : Bx u (p + 1 + 1) 31 #[.int .i64 0, .slice none 0 0] := by rw [hu, hp]; simpa using Bx.new ((w.alloc (.cells #[.int .i64 k, .int .i64 (l : Int)] 42)).alloc (.cells #[.int .i64 0, .slice none 0 0] 31)) #[.int .i64 0, .slice none 0 0] 31
        have hb : Below w.heap.size w u := by rw [hu]; exact (by repeat (first | with_reducible exact Below.refl _ _ | with_reducible refine Below.setCell ?_ (by first | omega | (simp <;> omega)) _ | with_reducible refine Below.alloc ?_ (by first | omega | (simp <;> omega)) _ | with_reducible refine Below.drew ?_))
        have hus : u.heap.size = p + 1 + 1 + 1 := by rw [hu, hp]; simp
        rw [← hu, ← hp]
        clear hu hp
        replace hbel := hbel.trans (hb.mono hbel.size)
        clear hb
        go_wp2_with fail
        refine (HB.out u).mono ?_
        rintro e v ⟨rfl, hw⟩
        subst v
        have c0 := b_x.at_ 0 rfl
        have c1 := b_x.at_ 1 rfl
        go_wp2_with fail
        obtain ⟨v0, hv0⟩ : ∃ V, V = u.alloc (.cells #[.int .i64 k, .int .i64 (l : Int)] 42) := ⟨_, rfl⟩
        have b_f0 : Bx v0 u.heap.size 42 #[.int .i64 k, .int .i64 (l : Int)] := by rw [hv0]; exact Bx.new _ _ _
        have hb : Below u.heap.size u v0 := by rw [hv0]; exact (Below.refl _ _).alloc (Nat.le_refl _) _
        rw [← hv0]
        clear hv0 c0 c1
        first | rw [← hus] | skip
        refine (l08Ok_at (m : Int) (some ⟨u.heap.size, 0, none⟩) 1 [(k, (l : Int))] v0 HF.out (rdF_oneS b_f0)).mono ?_
        clear b_f0
        replace b_x := b_x.below hb
        replace b_r := b_r.below hb
        replace b_s := b_s.below hb
        replace hbel := hbel.trans (hb.mono hbel.size)
        clear hb
        rintro e v ⟨rfl, hb⟩
        replace b_x := b_x.below hb
        replace b_r := b_r.below hb
        replace b_s := b_s.below hb
        replace hbel := hbel.trans (hb.mono hbel.size)
        clear hb
        have hpv : p + 1 + 1 < v.heap.size := b_s.lt
        have hwv : w.heap.size ≤ v.heap.size := hbel.size
        go_wp2_with fail
        refine (HN.out v).mono ?_
        rintro e v2 ⟨A1, C1, rfl, ow1, hb⟩
        have hv2 := hb.size
        replace b_x := b_x.below hb
        replace b_r := b_r.below hb
        replace b_s := b_s.below hb
        replace hbel := hbel.trans (hb.mono hbel.size)
        clear hb
        obtain ⟨x, rfl⟩ := own_at0 ow1 (by omega)
        have hx2 := ow1.block
        go_upto_region 4 with fail
        obtain ⟨q, hq⟩ : ∃ g, g = v2.heap.size := ⟨_, rfl⟩
        have hk_q : v2.heap.size ≤ q := Nat.le_of_eq hq.symm
        obtain ⟨v3, hv3⟩ : ∃ V, V = v2.alloc (.cells #[.int .i64 b, .slice (some ⟨x, 0, none⟩) m C1] 31) := ⟨_, rfl⟩
        have b_q : Bx v3 q 31 #[.int .i64 b, .slice (some ⟨x, 0, none⟩) m C1] := by rw [hv3, hq]; exact Bx.new _ _ _
        have hb : Below v2.heap.size v2 v3 := by rw [hv3]; exact (Below.refl _ _).alloc (Nat.le_refl _) _
        rw [← hq, ← hv3]
        clear hv3 hq
        replace b_x := b_x.below hb
        replace b_r := b_r.below hb
        replace b_s := b_s.below hb
        replace ow1 := ow1.below hb
        replace hbel := hbel.trans (hb.mono hbel.size)
        clear hb
        have hq3 := b_q.lt
        go_wp2_with fail
        refine (HN.out v3).mono ?_
        rintro e v4 ⟨A2, C2, rfl, ow2, hb⟩
        have hv4 := hb.size
        replace b_x := b_x.below hb
        replace b_r := b_r.below hb
        replace b_s := b_s.below hb
        replace ow1 := ow1.below hb
        replace b_q := b_q.below hb
        replace hbel := hbel.trans (hb.mono hbel.size)
        clear hb
        obtain ⟨y, rfl⟩ := own_at0 ow2 (by omega)
        have hy2 := ow2.block
        go_upto_region 5 with fail
        obtain ⟨h, hh⟩ : ∃ g, g = v4.heap.size := ⟨_, rfl⟩
        have hk_h : v4.heap.size ≤ h := Nat.le_of_eq hh.symm
        obtain ⟨v5, hv5⟩ : ∃ V, V = v4.alloc (.cells #[.int .i64 b, .slice (some ⟨y, 0, none⟩) m C2] 31) := ⟨_, rfl⟩
        have b_h : Bx v5 h 31 #[.int .i64 b, .slice (some ⟨y, 0, none⟩) m C2] := by rw [hv5, hh]; exact Bx.new _ _ _
        have hb : Below v4.heap.size v4 v5 := by rw [hv5]; exact (Below.refl _ _).alloc (Nat.le_refl _) _
        rw [← hh, ← hv5]
        clear hv5 hh
        replace b_x := b_x.below hb
        replace b_r := b_r.below hb
        replace b_s := b_s.below hb
        replace ow1 := ow1.below hb
        replace b_q := b_q.below hb
        replace ow2 := ow2.below hb
        replace hbel := hbel.trans (hb.mono hbel.size)
        clear hb
        have hh5 := b_h.lt
        have hqx : x < q := by omega
        have hqy : q < y := by omega
        have hyh : y < h := by omega
        have hpx : p + 1 + 1 < x := by omega
        obtain ⟨z1, hz1⟩ : ∃ z, z = v2.heap.size := ⟨_, rfl⟩
        obtain ⟨z2, hz2⟩ : ∃ z, z = v4.heap.size := ⟨_, rfl⟩
        obtain ⟨z0, hz0⟩ : ∃ z, z = v.heap.size := ⟨_, rfl⟩
        obtain ⟨z3, hz3⟩ : ∃ z, z = v3.heap.size := ⟨_, rfl⟩
        rw [← hz0, ← hz1] at ow1
        rw [← hz3, ← hz2] at ow2
        have hz4 : z0 ≤ x ∧ x < z1 ∧ z1 ≤ q ∧ q < z3 ∧ z3 ≤ y ∧ y < z2 ∧ z2 ≤ h ∧ p + 1 + 1 < z0 ∧ w.heap.size ≤ z0 := by omega
        clear hz0 hz1 hz2 hz3 hv2 hv4 hq3 hx2 hy2
        have e0 := b_x.at_ 0 rfl
        have e1 := b_x.at_ 1 rfl
        have c0 := b_q.at_ 0 rfl
        have c1 := b_q.at_ 1 rfl
        have d0 := b_h.at_ 0 rfl
        have d1 := b_h.at_ 1 rfl
        have cx := ow1.get (j := j) (by simp; omega)
        have cxf := ow1.thaw j
        go_upto_region 10 with fail
        clear cx cxf
        clear e0 e1 c0 c1 d0 d1
        obtain ⟨v6, hv6⟩ : ∃ V, V = v5.setCell ⟨x, j, none⟩ (.int .i64 (b - 1)) := ⟨_, rfl⟩
        have ow1' := ow1.put j (b - 1)
        have ow2' := ow2.setCell (p := ⟨x, j, none⟩) (by simp; omega) (.int .i64 (b - 1))
        have hb' : Below w.heap.size w v6 := by rw [hv6]; exact hbel.setCell (p := ⟨x, j, none⟩) (by simp; omega) _
        have bx' := b_x.far (p := ⟨x, j, none⟩) (by simp; omega) (.int .i64 (b - 1))
        have br' := b_r.far (p := ⟨x, j, none⟩) (by simp; omega) (.int .i64 (b - 1))
        have bs' := b_s.far (p := ⟨x, j, none⟩) (by simp; omega) (.int .i64 (b - 1))
        have bq' := b_q.far (p := ⟨x, j, none⟩) (by simp; omega) (.int .i64 (b - 1))
        have bh' := b_h.far (p := ⟨x, j, none⟩) (by simp; omega) (.int .i64 (b - 1))
        rw [← hv6] at ow1' ow2' bx' br' bs' bq' bh'
        first | rw [← hv6] | skip
        clear ow1 ow2 b_x b_r b_s b_q b_h hbel hv6
        have ow1 := ow1'
        have ow2 := ow2'
        have b_x := bx'
        have b_r := br'
        have b_s := bs'
        have b_q := bq'
        have b_h := bh'
        have hbel := hb'
        clear ow1' ow2' bx' br' bs' bq' bh' hb'
        have e0 := b_x.at_ 0 rfl
        have e1 := b_x.at_ 1 rfl
        have c0 := b_q.at_ 0 rfl
        have c1 := b_q.at_ 1 rfl
        have d0 := b_h.at_ 0 rfl
        have d1 := b_h.at_ 1 rfl
        have cy := ow2.get (j := j) (by simp; omega)
        have cyf := ow2.thaw j
        go_upto_region 11 with fail
        clear cy cyf
        clear e0 e1 c0 c1 d0 d1
        obtain ⟨v7, hv7⟩ : ∃ V, V = v6.setCell ⟨y, j, none⟩ (.int .i64 (1)) := ⟨_, rfl⟩
        have ow2' := ow2.put j (1)
        have ow1' := ow1.setCell (p := ⟨y, j, none⟩) (by simp; omega) (.int .i64 (1))
        have hb' : Below w.heap.size w v7 := by rw [hv7]; exact hbel.setCell (p := ⟨y, j, none⟩) (by simp; omega) _
        have bx' := b_x.far (p := ⟨y, j, none⟩) (by simp; omega) (.int .i64 (1))
        have br' := b_r.far (p := ⟨y, j, none⟩) (by simp; omega) (.int .i64 (1))
        have bs' := b_s.far (p := ⟨y, j, none⟩) (by simp; omega) (.int .i64 (1))
        have bq' := b_q.far (p := ⟨y, j, none⟩) (by simp; omega) (.int .i64 (1))
        have bh' := b_h.far (p := ⟨y, j, none⟩) (by simp; omega) (.int .i64 (1))
        rw [← hv7] at ow2' ow1' bx' br' bs' bq' bh'
        first | rw [← hv7] | skip
        clear ow1 ow2 b_x b_r b_s b_q b_h hbel hv7
        have ow1 := ow1'
        have ow2 := ow2'
        have b_x := bx'
        have b_r := br'
        have b_s := bs'
        have b_q := bq'
        have b_h := bh'
        have hbel := hb'
        clear ow1' ow2' bx' br' bs' bq' bh' hb'
        have e0 := b_x.at_ 0 rfl
        have e1 := b_x.at_ 1 rfl
        have c0 := b_q.at_ 0 rfl
        have c1 := b_q.at_ 1 rfl
        have d0 := b_h.at_ 0 rfl
        have d1 := b_h.at_ 1 rfl
        have cz := ow1.get (j := l) (by simp; omega)
        have czf := ow1.thaw l
        go_upto_region 14 with fail
        clear cz czf
        clear e0 e1 c0 c1 d0 d1
        obtain ⟨v8, hv8⟩ : ∃ V, V = v7.setCell ⟨x, l, none⟩ (.int .i64 (b - 1)) := ⟨_, rfl⟩
        have ow1' := ow1.put l (b - 1)
        have ow2' := ow2.setCell (p := ⟨x, l, none⟩) (by simp; omega) (.int .i64 (b - 1))
        have hb' : Below w.heap.size w v8 := by rw [hv8]; exact hbel.setCell (p := ⟨x, l, none⟩) (by simp; omega) _
        have bx' := b_x.far (p := ⟨x, l, none⟩) (by simp; omega) (.int .i64 (b - 1))
        have br' := b_r.far (p := ⟨x, l, none⟩) (by simp; omega) (.int .i64 (b - 1))
        have bs' := b_s.far (p := ⟨x, l, none⟩) (by simp; omega) (.int .i64 (b - 1))
        have bq' := b_q.far (p := ⟨x, l, none⟩) (by simp; omega) (.int .i64 (b - 1))
        have bh' := b_h.far (p := ⟨x, l, none⟩) (by simp; omega) (.int .i64 (b - 1))
        rw [← hv8] at ow1' ow2' bx' br' bs' bq' bh'
        first | rw [← hv8] | skip
        clear ow1 ow2 b_x b_r b_s b_q b_h hbel hv8
        have ow1 := ow1'
        have ow2 := ow2'
        have b_x := bx'
        have b_r := br'
        have b_s := bs'
        have b_q := bq'
        have b_h := bh'
        have hbel := hb'
        clear ow1' ow2' bx' br' bs' bq' bh' hb'
        have hda := HDA.out
        have hdb := HDB.out
        rw [← hda] at ow1
        rw [← hdb] at ow2
        clear hda hdb
        have hr1 := ow1.rd
        have hr2 := ow2.rd
        have e0 := b_x.at_ 0 rfl
        have e1 := b_x.at_ 1 rfl
        go_wp2_with fail
        obtain ⟨w1, hw1⟩ : ∃ V, V = v8.alloc (.cells #[.int .i64 k, .int .i64 (l : Int)] 42) := ⟨_, rfl⟩
        have b_f1 : Bx w1 v8.heap.size 42 #[.int .i64 k, .int .i64 (l : Int)] := by rw [hw1]; exact Bx.new _ _ _
        have hb : Below v8.heap.size v8 w1 := by rw [hw1]; exact (Below.refl _ _).alloc (Nat.le_refl _) _
        first | rw [← hw1] | skip
        clear hw1 e0 e1
        replace b_x := b_x.below hb
        replace b_r := b_r.below hb
        replace b_s := b_s.below hb
        replace ow1 := ow1.below hb
        replace b_q := b_q.below hb
        replace ow2 := ow2.below hb
        replace b_h := b_h.below hb
        replace hr1 := hr1.below hb
        replace hr2 := hr2.below hb
        replace hbel := hbel.trans (hb.mono hbel.size)
        clear hb
        refine (HSH.out q h x y C1 C2 v8.heap.size w1 hr1 hr2 (rdF_oneS b_f1) (b_q.at_ 0 rfl) (b_q.at_ 1 rfl) (b_h.at_ 0 rfl) (b_h.at_ 1 rfl)).mono ?_
        rintro e w2 ⟨sh, rfl, hb⟩
        clear b_f1
        replace b_x := b_x.below hb
        replace b_r := b_r.below hb
        replace b_s := b_s.below hb
        replace ow1 := ow1.below hb
        replace b_q := b_q.below hb
        replace ow2 := ow2.below hb
        replace b_h := b_h.below hb
        replace hr1 := hr1.below hb
        replace hr2 := hr2.below hb
        replace hbel := hbel.trans (hb.mono hbel.size)
        clear hb
        go_wp2_with fail
        refine (l02Ok_at0 q b (some ⟨x, 0, none⟩) C1 (wiA b m k l) w2 HO1.out hr1 (b_q.at_ 0 rfl) (by rw [wi_len]; exact b_q.at_ 1 rfl)).mono ?_
        rintro e w3 ⟨rfl, n3, hw3⟩
        have hb : Below w2.heap.size w2 w3 := by rw [hw3]; exact bel_drewN (Below.refl _ _) n3
        clear hw3
        replace b_x := b_x.below hb
        replace b_r := b_r.below hb
        replace b_s := b_s.below hb
        replace ow1 := ow1.below hb
        replace b_q := b_q.below hb
        replace ow2 := ow2.below hb
        replace b_h := b_h.below hb
        replace hr1 := hr1.below hb
        replace hr2 := hr2.below hb
        replace hbel := hbel.trans (hb.mono hbel.size)
        clear hb
        go_wp2_with fail
        refine (l02Ok_at0 h b (some ⟨y, 0, none⟩) C2 (wiB m k l) w3 HO2.out hr2 (b_h.at_ 0 rfl) (by rw [wiB_len]; exact b_h.at_ 1 rfl)).mono ?_
        rintro e w4 ⟨rfl, n4, hw4⟩
        have hb : Below w3.heap.size w3 w4 := by rw [hw4]; exact bel_drewN (Below.refl _ _) n4
        clear hw4
        replace b_x := b_x.below hb
        replace b_r := b_r.below hb
        replace b_s := b_s.below hb
        replace ow1 := ow1.below hb
        replace b_q := b_q.below hb
        replace ow2 := ow2.below hb
        replace b_h := b_h.below hb
        replace hr1 := hr1.below hb
        replace hr2 := hr2.below hb
        replace hbel := hbel.trans (hb.mono hbel.size)
        clear hb
        have hh8 := b_h.lt
        go_upto_region 17 with fail
        have s0 : ∀ w', (Bx w' q 31 #[.int .i64 b, .slice (some ⟨x, 0, none⟩) m C1] ∧ Bx w' h 31 #[.int .i64 b, .slice (some ⟨y, 0, none⟩) m C2]) → w'.cell? ⟨q, 0, none⟩ = some (.int .i64 b) := fun _ h => h.1.at_ 0 rfl
        have s1 : ∀ w', (Bx w' q 31 #[.int .i64 b, .slice (some ⟨x, 0, none⟩) m C1] ∧ Bx w' h 31 #[.int .i64 b, .slice (some ⟨y, 0, none⟩) m C2]) → w'.cell? ⟨q, 1, none⟩ = some (.slice (some ⟨x, 0, none⟩) m C1) := fun _ h => h.1.at_ 1 rfl
        have s2 : ∀ w', (Bx w' q 31 #[.int .i64 b, .slice (some ⟨x, 0, none⟩) m C1] ∧ Bx w' h 31 #[.int .i64 b, .slice (some ⟨y, 0, none⟩) m C2]) → w'.cell? ⟨h, 0, none⟩ = some (.int .i64 b) := fun _ h => h.2.at_ 0 rfl
        have s3 : ∀ w', (Bx w' q 31 #[.int .i64 b, .slice (some ⟨x, 0, none⟩) m C1] ∧ Bx w' h 31 #[.int .i64 b, .slice (some ⟨y, 0, none⟩) m C2]) → w'.cell? ⟨h, 1, none⟩ = some (.slice (some ⟨y, 0, none⟩) m C2) := fun _ h => h.2.at_ 1 rfl
        have hS : Bx w4.drew q 31 #[.int .i64 b, .slice (some ⟨x, 0, none⟩) m C1] ∧ Bx w4.drew h 31 #[.int .i64 b, .slice (some ⟨y, 0, none⟩) m C2] := ⟨b_q.drew, b_h.drew⟩
        refine wp_region_marked (fun w' => Bx w' q 31 #[.int .i64 b, .slice (some ⟨x, 0, none⟩) m C1] ∧ Bx w' h 31 #[.int .i64 b, .slice (some ⟨y, 0, none⟩) m C2]) 4 (by kernel_rfl) ?_
        refine wpAnyM_take (i := 0) (v := ?_) rfl (by kernel_rfl) (by kernel_rfl) (by kernel_rfl) (by kernel_rfl) (by kernel_rfl) (fun _ _ _ h => h) hS (.inl ⟨by rfl, ?_⟩) ?_
        rotate_left 1
        · intro w' hS'; go_simp; try with_reducible rfl
        simp only [Act.put, List.setIfInBounds_toArray, List.set_cons_succ, List.set_cons_zero, List.getElem_toArray, List.getElem_cons_zero]
        refine wpAnyM_take (i := 1) (v := ?_) rfl (by kernel_rfl) (by kernel_rfl) (by kernel_rfl) (by kernel_rfl) (by kernel_rfl) (fun _ _ _ h => h) hS (.inl ⟨by rfl, ?_⟩) ?_
        rotate_left 1
        · intro w' hS'; go_simp; try with_reducible rfl
        simp only [Act.put, List.setIfInBounds_toArray, List.set_cons_succ, List.set_cons_zero, List.getElem_toArray, List.getElem_cons_succ, List.getElem_cons_zero]
        have r0 := b_r.at_ 0 rfl
        have r1 := b_r.at_ 1 rfl
        have f0 := b_r.thaw 0
        have f1 := b_r.thaw 1
        have t0 := b_s.at_ 0 rfl
        have t1 := b_s.at_ 1 rfl
        have g0 := b_s.thaw 0
        have g1 := b_s.thaw 1
        have hs := b_r.lt
        have hs2 := b_s.lt
        have hbs := hbel.size
        have n1 : q ≠ p + 1 := by omega
        have n2 : h ≠ p + 1 := by omega
        have n3 : q ≠ p + 1 + 1 := by omega
        have n4 : h ≠ p + 1 + 1 := by omega
        refine wpAnyM_one (i := 2) (by kernel_rfl) rfl (by rfl) (fun K hK => ?_)
        go_simp
        replace hS := And.intro ((hS.1.far (p := ⟨p + 1, 0, none⟩) n1 (.int .i64 b)).far (p := ⟨p + 1, 1, none⟩) n1 (.slice (some ⟨x, 0, none⟩) m C1)) ((hS.2.far (p := ⟨p + 1, 0, none⟩) n2 (.int .i64 b)).far (p := ⟨p + 1, 1, none⟩) n2 (.slice (some ⟨x, 0, none⟩) m C1))
        refine hK _ _ (.inr hS) ?_
        try simp only [Act.put, List.setIfInBounds_toArray, List.set_cons_succ, List.set_cons_zero, List.getElem_toArray, List.getElem_cons_succ, List.getElem_cons_zero]
        clear hK K
        refine wpAnyM_one (i := 3) (by kernel_rfl) rfl (by rfl) (fun K hK => ?_)
        go_simp
        replace hS := And.intro ((hS.1.far (p := ⟨p + 1 + 1, 0, none⟩) n3 (.int .i64 b)).far (p := ⟨p + 1 + 1, 1, none⟩) n3 (.slice (some ⟨y, 0, none⟩) m C2)) ((hS.2.far (p := ⟨p + 1 + 1, 0, none⟩) n4 (.int .i64 b)).far (p := ⟨p + 1 + 1, 1, none⟩) n4 (.slice (some ⟨y, 0, none⟩) m C2))
        refine hK _ _ (.inr hS) ?_
        try simp only [Act.put, List.setIfInBounds_toArray, List.set_cons_succ, List.set_cons_zero, List.getElem_toArray, List.getElem_cons_succ, List.getElem_cons_zero]
        clear hK K
        refine wpAnyM_one (i := 4) (by kernel_rfl) rfl (by rfl) (fun K hK => ?_)
        go_simp
        refine hK _ _ (.inl rfl) ?_
        clear hK K
        refine wpAnyM_done (by kernel_rfl) ?_ _
        try simp only [Act.put, List.setIfInBounds_toArray, List.set_cons_succ, List.set_cons_zero, List.getElem_toArray, List.getElem_cons_succ, List.getElem_cons_zero]
        go_wp2
        have own1 := (((ow1.setCell (p := ⟨p + 1, 0, none⟩) (.inl (by simp; omega)) (.int .i64 b)).setCell (p := ⟨p + 1, 1, none⟩) (.inl (by simp; omega)) (.slice (some ⟨x, 0, none⟩) m C1)).setCell (p := ⟨p + 1 + 1, 0, none⟩) (.inl (by simp; omega)) (.int .i64 b)).setCell (p := ⟨p + 1 + 1, 1, none⟩) (.inl (by simp; omega)) (.slice (some ⟨y, 0, none⟩) m C2)
        have own2 := (((ow2.setCell (p := ⟨p + 1, 0, none⟩) (.inl (by simp; omega)) (.int .i64 b)).setCell (p := ⟨p + 1, 1, none⟩) (.inl (by simp; omega)) (.slice (some ⟨x, 0, none⟩) m C1)).setCell (p := ⟨p + 1 + 1, 0, none⟩) (.inl (by simp; omega)) (.int .i64 b)).setCell (p := ⟨p + 1 + 1, 1, none⟩) (.inl (by simp; omega)) (.slice (some ⟨y, 0, none⟩) m C2)
        have hlast : Below w.heap.size w _ := (((hbel.drew.setCell (p := ⟨p + 1, 0, none⟩) (by simp; omega) (.int .i64 b)).setCell (p := ⟨p + 1, 1, none⟩) (by simp; omega) (.slice (some ⟨x, 0, none⟩) m C1)).setCell (p := ⟨p + 1 + 1, 0, none⟩) (by simp; omega) (.int .i64 b)).setCell (p := ⟨p + 1 + 1, 1, none⟩) (by simp; omega) (.slice (some ⟨y, 0, none⟩) m C2)
        have hz8 := hlast.size
        exact bodyPost_ret (v := .tuple #[.agg #[.int .i64 b, .slice (some ⟨x, 0, none⟩) m C1], .agg #[.int .i64 b, .slice (some ⟨y, 0, none⟩) m C2], .int .i64 0]) (by simp [results, go_sem, r0, r1, t0, t1]) rfl
          (twoAny_ok HR.out (wi_len b m k l) (wiB_len m k l) rfl own1.drew own2.drew (by omega) (by omega) (by simp; omega) (by simp; omega) (by omega) hlast)

set_option maxRecDepth 100000 in
set_option maxHeartbeats 8000000 in
theorem specWitnessOf (b n : Int) (f : Int × Int) (w : World) (bb : I64 b) (bn : I64 n) (bf : I64 f.1 ∧ I64 f.2) :
    Calls Try.prog 18 #[.int .i64 b, .int .i64 n, .agg #[.int .i64 f.1, .int .i64 f.2]] w (TwoAny (wiR b n f) w) := by
  have R := Try.results18
  have hbel : Below w.heap.size w w := Below.refl _ _
  obtain ⟨k, l⟩ := f
  have HB := Lib.hid (l02Base_any b)
  cases hb : baseB b with
  | false =>
    have HR := Lib.hid (show wiR b n (k, l) = (0, [], 0, [], 2) by simp [wiR, hb])
    rw [hb] at HB
    clear hb
    go_enter Try.func18, Try.ntmps18
    go_upto_region 1 with fail
    obtain ⟨p, hp⟩ : ∃ g, g = w.heap.size := ⟨_, rfl⟩
    have hwp : w.heap.size ≤ p := Nat.le_of_eq hp.symm
    obtain ⟨u, hu⟩ : ∃ u, u = ((w.alloc (.cells #[.int .i64 k, .int .i64 l] 42)).alloc (.cells #[.int .i64 0, .slice none 0 0] 31)).alloc (.cells #[.int .i64 0, .slice none 0 0] 31) := ⟨_, rfl⟩
    have b_x : Bx u p 42 #[.int .i64 k, .int .i64 l] := by rw [hu, hp]; exact ((Bx.new _ _ _).alloc _).alloc _
    have b_r : Bx u (p + 1) 31 #[.int .i64 0, .slice none 0 0] := by rw [hu, hp]; simpa using (Bx.new (w.alloc (.cells #[.int .i64 k, .int .i64 l] 42)) #[.int .i64 0, .slice none 0 0] 31).alloc _
    have b_s : Bx u (p + 1 + 1) 31 #[.int .i64 0, .slice none 0 0] := by rw [hu, hp]; simpa using Bx.new ((w.alloc (.cells #[.int .i64 k, .int .i64 l] 42)).alloc (.cells #[.int .i64 0, .slice none 0 0] 31)) #[.int .i64 0, .slice none 0 0] 31
    have hb : Below w.heap.size w u := by rw [hu]; exact (by repeat (first | with_reducible exact Below.refl _ _ | with_reducible refine Below.setCell ?_ (by first | omega | (simp <;> omega)) _ | with_reducible refine Below.alloc ?_ (by first | omega | (simp <;> omega)) _ | with_reducible refine Below.drew ?_))
    have hus : u.heap.size = p + 1 + 1 + 1 := by rw [hu, hp]; simp
    rw [← hu, ← hp]
    clear hu hp
    replace hbel := hbel.trans (hb.mono hbel.size)
    clear hb
    go_wp2_with fail
    refine (HB.out u).mono ?_
    rintro e v ⟨rfl, hw⟩
    subst v
    have r0 := b_r.at_ 0 rfl
    have r1 := b_r.at_ 1 rfl
    have f0 := b_r.thaw 0
    have f1 := b_r.thaw 1
    have t0 := b_s.at_ 0 rfl
    have t1 := b_s.at_ 1 rfl
    have g0 := b_s.thaw 0
    have g1 := b_s.thaw 1
    have hs := b_r.lt
    have hs2 := b_s.lt
    have hbs := hbel.size
    go_wp2
    exact bodyPost_ret (v := .tuple #[.agg #[.int .i64 0, .slice none 0 0], .agg #[.int .i64 0, .slice none 0 0], .int .i64 2]) (by simp [results, go_sem, r0, r1, t0, t1]) rfl
      (twoAny_err HR.out rfl (by repeat (first | with_reducible exact hbel | with_reducible refine Below.setCell ?_ (by first | omega | (simp <;> omega)) _ | with_reducible refine Below.alloc ?_ (by first | omega | (simp <;> omega)) _ | with_reducible refine Below.drew ?_)))
  | true =>
    rw [hb] at HB
    obtain ⟨h1, h2⟩ := baseB_true hb
    cases hf : faultsB n [(k, l)] with
    | false =>
      have HR := Lib.hid (show wiR b n (k, l) = (0, [], 0, [], 2) by simp [wiR, hf])
      have HF := Lib.hid hf
      clear hb hf
      go_enter Try.func18, Try.ntmps18
      go_upto_region 1 with fail
      obtain ⟨p, hp⟩ : ∃ g, g = w.heap.size := ⟨_, rfl⟩
      have hwp : w.heap.size ≤ p := Nat.le_of_eq hp.symm
      obtain ⟨u, hu⟩ : ∃ u, u = ((w.alloc (.cells #[.int .i64 k, .int .i64 l] 42)).alloc (.cells #[.int .i64 0, .slice none 0 0] 31)).alloc (.cells #[.int .i64 0, .slice none 0 0] 31) := ⟨_, rfl⟩
      have b_x : Bx u p 42 #[.int .i64 k, .int .i64 l] := by rw [hu, hp]; exact ((Bx.new _ _ _).alloc _).alloc _
      have b_r : Bx u (p + 1) 31 #[.int .i64 0, .slice none 0 0] := by rw [hu, hp]; simpa using (Bx.new (w.alloc (.cells #[.int .i64 k, .int .i64 l] 42)) #[.int .i64 0, .slice none 0 0] 31).alloc _
      have b_s : Bx u (p + 1 + 1) 31 #[.int .i64 0, .slice none 0 0] := by rw [hu, hp]; simpa using Bx.new ((w.alloc (.cells #[.int .i64 k, .int .i64 l] 42)).alloc (.cells #[.int .i64 0, .slice none 0 0] 31)) #[.int .i64 0, .slice none 0 0] 31
      have hb : Below w.heap.size w u := by rw [hu]; exact (by repeat (first | with_reducible exact Below.refl _ _ | with_reducible refine Below.setCell ?_ (by first | omega | (simp <;> omega)) _ | with_reducible refine Below.alloc ?_ (by first | omega | (simp <;> omega)) _ | with_reducible refine Below.drew ?_))
      have hus : u.heap.size = p + 1 + 1 + 1 := by rw [hu, hp]; simp
      rw [← hu, ← hp]
      clear hu hp
      replace hbel := hbel.trans (hb.mono hbel.size)
      clear hb
      go_wp2_with fail
      refine (HB.out u).mono ?_
      rintro e v ⟨rfl, hw⟩
      subst v
      have c0 := b_x.at_ 0 rfl
      have c1 := b_x.at_ 1 rfl
      go_wp2_with fail
      obtain ⟨v0, hv0⟩ : ∃ V, V = u.alloc (.cells #[.int .i64 k, .int .i64 l] 42) := ⟨_, rfl⟩
      have b_f0 : Bx v0 u.heap.size 42 #[.int .i64 k, .int .i64 l] := by rw [hv0]; exact Bx.new _ _ _
      have hb : Below u.heap.size u v0 := by rw [hv0]; exact (Below.refl _ _).alloc (Nat.le_refl _) _
      rw [← hv0]
      clear hv0 c0 c1
      first | rw [← hus] | skip
      refine (l08Ok_at n (some ⟨u.heap.size, 0, none⟩) 1 [(k, l)] v0 HF.out (rdF_oneS b_f0)).mono ?_
      clear b_f0
      replace b_x := b_x.below hb
      replace b_r := b_r.below hb
      replace b_s := b_s.below hb
      replace hbel := hbel.trans (hb.mono hbel.size)
      clear hb
      rintro e v ⟨rfl, hb⟩
      replace b_x := b_x.below hb
      replace b_r := b_r.below hb
      replace b_s := b_s.below hb
      replace hbel := hbel.trans (hb.mono hbel.size)
      clear hb
      have r0 := b_r.at_ 0 rfl
      have r1 := b_r.at_ 1 rfl
      have f0 := b_r.thaw 0
      have f1 := b_r.thaw 1
      have t0 := b_s.at_ 0 rfl
      have t1 := b_s.at_ 1 rfl
      have g0 := b_s.thaw 0
      have g1 := b_s.thaw 1
      have hs := b_r.lt
      have hs2 := b_s.lt
      have hbs := hbel.size
      go_wp2
      exact bodyPost_ret (v := .tuple #[.agg #[.int .i64 0, .slice none 0 0], .agg #[.int .i64 0, .slice none 0 0], .int .i64 2]) (by simp [results, go_sem, r0, r1, t0, t1]) rfl
        (twoAny_err HR.out rfl (by repeat (first | with_reducible exact hbel | with_reducible refine Below.setCell ?_ (by first | omega | (simp <;> omega)) _ | with_reducible refine Below.alloc ?_ (by first | omega | (simp <;> omega)) _ | with_reducible refine Below.drew ?_)))
    | true =>
      obtain ⟨n1, n2, k1, k2, l1, l2⟩ := faults_one hf
      simp only at k1 k2 l1 l2
      obtain ⟨m, rfl⟩ := Int.eq_ofNat_of_zero_le (show 0 ≤ n by omega)
      obtain ⟨l, rfl⟩ := Int.eq_ofNat_of_zero_le l1
      have hm : m ≤ 16 := by omega
      have hl : l < m := by omega
      have HF := Lib.hid hf
      have hE : wiR b (m : Int) (k, (l : Int)) = if k = 3 ∧ (l : Int) = 0 then (0, [], 0, [], 3) else if wiOk b m k l = true then (b, wiA b m k l, b, wiB m k l, 0) else (0, [], 0, [], 5) := by rw [wiR, if_pos ⟨hb, hf⟩]; simp
      by_cases hk0 : k = 3 ∧ (l : Int) = 0
      · have HR := Lib.hid (hE.trans (if_pos hk0))
        have HN := Lib.hid (fun w => specl02New_any b 0 m w h1 h2 hm (Int.le_refl _) (by omega))
        rw [digs_zero (by omega)] at HN
        have tk : (k == 1) = false := by simp [hk0.1]
        have tk3 : (k == 3) = true := by simp [hk0.1]
        have hn0 : ¬ (0 : Int) < (l : Int) := by omega
        have hln : (l : Int) < (m : Int) := by omega
        clear hb hf hE hk0
        go_enter Try.func18, Try.ntmps18
        go_upto_region 1 with fail
        obtain ⟨p, hp⟩ : ∃ g, g = w.heap.size := ⟨_, rfl⟩
        have hwp : w.heap.size ≤ p := Nat.le_of_eq hp.symm
        obtain ⟨u, hu⟩ : ∃ u, u = ((w.alloc (.cells #[.int .i64 k, .int .i64 (l : Int)] 42)).alloc (.cells #[.int .i64 0, .slice none 0 0] 31)).alloc (.cells #[.int .i64 0, .slice none 0 0] 31) := ⟨_, rfl⟩
        have b_x : Bx u p 42 #[.int .i64 k, .int .i64 (l : Int)] := by rw [hu, hp]; exact ((Bx.new _ _ _).alloc _).alloc _
        have b_r : Bx u (p + 1) 31 #[.int .i64 0, .slice none 0 0] := by rw [hu, hp]; simpa using (Bx.new (w.alloc (.cells #[.int .i64 k, .int .i64 (l : Int)] 42)) #[.int .i64 0, .slice none 0 0] 31).alloc _
        have b_s : Bx u (p + 1 + 1) 31 #[.int .i64 0, .slice none 0 0] := by rw [hu, hp]; simpa using Bx.new ((w.alloc (.cells #[.int .i64 k, .int .i64 (l : Int)] 42)).alloc (.cells #[.int .i64 0, .slice none 0 0] 31)) #[.int .i64 0, .slice none 0 0] 31
        have hb : Below w.heap.size w u := by rw [hu]; exact (by repeat (first | with_reducible exact Below.refl _ _ | with_reducible refine Below.setCell ?_ (by first | omega | (simp <;> omega)) _ | with_reducible refine Below.alloc ?_ (by first | omega | (simp <;> omega)) _ | with_reducible refine Below.drew ?_))
        have hus : u.heap.size = p + 1 + 1 + 1 := by rw [hu, hp]; simp
        rw [← hu, ← hp]
        clear hu hp
        replace hbel := hbel.trans (hb.mono hbel.size)
        clear hb
        go_wp2_with fail
        refine (HB.out u).mono ?_
        rintro e v ⟨rfl, hw⟩
        subst v
        have c0 := b_x.at_ 0 rfl
        have c1 := b_x.at_ 1 rfl
        go_wp2_with fail
        obtain ⟨v0, hv0⟩ : ∃ V, V = u.alloc (.cells #[.int .i64 k, .int .i64 (l : Int)] 42) := ⟨_, rfl⟩
        have b_f0 : Bx v0 u.heap.size 42 #[.int .i64 k, .int .i64 (l : Int)] := by rw [hv0]; exact Bx.new _ _ _
        have hb : Below u.heap.size u v0 := by rw [hv0]; exact (Below.refl _ _).alloc (Nat.le_refl _) _
        rw [← hv0]
        clear hv0 c0 c1
        first | rw [← hus] | skip
        refine (l08Ok_at (m : Int) (some ⟨u.heap.size, 0, none⟩) 1 [(k, (l : Int))] v0 HF.out (rdF_oneS b_f0)).mono ?_
        clear b_f0
        replace b_x := b_x.below hb
        replace b_r := b_r.below hb
        replace b_s := b_s.below hb
        replace hbel := hbel.trans (hb.mono hbel.size)
        clear hb
        rintro e v ⟨rfl, hb⟩
        replace b_x := b_x.below hb
        replace b_r := b_r.below hb
        replace b_s := b_s.below hb
        replace hbel := hbel.trans (hb.mono hbel.size)
        clear hb
        have hpv : p + 1 + 1 < v.heap.size := b_s.lt
        have hwv : w.heap.size ≤ v.heap.size := hbel.size
        go_wp2_with fail
        refine (HN.out v).mono ?_
        rintro e v2 ⟨A1, C1, rfl, ow1, hb⟩
        have hv2 := hb.size
        replace b_x := b_x.below hb
        replace b_r := b_r.below hb
        replace b_s := b_s.below hb
        replace hbel := hbel.trans (hb.mono hbel.size)
        clear hb
        obtain ⟨x, rfl⟩ := own_at0 ow1 (by omega)
        have hx2 := ow1.block
        go_upto_region 4 with fail
        obtain ⟨q, hq⟩ : ∃ g, g = v2.heap.size := ⟨_, rfl⟩
        have hk_q : v2.heap.size ≤ q := Nat.le_of_eq hq.symm
        obtain ⟨v3, hv3⟩ : ∃ V, V = v2.alloc (.cells #[.int .i64 b, .slice (some ⟨x, 0, none⟩) m C1] 31) := ⟨_, rfl⟩
        have b_q : Bx v3 q 31 #[.int .i64 b, .slice (some ⟨x, 0, none⟩) m C1] := by rw [hv3, hq]; exact Bx.new _ _ _
        have hb : Below v2.heap.size v2 v3 := by rw [hv3]; exact (Below.refl _ _).alloc (Nat.le_refl _) _
        rw [← hq, ← hv3]
        clear hv3 hq
        replace b_x := b_x.below hb
        replace b_r := b_r.below hb
        replace b_s := b_s.below hb
        replace ow1 := ow1.below hb
        replace hbel := hbel.trans (hb.mono hbel.size)
        clear hb
        have hq3 := b_q.lt
        go_wp2_with fail
        refine (HN.out v3).mono ?_
        rintro e v4 ⟨A2, C2, rfl, ow2, hb⟩
        have hv4 := hb.size
        replace b_x := b_x.below hb
        replace b_r := b_r.below hb
        replace b_s := b_s.below hb
        replace ow1 := ow1.below hb
        replace b_q := b_q.below hb
        replace hbel := hbel.trans (hb.mono hbel.size)
        clear hb
        obtain ⟨y, rfl⟩ := own_at0 ow2 (by omega)
        have hy2 := ow2.block
        go_upto_region 5 with fail
        obtain ⟨h, hh⟩ : ∃ g, g = v4.heap.size := ⟨_, rfl⟩
        have hk_h : v4.heap.size ≤ h := Nat.le_of_eq hh.symm
        obtain ⟨v5, hv5⟩ : ∃ V, V = v4.alloc (.cells #[.int .i64 b, .slice (some ⟨y, 0, none⟩) m C2] 31) := ⟨_, rfl⟩
        have b_h : Bx v5 h 31 #[.int .i64 b, .slice (some ⟨y, 0, none⟩) m C2] := by rw [hv5, hh]; exact Bx.new _ _ _
        have hb : Below v4.heap.size v4 v5 := by rw [hv5]; exact (Below.refl _ _).alloc (Nat.le_refl _) _
        rw [← hh, ← hv5]
        clear hv5 hh
        replace b_x := b_x.below hb
        replace b_r := b_r.below hb
        replace b_s := b_s.below hb
        replace ow1 := ow1.below hb
        replace b_q := b_q.below hb
        replace ow2 := ow2.below hb
        replace hbel := hbel.trans (hb.mono hbel.size)
        clear hb
        have hh5 := b_h.lt
        have hqx : x < q := by omega
        have hqy : q < y := by omega
        have hyh : y < h := by omega
        have hpx : p + 1 + 1 < x := by omega
        obtain ⟨z1, hz1⟩ : ∃ z, z = v2.heap.size := ⟨_, rfl⟩
        obtain ⟨z2, hz2⟩ : ∃ z, z = v4.heap.size := ⟨_, rfl⟩
        obtain ⟨z0, hz0⟩ : ∃ z, z = v.heap.size := ⟨_, rfl⟩
        obtain ⟨z3, hz3⟩ : ∃ z, z = v3.heap.size := ⟨_, rfl⟩
        rw [← hz0, ← hz1] at ow1
        rw [← hz3, ← hz2] at ow2
        have hz4 : z0 ≤ x ∧ x < z1 ∧ z1 ≤ q ∧ q < z3 ∧ z3 ≤ y ∧ y < z2 ∧ z2 ≤ h ∧ p + 1 + 1 < z0 ∧ w.heap.size ≤ z0 := by omega
        clear hz0 hz1 hz2 hz3 hv2 hv4 hq3 hx2 hy2
        have e0 := b_x.at_ 0 rfl
        have e1 := b_x.at_ 1 rfl
        have c0 := b_q.at_ 0 rfl
        have c1 := b_q.at_ 1 rfl
        have d0 := b_h.at_ 0 rfl
        have d1 := b_h.at_ 1 rfl
        go_upto_region 13 with fail
        have r0 := b_r.at_ 0 rfl
        have r1 := b_r.at_ 1 rfl
        have f0 := b_r.thaw 0
        have f1 := b_r.thaw 1
        have t0 := b_s.at_ 0 rfl
        have t1 := b_s.at_ 1 rfl
        have g0 := b_s.thaw 0
        have g1 := b_s.thaw 1
        have hs := b_r.lt
        have hs2 := b_s.lt
        have hbs := hbel.size
        go_wp2
        exact bodyPost_ret (v := .tuple #[.agg #[.int .i64 0, .slice none 0 0], .agg #[.int .i64 0, .slice none 0 0], .int .i64 3]) (by simp [results, go_sem, r0, r1, t0, t1]) rfl
          (twoAny_err HR.out rfl (by repeat (first | with_reducible exact hbel | with_reducible refine Below.setCell ?_ (by first | omega | (simp <;> omega)) _ | with_reducible refine Below.alloc ?_ (by first | omega | (simp <;> omega)) _ | with_reducible refine Below.drew ?_)))
      · have H0 := Lib.hid (hE.trans (if_neg hk0))
        have hk : k = 1 ∨ k = 2 ∨ (k = 3 ∧ 0 < l) := by omega
        rcases hk with hk | hk | ⟨hk, hl0⟩
        · exact witnessS_one b m l k w bb h1 h2 (by omega) hm hl hf H0 hk
        · exact witnessS_two b m l k w bb h1 h2 (by omega) hm hl hf H0 hk
        · exact witnessS_three b m l k w bb h1 h2 (by omega) hm hl hf H0 hk hl0

theorem baseB_iffW (B : Int) : baseB B = true ↔ 2 ≤ B ∧ B ≤ 16 := by simp [baseB]
theorem isBaseW (b : Int) (w : World) : Calls Try.prog 46 #[.int .i64 b] w fun e w' => e = .returned (.bool (baseB b)) ∧ w' = w := by
  by_cases h : 2 ≤ b
  · by_cases h2 : b ≤ 16
    · have H := Lib.hid ((baseB_iffW b).2 ⟨h, h2⟩)
      go_enter Try.func46, Try.ntmps46
      go_wp2
      go_ret
      exact ⟨ret_bool H.out.symm, rfl⟩
    · have H := Lib.hid (show baseB b = false by cases e : baseB b with | false => rfl | true => exact absurd ((baseB_iffW b).1 e).2 h2)
      go_enter Try.func46, Try.ntmps46
      go_wp2
      go_ret
      exact ⟨ret_bool H.out.symm, rfl⟩
  · have H := Lib.hid (show baseB b = false by cases e : baseB b with | false => rfl | true => exact absurd ((baseB_iffW b).1 e).1 h)
    go_enter Try.func46, Try.ntmps46
    go_wp2
    go_ret
    exact ⟨ret_bool H.out.symm, rfl⟩


theorem rdF_one {w : World} {g : Nat} {t : TypeId} {k l : Int} (h : Bx w g t #[.int .i64 k, .int .i64 l]) : RdF pairF w (some ⟨g, 0, none⟩) [(k, l)] := by
  refine ⟨by simp, fun _ => ⟨g, 0, rfl, fun i x hx j v hv => ?_⟩⟩
  match i, hx with
  | 0, hx =>
    simp only [List.getElem?_cons_zero, Option.some.injEq] at hx
    subst hx
    match j, hv with
    | 0, hv => simp [pairF] at hv; subst hv; simpa using h.at_ 0 rfl
    | 1, hv => simp [pairF] at hv; subst hv; simpa using h.at_ 1 rfl
    | j + 2, hv => simp [pairF] at hv
  | i + 1, hx => simp at hx
theorem witness_any (b : Int) (n l : Nat) (k : Int) (w : World) (hb1 : 2 ≤ b) (hb2 : b ≤ 16) (hn : n ≤ 16) (hl : l < n) :
    Calls Try.prog 48 #[.int .i64 b, .int .i64 n, .agg #[.int .i64 k, .int .i64 l]] w fun e w' => ∃ p q, e = .returned (.tuple #[.slice (some ⟨p, 0, none⟩) n n, .slice (some ⟨q, 0, none⟩) n n]) ∧
      Own 2 w' p (p + 1) (.slice (some ⟨p, 0, none⟩) n n) (wiA b n k l) ∧ Own 2 w' q (q + 1) (.slice (some ⟨q, 0, none⟩) n n) (wiB n k l) ∧ w.heap.size ≤ p ∧ w.heap.size ≤ q ∧ (p < q ∨ q < p) ∧ Below w.heap.size w w' := by
  by_cases h1 : k = 1
  · subst h1; exact witnessDigits_one b n l w hb1 hb2 hn hl
  · by_cases h3 : k = 3 ∧ 0 < l
    · obtain ⟨rfl, h0⟩ := h3; exact witnessDigits_three b n l w hb1 hb2 hn hl h0
    · exact witnessDigits_other b n l k w hn hl h1 h3

set_option maxRecDepth 100000 in
set_option maxHeartbeats 8000000 in
theorem implWitnessOf (b n : Int) (f : Int × Int) (w : World) (bb : I64 b) (bn : I64 n) (bf : I64 f.1 ∧ I64 f.2) :
    Calls Try.prog 20 #[.int .i64 b, .int .i64 n, .agg #[.int .i64 f.1, .int .i64 f.2]] w (TwoAny (wiR b n f) w) := by
  have R := Try.results20
  have hbel : Below w.heap.size w w := Below.refl _ _
  obtain ⟨k, l⟩ := f
  obtain ⟨bk, bl⟩ := bf
  simp only at bk bl
  have all2f : All2 [(k, l)] := by intro x hx; simp at hx; subst hx; exact ⟨bk, bl⟩
  have HB := Lib.hid (isBaseW b)
  cases hb : baseB b with
  | false =>
    have HR := Lib.hid (show wiR b n (k, l) = (0, [], 0, [], 2) by simp [wiR, hb])
    rw [hb] at HB
    clear hb
    go_enter Try.func20, Try.ntmps20
    go_upto_region 2 with fail
    obtain ⟨p, hp⟩ : ∃ g, g = w.heap.size := ⟨_, rfl⟩
    have hwp : w.heap.size ≤ p := Nat.le_of_eq hp.symm
    obtain ⟨u, hu⟩ : ∃ u, u = (((w.alloc (.cells #[.int .i64 k, .int .i64 l] 42)).alloc (.cells #[.int .i64 0, .slice none 0 0] 31)).alloc (.cells #[.int .i64 0, .slice none 0 0] 31)).alloc (.cells #[.int .i64 k, .int .i64 l] 42) := ⟨_, rfl⟩
    have b_x : Bx u p 42 #[.int .i64 k, .int .i64 l] := by rw [hu, hp]; exact (((Bx.new _ _ _).alloc _).alloc _).alloc _
    have b_r : Bx u (p + 1) 31 #[.int .i64 0, .slice none 0 0] := by rw [hu, hp]; simpa using ((Bx.new (w.alloc (.cells #[.int .i64 k, .int .i64 l] 42)) #[.int .i64 0, .slice none 0 0] 31).alloc _).alloc _
    have b_s : Bx u (p + 1 + 1) 31 #[.int .i64 0, .slice none 0 0] := by rw [hu, hp]; simpa using (Bx.new ((w.alloc (.cells #[.int .i64 k, .int .i64 l] 42)).alloc (.cells #[.int .i64 0, .slice none 0 0] 31)) #[.int .i64 0, .slice none 0 0] 31).alloc _
    have b_f : Bx u (p + 1 + 1 + 1) 42 #[.int .i64 k, .int .i64 l] := by rw [hu, hp]; simpa using Bx.new (((w.alloc (.cells #[.int .i64 k, .int .i64 l] 42)).alloc (.cells #[.int .i64 0, .slice none 0 0] 31)).alloc (.cells #[.int .i64 0, .slice none 0 0] 31)) #[.int .i64 k, .int .i64 l] 42
    have hb : Below w.heap.size w u := by rw [hu]; exact (by repeat (first | with_reducible exact Below.refl _ _ | with_reducible refine Below.setCell ?_ (by first | omega | (simp <;> omega)) _ | with_reducible refine Below.alloc ?_ (by first | omega | (simp <;> omega)) _ | with_reducible refine Below.drew ?_))
    rw [← hu, ← hp]
    clear hu hp
    replace hbel := hbel.trans (hb.mono hbel.size)
    clear hb
    go_wp2_with fail
    refine (HB.out u).mono ?_
    rintro e v ⟨rfl, hw⟩
    subst v
    have r0 := b_r.at_ 0 rfl
    have r1 := b_r.at_ 1 rfl
    have f0 := b_r.thaw 0
    have f1 := b_r.thaw 1
    have t0 := b_s.at_ 0 rfl
    have t1 := b_s.at_ 1 rfl
    have g0 := b_s.thaw 0
    have g1 := b_s.thaw 1
    have hs := b_r.lt
    have hs2 := b_s.lt
    have hbs := hbel.size
    go_wp2
    exact bodyPost_ret (v := .tuple #[.agg #[.int .i64 0, .slice none 0 0], .agg #[.int .i64 0, .slice none 0 0], .int .i64 2]) (by simp [results, go_sem, r0, r1, t0, t1]) rfl
      (twoAny_err HR.out rfl (by repeat (first | with_reducible exact hbel | with_reducible refine Below.setCell ?_ (by first | omega | (simp <;> omega)) _ | with_reducible refine Below.alloc ?_ (by first | omega | (simp <;> omega)) _ | with_reducible refine Below.drew ?_)))
  | true =>
    rw [hb] at HB
    obtain ⟨h1, h2⟩ := baseB_true hb
    cases hf : faultsB n [(k, l)] with
    | false =>
      have HR := Lib.hid (show wiR b n (k, l) = (0, [], 0, [], 2) by simp [wiR, hf])
      have HF := Lib.hid hf
      clear hb hf
      go_enter Try.func20, Try.ntmps20
      go_upto_region 2 with fail
      obtain ⟨p, hp⟩ : ∃ g, g = w.heap.size := ⟨_, rfl⟩
      have hwp : w.heap.size ≤ p := Nat.le_of_eq hp.symm
      obtain ⟨u, hu⟩ : ∃ u, u = (((w.alloc (.cells #[.int .i64 k, .int .i64 l] 42)).alloc (.cells #[.int .i64 0, .slice none 0 0] 31)).alloc (.cells #[.int .i64 0, .slice none 0 0] 31)).alloc (.cells #[.int .i64 k, .int .i64 l] 42) := ⟨_, rfl⟩
      have b_x : Bx u p 42 #[.int .i64 k, .int .i64 l] := by rw [hu, hp]; exact (((Bx.new _ _ _).alloc _).alloc _).alloc _
      have b_r : Bx u (p + 1) 31 #[.int .i64 0, .slice none 0 0] := by rw [hu, hp]; simpa using ((Bx.new (w.alloc (.cells #[.int .i64 k, .int .i64 l] 42)) #[.int .i64 0, .slice none 0 0] 31).alloc _).alloc _
      have b_s : Bx u (p + 1 + 1) 31 #[.int .i64 0, .slice none 0 0] := by rw [hu, hp]; simpa using (Bx.new ((w.alloc (.cells #[.int .i64 k, .int .i64 l] 42)).alloc (.cells #[.int .i64 0, .slice none 0 0] 31)) #[.int .i64 0, .slice none 0 0] 31).alloc _
      have b_f : Bx u (p + 1 + 1 + 1) 42 #[.int .i64 k, .int .i64 l] := by rw [hu, hp]; simpa using Bx.new (((w.alloc (.cells #[.int .i64 k, .int .i64 l] 42)).alloc (.cells #[.int .i64 0, .slice none 0 0] 31)).alloc (.cells #[.int .i64 0, .slice none 0 0] 31)) #[.int .i64 k, .int .i64 l] 42
      have hb : Below w.heap.size w u := by rw [hu]; exact (by repeat (first | with_reducible exact Below.refl _ _ | with_reducible refine Below.setCell ?_ (by first | omega | (simp <;> omega)) _ | with_reducible refine Below.alloc ?_ (by first | omega | (simp <;> omega)) _ | with_reducible refine Below.drew ?_))
      rw [← hu, ← hp]
      clear hu hp
      replace hbel := hbel.trans (hb.mono hbel.size)
      clear hb
      go_wp2_with fail
      refine (HB.out u).mono ?_
      rintro e v ⟨rfl, hw⟩
      subst v
      go_wp2_with fail
      refine (implValidFaults_at n (some ⟨p + 1 + 1 + 1, 0, none⟩) 1 [(k, l)] u HF.out bn (rdF_one b_f) all2f).mono ?_
      rintro e v ⟨rfl, hb⟩
      replace b_x := b_x.below hb
      replace b_r := b_r.below hb
      replace b_s := b_s.below hb
      replace b_f := b_f.below hb
      replace hbel := hbel.trans (hb.mono hbel.size)
      clear hb
      have r0 := b_r.at_ 0 rfl
      have r1 := b_r.at_ 1 rfl
      have f0 := b_r.thaw 0
      have f1 := b_r.thaw 1
      have t0 := b_s.at_ 0 rfl
      have t1 := b_s.at_ 1 rfl
      have g0 := b_s.thaw 0
      have g1 := b_s.thaw 1
      have hs := b_r.lt
      have hs2 := b_s.lt
      have hbs := hbel.size
      go_wp2
      exact bodyPost_ret (v := .tuple #[.agg #[.int .i64 0, .slice none 0 0], .agg #[.int .i64 0, .slice none 0 0], .int .i64 2]) (by simp [results, go_sem, r0, r1, t0, t1]) rfl
        (twoAny_err HR.out rfl (by repeat (first | with_reducible exact hbel | with_reducible refine Below.setCell ?_ (by first | omega | (simp <;> omega)) _ | with_reducible refine Below.alloc ?_ (by first | omega | (simp <;> omega)) _ | with_reducible refine Below.drew ?_)))
    | true =>
      obtain ⟨n1, n2, k1, k2, l1, l2⟩ := faults_one hf
      simp only at k1 k2 l1 l2
      obtain ⟨m, rfl⟩ := Int.eq_ofNat_of_zero_le (show 0 ≤ n by omega)
      obtain ⟨l, rfl⟩ := Int.eq_ofNat_of_zero_le l1
      have hm : m ≤ 16 := by omega
      have hl : l < m := by omega
      have HF := Lib.hid hf
      have zA : All64 (wiA b m k l) := all64_wiA h1 h2
      have zB : All64 (wiB m k l) := all64_wiB
      have HADD := Lib.hid (fun (A : Option Addr) (C : Nat) (D : Option Addr) (E : Nat) (v : World) (ha : Rd v A (wiA b m k l)) (hc : Rd v D (wiB m k l)) => implAddRegisters b A C (wiA b m k l) b D E (wiB m k l) v ha zA bb hc zB bb)
      have HAWF := Lib.hid (fun (A : Option Addr) (C : Nat) (D : Option Addr) (E : Nat) (F : Option Addr) (G : Nat) (v : World) (ha : Rd v A (wiA b m k l)) (hc : Rd v D (wiB m k l)) (hf : RdF pairF v F [(k, (l : Int))]) => implAddWithFaults b A C (wiA b m k l) b D E (wiB m k l) F G [(k, (l : Int))] v ha zA bb hc zB bb hf all2f)
      have HSHW := Lib.hid (fun (A : Option Addr) (C : Nat) (D : Option Addr) (E : Nat) (F : Option Addr) (G : Nat) (v : World) (ha : Rd v A (wiA b m k l)) (hc : Rd v D (wiB m k l)) (hf : RdF pairF v F [(k, (l : Int))]) => implShowsFaults b A C (wiA b m k l) b D E (wiB m k l) F G [(k, (l : Int))] v ha zA bb hc zB bb hf all2f)
      rw [wi_len, wiB_len] at HADD HAWF HSHW
      simp only [List.length_singleton] at HAWF HSHW
      have HE : Hid (wiR b (m : Int) (k, (l : Int)) = if k = 3 ∧ (l : Int) = 0 then (0, [], 0, [], 3) else if wiOk b m k l = true then (b, wiA b m k l, b, wiB m k l, 0) else (0, [], 0, [], 5)) := Lib.hid (by rw [wiR, if_pos ⟨hb, hf⟩]; simp)
      have hcod := wi_codes (b := b) hf
      cases ho : wiOk b m k l with
      | true =>
        obtain ⟨a0, w0⟩ := hcod.2 ho
        have ha0 : ((addR b (wiA b m k l) b (wiB m k l)).2.2.2 != 0) = false := by simp [a0]
        have hw0 : ((awfR b (wiA b m k l) b (wiB m k l) [(k, (l : Int))]).2.2.2 != 0) = false := by simp [w0]
        by_cases hk0 : k = 3 ∧ l = 0
        · have hsf : shwB b (wiA b m k l) b (wiB m k l) [(k, (l : Int))] = false := by
            obtain ⟨rfl, rfl⟩ := hk0
            exact (wi_late h1 h2 (by omega) hm hf).2
          have HR := Lib.hid (HE.out.trans (if_pos ⟨hk0.1, by omega⟩))
          rw [hsf] at HSHW
          clear hb hf hcod ho a0 w0 hk0 hsf
          go_enter Try.func20, Try.ntmps20
          go_upto_region 2 with fail
          obtain ⟨p, hp⟩ : ∃ g, g = w.heap.size := ⟨_, rfl⟩
          have hwp : w.heap.size ≤ p := Nat.le_of_eq hp.symm
          obtain ⟨u, hu⟩ : ∃ u, u = (((w.alloc (.cells #[.int .i64 k, .int .i64 (l : Int)] 42)).alloc (.cells #[.int .i64 0, .slice none 0 0] 31)).alloc (.cells #[.int .i64 0, .slice none 0 0] 31)).alloc (.cells #[.int .i64 k, .int .i64 (l : Int)] 42) := ⟨_, rfl⟩
          have b_x : Bx u p 42 #[.int .i64 k, .int .i64 (l : Int)] := by rw [hu, hp]; exact (((Bx.new _ _ _).alloc _).alloc _).alloc _
          have b_r : Bx u (p + 1) 31 #[.int .i64 0, .slice none 0 0] := by rw [hu, hp]; simpa using ((Bx.new (w.alloc (.cells #[.int .i64 k, .int .i64 (l : Int)] 42)) #[.int .i64 0, .slice none 0 0] 31).alloc _).alloc _
          have b_s : Bx u (p + 1 + 1) 31 #[.int .i64 0, .slice none 0 0] := by rw [hu, hp]; simpa using (Bx.new ((w.alloc (.cells #[.int .i64 k, .int .i64 (l : Int)] 42)).alloc (.cells #[.int .i64 0, .slice none 0 0] 31)) #[.int .i64 0, .slice none 0 0] 31).alloc _
          have b_f : Bx u (p + 1 + 1 + 1) 42 #[.int .i64 k, .int .i64 (l : Int)] := by rw [hu, hp]; simpa using Bx.new (((w.alloc (.cells #[.int .i64 k, .int .i64 (l : Int)] 42)).alloc (.cells #[.int .i64 0, .slice none 0 0] 31)).alloc (.cells #[.int .i64 0, .slice none 0 0] 31)) #[.int .i64 k, .int .i64 (l : Int)] 42
          have hb : Below w.heap.size w u := by rw [hu]; exact (by repeat (first | with_reducible exact Below.refl _ _ | with_reducible refine Below.setCell ?_ (by first | omega | (simp <;> omega)) _ | with_reducible refine Below.alloc ?_ (by first | omega | (simp <;> omega)) _ | with_reducible refine Below.drew ?_))
          rw [← hu, ← hp]
          clear hu hp
          replace hbel := hbel.trans (hb.mono hbel.size)
          clear hb
          go_wp2_with fail
          refine (HB.out u).mono ?_
          rintro e v ⟨rfl, hw⟩
          subst v
          go_wp2_with fail
          refine (implValidFaults_at (m : Int) (some ⟨p + 1 + 1 + 1, 0, none⟩) 1 [(k, (l : Int))] u HF.out bn (rdF_one b_f) all2f).mono ?_
          rintro e v ⟨rfl, hb⟩
          replace b_x := b_x.below hb
          replace b_r := b_r.below hb
          replace b_s := b_s.below hb
          replace b_f := b_f.below hb
          replace hbel := hbel.trans (hb.mono hbel.size)
          clear hb
          go_upto_region 4 with fail
          have c0 := b_x.at_ 0 rfl
          have c1 := b_x.at_ 1 rfl
          go_wp2_with fail
          refine (witness_any b m l k v h1 h2 hm hl).mono ?_
          rintro e v2 ⟨x, y, rfl, ow1, ow2, hvx, hvy, hxy, hb⟩
          have hpv : p + 1 + 1 + 1 < v.heap.size := b_f.lt
          have hwv : w.heap.size ≤ v.heap.size := hbel.size
          clear c0 c1
          replace b_x := b_x.below hb
          replace b_r := b_r.below hb
          replace b_s := b_s.below hb
          replace b_f := b_f.below hb
          replace hbel := hbel.trans (hb.mono hbel.size)
          clear hb
          have hx2 := ow1.block
          have hy2 := ow2.block
          go_upto_region 6 with fail
          obtain ⟨q, hq⟩ : ∃ g, g = v2.heap.size := ⟨_, rfl⟩
          have hk_q : v2.heap.size ≤ q := Nat.le_of_eq hq.symm
          obtain ⟨v3, hv3⟩ : ∃ V, V = (v2.alloc (.cells #[.int .i64 b, .slice (some ⟨x, 0, none⟩) m m] 31)).alloc (.cells #[.int .i64 b, .slice (some ⟨y, 0, none⟩) m m] 31) := ⟨_, rfl⟩
          have b_q : Bx v3 q 31 #[.int .i64 b, .slice (some ⟨x, 0, none⟩) m m] := by rw [hv3, hq]; exact (Bx.new _ _ _).alloc _
          have b_q1 : Bx v3 (q + 1) 31 #[.int .i64 b, .slice (some ⟨y, 0, none⟩) m m] := by rw [hv3, hq]; simpa using Bx.new (v2.alloc (.cells #[.int .i64 b, .slice (some ⟨x, 0, none⟩) m m] 31)) #[.int .i64 b, .slice (some ⟨y, 0, none⟩) m m] 31
          have hb : Below v2.heap.size v2 v3 := by rw [hv3]; exact ((Below.refl _ _).alloc (Nat.le_refl _) _).alloc (by simp) _
          rw [← hq, ← hv3]
          clear hv3 hq
          replace b_x := b_x.below hb
          replace b_r := b_r.below hb
          replace b_s := b_s.below hb
          replace b_f := b_f.below hb
          replace ow1 := ow1.below hb
          replace ow2 := ow2.below hb
          replace hbel := hbel.trans (hb.mono hbel.size)
          clear hb
          have c0 := b_q.at_ 0 rfl
          have c1 := b_q.at_ 1 rfl
          have d0 := b_q1.at_ 0 rfl
          have d1 := b_q1.at_ 1 rfl
          have hr1 := ow1.rd
          have hr2 := ow2.rd
          go_wp2_with fail
          refine (HADD.out (some ⟨x, 0, none⟩) m (some ⟨y, 0, none⟩) m v3 hr1 hr2).mono ?_
          rintro e v4 ⟨A4, C4, rfl, _, hb⟩
          clear c0 c1 d0 d1 hr1 hr2
          replace b_x := b_x.below hb
          replace b_r := b_r.below hb
          replace b_s := b_s.below hb
          replace b_f := b_f.below hb
          replace ow1 := ow1.below hb
          replace ow2 := ow2.below hb
          replace b_q := b_q.below hb
          replace b_q1 := b_q1.below hb
          replace hbel := hbel.trans (hb.mono hbel.size)
          clear hb
          go_upto_region 7 with fail
          obtain ⟨v5, hv5⟩ : ∃ V, V = v4.alloc (.cells #[.int .i64 (addR b (wiA b m k l) b (wiB m k l)).1, .slice A4 (addR b (wiA b m k l) b (wiB m k l)).2.1.length C4] 31) := ⟨_, rfl⟩
          have hb : Below v4.heap.size v4 v5 := by rw [hv5]; exact (Below.refl _ _).alloc (Nat.le_refl _) _
          rw [← hv5]
          clear hv5
          replace b_x := b_x.below hb
          replace b_r := b_r.below hb
          replace b_s := b_s.below hb
          replace b_f := b_f.below hb
          replace ow1 := ow1.below hb
          replace ow2 := ow2.below hb
          replace b_q := b_q.below hb
          replace b_q1 := b_q1.below hb
          replace hbel := hbel.trans (hb.mono hbel.size)
          clear hb
          have c0 := b_q.at_ 0 rfl
          have c1 := b_q.at_ 1 rfl
          have d0 := b_q1.at_ 0 rfl
          have d1 := b_q1.at_ 1 rfl
          have hr1 := ow1.rd
          have hr2 := ow2.rd
          go_wp2_with fail
          refine (HAWF.out (some ⟨x, 0, none⟩) m (some ⟨y, 0, none⟩) m (some ⟨p + 1 + 1 + 1, 0, none⟩) 1 v5 hr1 hr2 (rdF_one b_f)).mono ?_
          rintro e v6 ⟨A6, C6, rfl, _, hb⟩
          clear c0 c1 d0 d1 hr1 hr2
          replace b_x := b_x.below hb
          replace b_r := b_r.below hb
          replace b_s := b_s.below hb
          replace b_f := b_f.below hb
          replace ow1 := ow1.below hb
          replace ow2 := ow2.below hb
          replace b_q := b_q.below hb
          replace b_q1 := b_q1.below hb
          replace hbel := hbel.trans (hb.mono hbel.size)
          clear hb
          go_upto_region 8 with fail
          obtain ⟨v7, hv7⟩ : ∃ V, V = v6.alloc (.cells #[.int .i64 (awfR b (wiA b m k l) b (wiB m k l) [(k, (l : Int))]).1, .slice A6 (awfR b (wiA b m k l) b (wiB m k l) [(k, (l : Int))]).2.1.length C6] 31) := ⟨_, rfl⟩
          have hb : Below v6.heap.size v6 v7 := by rw [hv7]; exact (Below.refl _ _).alloc (Nat.le_refl _) _
          rw [← hv7]
          clear hv7
          replace b_x := b_x.below hb
          replace b_r := b_r.below hb
          replace b_s := b_s.below hb
          replace b_f := b_f.below hb
          replace ow1 := ow1.below hb
          replace ow2 := ow2.below hb
          replace b_q := b_q.below hb
          replace b_q1 := b_q1.below hb
          replace hbel := hbel.trans (hb.mono hbel.size)
          clear hb
          have c0 := b_q.at_ 0 rfl
          have c1 := b_q.at_ 1 rfl
          have d0 := b_q1.at_ 0 rfl
          have d1 := b_q1.at_ 1 rfl
          have hr1 := ow1.rd
          have hr2 := ow2.rd
          go_wp2_with fail
          refine (HSHW.out (some ⟨x, 0, none⟩) m (some ⟨y, 0, none⟩) m (some ⟨p + 1 + 1 + 1, 0, none⟩) 1 v7 hr1 hr2 (rdF_one b_f)).mono ?_
          rintro e v8 ⟨rfl, hb⟩
          clear c0 c1 d0 d1 hr1 hr2
          replace b_x := b_x.below hb
          replace b_r := b_r.below hb
          replace b_s := b_s.below hb
          replace b_f := b_f.below hb
          replace ow1 := ow1.below hb
          replace ow2 := ow2.below hb
          replace b_q := b_q.below hb
          replace b_q1 := b_q1.below hb
          replace hbel := hbel.trans (hb.mono hbel.size)
          clear hb
          have r0 := b_r.at_ 0 rfl
          have r1 := b_r.at_ 1 rfl
          have f0 := b_r.thaw 0
          have f1 := b_r.thaw 1
          have t0 := b_s.at_ 0 rfl
          have t1 := b_s.at_ 1 rfl
          have g0 := b_s.thaw 0
          have g1 := b_s.thaw 1
          have hs := b_r.lt
          have hs2 := b_s.lt
          have hbs := hbel.size
          go_wp2
          exact bodyPost_ret (v := .tuple #[.agg #[.int .i64 0, .slice none 0 0], .agg #[.int .i64 0, .slice none 0 0], .int .i64 3]) (by simp [results, go_sem, r0, r1, t0, t1]) rfl
            (twoAny_err HR.out rfl (by repeat (first | with_reducible exact hbel | with_reducible refine Below.setCell ?_ (by first | omega | (simp <;> omega)) _ | with_reducible refine Below.alloc ?_ (by first | omega | (simp <;> omega)) _ | with_reducible refine Below.drew ?_)))
        · have hk : k = 1 ∨ k = 2 ∨ (k = 3 ∧ 0 < l) := by omega
          have HR := Lib.hid (HE.out.trans ((if_neg (by omega)).trans (if_pos ho)))
          rw [wi_shown h1 hl hk hf ho] at HSHW
          clear hb hf hcod ho a0 w0 hk hk0
          go_enter Try.func20, Try.ntmps20
          go_upto_region 2 with fail
          obtain ⟨p, hp⟩ : ∃ g, g = w.heap.size := ⟨_, rfl⟩
          have hwp : w.heap.size ≤ p := Nat.le_of_eq hp.symm
          obtain ⟨u, hu⟩ : ∃ u, u = (((w.alloc (.cells #[.int .i64 k, .int .i64 (l : Int)] 42)).alloc (.cells #[.int .i64 0, .slice none 0 0] 31)).alloc (.cells #[.int .i64 0, .slice none 0 0] 31)).alloc (.cells #[.int .i64 k, .int .i64 (l : Int)] 42) := ⟨_, rfl⟩
          have b_x : Bx u p 42 #[.int .i64 k, .int .i64 (l : Int)] := by rw [hu, hp]; exact (((Bx.new _ _ _).alloc _).alloc _).alloc _
          have b_r : Bx u (p + 1) 31 #[.int .i64 0, .slice none 0 0] := by rw [hu, hp]; simpa using ((Bx.new (w.alloc (.cells #[.int .i64 k, .int .i64 (l : Int)] 42)) #[.int .i64 0, .slice none 0 0] 31).alloc _).alloc _
          have b_s : Bx u (p + 1 + 1) 31 #[.int .i64 0, .slice none 0 0] := by rw [hu, hp]; simpa using (Bx.new ((w.alloc (.cells #[.int .i64 k, .int .i64 (l : Int)] 42)).alloc (.cells #[.int .i64 0, .slice none 0 0] 31)) #[.int .i64 0, .slice none 0 0] 31).alloc _
          have b_f : Bx u (p + 1 + 1 + 1) 42 #[.int .i64 k, .int .i64 (l : Int)] := by rw [hu, hp]; simpa using Bx.new (((w.alloc (.cells #[.int .i64 k, .int .i64 (l : Int)] 42)).alloc (.cells #[.int .i64 0, .slice none 0 0] 31)).alloc (.cells #[.int .i64 0, .slice none 0 0] 31)) #[.int .i64 k, .int .i64 (l : Int)] 42
          have hb : Below w.heap.size w u := by rw [hu]; exact (by repeat (first | with_reducible exact Below.refl _ _ | with_reducible refine Below.setCell ?_ (by first | omega | (simp <;> omega)) _ | with_reducible refine Below.alloc ?_ (by first | omega | (simp <;> omega)) _ | with_reducible refine Below.drew ?_))
          rw [← hu, ← hp]
          clear hu hp
          replace hbel := hbel.trans (hb.mono hbel.size)
          clear hb
          go_wp2_with fail
          refine (HB.out u).mono ?_
          rintro e v ⟨rfl, hw⟩
          subst v
          go_wp2_with fail
          refine (implValidFaults_at (m : Int) (some ⟨p + 1 + 1 + 1, 0, none⟩) 1 [(k, (l : Int))] u HF.out bn (rdF_one b_f) all2f).mono ?_
          rintro e v ⟨rfl, hb⟩
          replace b_x := b_x.below hb
          replace b_r := b_r.below hb
          replace b_s := b_s.below hb
          replace b_f := b_f.below hb
          replace hbel := hbel.trans (hb.mono hbel.size)
          clear hb
          go_upto_region 4 with fail
          have c0 := b_x.at_ 0 rfl
          have c1 := b_x.at_ 1 rfl
          go_wp2_with fail
          refine (witness_any b m l k v h1 h2 hm hl).mono ?_
          rintro e v2 ⟨x, y, rfl, ow1, ow2, hvx, hvy, hxy, hb⟩
          have hpv : p + 1 + 1 + 1 < v.heap.size := b_f.lt
          have hwv : w.heap.size ≤ v.heap.size := hbel.size
          clear c0 c1
          replace b_x := b_x.below hb
          replace b_r := b_r.below hb
          replace b_s := b_s.below hb
          replace b_f := b_f.below hb
          replace hbel := hbel.trans (hb.mono hbel.size)
          clear hb
          have hx2 := ow1.block
          have hy2 := ow2.block
          go_upto_region 6 with fail
          obtain ⟨q, hq⟩ : ∃ g, g = v2.heap.size := ⟨_, rfl⟩
          have hk_q : v2.heap.size ≤ q := Nat.le_of_eq hq.symm
          obtain ⟨v3, hv3⟩ : ∃ V, V = (v2.alloc (.cells #[.int .i64 b, .slice (some ⟨x, 0, none⟩) m m] 31)).alloc (.cells #[.int .i64 b, .slice (some ⟨y, 0, none⟩) m m] 31) := ⟨_, rfl⟩
          have b_q : Bx v3 q 31 #[.int .i64 b, .slice (some ⟨x, 0, none⟩) m m] := by rw [hv3, hq]; exact (Bx.new _ _ _).alloc _
          have b_q1 : Bx v3 (q + 1) 31 #[.int .i64 b, .slice (some ⟨y, 0, none⟩) m m] := by rw [hv3, hq]; simpa using Bx.new (v2.alloc (.cells #[.int .i64 b, .slice (some ⟨x, 0, none⟩) m m] 31)) #[.int .i64 b, .slice (some ⟨y, 0, none⟩) m m] 31
          have hb : Below v2.heap.size v2 v3 := by rw [hv3]; exact ((Below.refl _ _).alloc (Nat.le_refl _) _).alloc (by simp) _
          rw [← hq, ← hv3]
          clear hv3 hq
          replace b_x := b_x.below hb
          replace b_r := b_r.below hb
          replace b_s := b_s.below hb
          replace b_f := b_f.below hb
          replace ow1 := ow1.below hb
          replace ow2 := ow2.below hb
          replace hbel := hbel.trans (hb.mono hbel.size)
          clear hb
          have c0 := b_q.at_ 0 rfl
          have c1 := b_q.at_ 1 rfl
          have d0 := b_q1.at_ 0 rfl
          have d1 := b_q1.at_ 1 rfl
          have hr1 := ow1.rd
          have hr2 := ow2.rd
          go_wp2_with fail
          refine (HADD.out (some ⟨x, 0, none⟩) m (some ⟨y, 0, none⟩) m v3 hr1 hr2).mono ?_
          rintro e v4 ⟨A4, C4, rfl, _, hb⟩
          clear c0 c1 d0 d1 hr1 hr2
          replace b_x := b_x.below hb
          replace b_r := b_r.below hb
          replace b_s := b_s.below hb
          replace b_f := b_f.below hb
          replace ow1 := ow1.below hb
          replace ow2 := ow2.below hb
          replace b_q := b_q.below hb
          replace b_q1 := b_q1.below hb
          replace hbel := hbel.trans (hb.mono hbel.size)
          clear hb
          go_upto_region 7 with fail
          obtain ⟨v5, hv5⟩ : ∃ V, V = v4.alloc (.cells #[.int .i64 (addR b (wiA b m k l) b (wiB m k l)).1, .slice A4 (addR b (wiA b m k l) b (wiB m k l)).2.1.length C4] 31) := ⟨_, rfl⟩
          have hb : Below v4.heap.size v4 v5 := by rw [hv5]; exact (Below.refl _ _).alloc (Nat.le_refl _) _
          rw [← hv5]
          clear hv5
          replace b_x := b_x.below hb
          replace b_r := b_r.below hb
          replace b_s := b_s.below hb
          replace b_f := b_f.below hb
          replace ow1 := ow1.below hb
          replace ow2 := ow2.below hb
          replace b_q := b_q.below hb
          replace b_q1 := b_q1.below hb
          replace hbel := hbel.trans (hb.mono hbel.size)
          clear hb
          have c0 := b_q.at_ 0 rfl
          have c1 := b_q.at_ 1 rfl
          have d0 := b_q1.at_ 0 rfl
          have d1 := b_q1.at_ 1 rfl
          have hr1 := ow1.rd
          have hr2 := ow2.rd
          go_wp2_with fail
          refine (HAWF.out (some ⟨x, 0, none⟩) m (some ⟨y, 0, none⟩) m (some ⟨p + 1 + 1 + 1, 0, none⟩) 1 v5 hr1 hr2 (rdF_one b_f)).mono ?_
          rintro e v6 ⟨A6, C6, rfl, _, hb⟩
          clear c0 c1 d0 d1 hr1 hr2
          replace b_x := b_x.below hb
          replace b_r := b_r.below hb
          replace b_s := b_s.below hb
          replace b_f := b_f.below hb
          replace ow1 := ow1.below hb
          replace ow2 := ow2.below hb
          replace b_q := b_q.below hb
          replace b_q1 := b_q1.below hb
          replace hbel := hbel.trans (hb.mono hbel.size)
          clear hb
          go_upto_region 8 with fail
          obtain ⟨v7, hv7⟩ : ∃ V, V = v6.alloc (.cells #[.int .i64 (awfR b (wiA b m k l) b (wiB m k l) [(k, (l : Int))]).1, .slice A6 (awfR b (wiA b m k l) b (wiB m k l) [(k, (l : Int))]).2.1.length C6] 31) := ⟨_, rfl⟩
          have hb : Below v6.heap.size v6 v7 := by rw [hv7]; exact (Below.refl _ _).alloc (Nat.le_refl _) _
          rw [← hv7]
          clear hv7
          replace b_x := b_x.below hb
          replace b_r := b_r.below hb
          replace b_s := b_s.below hb
          replace b_f := b_f.below hb
          replace ow1 := ow1.below hb
          replace ow2 := ow2.below hb
          replace b_q := b_q.below hb
          replace b_q1 := b_q1.below hb
          replace hbel := hbel.trans (hb.mono hbel.size)
          clear hb
          have c0 := b_q.at_ 0 rfl
          have c1 := b_q.at_ 1 rfl
          have d0 := b_q1.at_ 0 rfl
          have d1 := b_q1.at_ 1 rfl
          have hr1 := ow1.rd
          have hr2 := ow2.rd
          go_wp2_with fail
          refine (HSHW.out (some ⟨x, 0, none⟩) m (some ⟨y, 0, none⟩) m (some ⟨p + 1 + 1 + 1, 0, none⟩) 1 v7 hr1 hr2 (rdF_one b_f)).mono ?_
          rintro e v8 ⟨rfl, hb⟩
          clear c0 c1 d0 d1 hr1 hr2
          replace b_x := b_x.below hb
          replace b_r := b_r.below hb
          replace b_s := b_s.below hb
          replace b_f := b_f.below hb
          replace ow1 := ow1.below hb
          replace ow2 := ow2.below hb
          replace b_q := b_q.below hb
          replace b_q1 := b_q1.below hb
          replace hbel := hbel.trans (hb.mono hbel.size)
          clear hb
          have hx8 := ow1.block
          have hy8 := ow2.block
          go_upto_region 12 with fail
          have s0 : ∀ w', (Bx w' q 31 #[.int .i64 b, .slice (some ⟨x, 0, none⟩) m m] ∧ Bx w' (q + 1) 31 #[.int .i64 b, .slice (some ⟨y, 0, none⟩) m m]) → w'.cell? ⟨q, 0, none⟩ = some (.int .i64 b) := fun _ h => h.1.at_ 0 rfl
          have s1 : ∀ w', (Bx w' q 31 #[.int .i64 b, .slice (some ⟨x, 0, none⟩) m m] ∧ Bx w' (q + 1) 31 #[.int .i64 b, .slice (some ⟨y, 0, none⟩) m m]) → w'.cell? ⟨q, 1, none⟩ = some (.slice (some ⟨x, 0, none⟩) m m) := fun _ h => h.1.at_ 1 rfl
          have s2 : ∀ w', (Bx w' q 31 #[.int .i64 b, .slice (some ⟨x, 0, none⟩) m m] ∧ Bx w' (q + 1) 31 #[.int .i64 b, .slice (some ⟨y, 0, none⟩) m m]) → w'.cell? ⟨q + 1, 0, none⟩ = some (.int .i64 b) := fun _ h => h.2.at_ 0 rfl
          have s3 : ∀ w', (Bx w' q 31 #[.int .i64 b, .slice (some ⟨x, 0, none⟩) m m] ∧ Bx w' (q + 1) 31 #[.int .i64 b, .slice (some ⟨y, 0, none⟩) m m]) → w'.cell? ⟨q + 1, 1, none⟩ = some (.slice (some ⟨y, 0, none⟩) m m) := fun _ h => h.2.at_ 1 rfl
          have hS : Bx v8.drew q 31 #[.int .i64 b, .slice (some ⟨x, 0, none⟩) m m] ∧ Bx v8.drew (q + 1) 31 #[.int .i64 b, .slice (some ⟨y, 0, none⟩) m m] := ⟨b_q.drew, b_q1.drew⟩
          refine wp_region_marked (fun w' => Bx w' q 31 #[.int .i64 b, .slice (some ⟨x, 0, none⟩) m m] ∧ Bx w' (q + 1) 31 #[.int .i64 b, .slice (some ⟨y, 0, none⟩) m m]) 4 (by kernel_rfl) ?_
          refine wpAnyM_take (i := 0) (v := ?_) rfl (by kernel_rfl) (by kernel_rfl) (by kernel_rfl) (by kernel_rfl) (by kernel_rfl) (fun _ _ _ h => h) hS (.inl ⟨by rfl, ?_⟩) ?_
          rotate_left 1
          · intro w' hS'; go_simp; try with_reducible rfl
          simp only [Act.put, List.setIfInBounds_toArray, List.set_cons_succ, List.set_cons_zero, List.getElem_toArray, List.getElem_cons_zero]
          refine wpAnyM_take (i := 1) (v := ?_) rfl (by kernel_rfl) (by kernel_rfl) (by kernel_rfl) (by kernel_rfl) (by kernel_rfl) (fun _ _ _ h => h) hS (.inl ⟨by rfl, ?_⟩) ?_
          rotate_left 1
          · intro w' hS'; go_simp; try with_reducible rfl
          simp only [Act.put, List.setIfInBounds_toArray, List.set_cons_succ, List.set_cons_zero, List.getElem_toArray, List.getElem_cons_succ, List.getElem_cons_zero]
          have r0 := b_r.at_ 0 rfl
          have r1 := b_r.at_ 1 rfl
          have f0 := b_r.thaw 0
          have f1 := b_r.thaw 1
          have t0 := b_s.at_ 0 rfl
          have t1 := b_s.at_ 1 rfl
          have g0 := b_s.thaw 0
          have g1 := b_s.thaw 1
          have hs := b_r.lt
          have hs2 := b_s.lt
          have hbs := hbel.size
          have n1 : q ≠ p + 1 := by omega
          have n2 : q + 1 ≠ p + 1 := by omega
          have n3 : q ≠ p + 1 + 1 := by omega
          have n4 : q + 1 ≠ p + 1 + 1 := by omega
          refine wpAnyM_one (i := 2) (by kernel_rfl) rfl (by rfl) (fun K hK => ?_)
          go_simp
          replace hS := And.intro ((hS.1.far (p := ⟨p + 1, 0, none⟩) n1 (.int .i64 b)).far (p := ⟨p + 1, 1, none⟩) n1 (.slice (some ⟨x, 0, none⟩) m m)) ((hS.2.far (p := ⟨p + 1, 0, none⟩) n2 (.int .i64 b)).far (p := ⟨p + 1, 1, none⟩) n2 (.slice (some ⟨x, 0, none⟩) m m))
          refine hK _ _ (.inr hS) ?_
          try simp only [Act.put, List.setIfInBounds_toArray, List.set_cons_succ, List.set_cons_zero, List.getElem_toArray, List.getElem_cons_succ, List.getElem_cons_zero]
          clear hK K
          refine wpAnyM_one (i := 3) (by kernel_rfl) rfl (by rfl) (fun K hK => ?_)
          go_simp
          replace hS := And.intro ((hS.1.far (p := ⟨p + 1 + 1, 0, none⟩) n3 (.int .i64 b)).far (p := ⟨p + 1 + 1, 1, none⟩) n3 (.slice (some ⟨y, 0, none⟩) m m)) ((hS.2.far (p := ⟨p + 1 + 1, 0, none⟩) n4 (.int .i64 b)).far (p := ⟨p + 1 + 1, 1, none⟩) n4 (.slice (some ⟨y, 0, none⟩) m m))
          refine hK _ _ (.inr hS) ?_
          try simp only [Act.put, List.setIfInBounds_toArray, List.set_cons_succ, List.set_cons_zero, List.getElem_toArray, List.getElem_cons_succ, List.getElem_cons_zero]
          clear hK K
          refine wpAnyM_one (i := 4) (by kernel_rfl) rfl (by rfl) (fun K hK => ?_)
          go_simp
          refine hK _ _ (.inl rfl) ?_
          clear hK K
          refine wpAnyM_done (by kernel_rfl) ?_ _
          try simp only [Act.put, List.setIfInBounds_toArray, List.set_cons_succ, List.set_cons_zero, List.getElem_toArray, List.getElem_cons_succ, List.getElem_cons_zero]
          go_wp2
          have own1 := (((ow1.setCell (p := ⟨p + 1, 0, none⟩) (.inl (by simp; omega)) (.int .i64 b)).setCell (p := ⟨p + 1, 1, none⟩) (.inl (by simp; omega)) (.slice (some ⟨x, 0, none⟩) m m)).setCell (p := ⟨p + 1 + 1, 0, none⟩) (.inl (by simp; omega)) (.int .i64 b)).setCell (p := ⟨p + 1 + 1, 1, none⟩) (.inl (by simp; omega)) (.slice (some ⟨y, 0, none⟩) m m)
          have own2 := (((ow2.setCell (p := ⟨p + 1, 0, none⟩) (.inl (by simp; omega)) (.int .i64 b)).setCell (p := ⟨p + 1, 1, none⟩) (.inl (by simp; omega)) (.slice (some ⟨x, 0, none⟩) m m)).setCell (p := ⟨p + 1 + 1, 0, none⟩) (.inl (by simp; omega)) (.int .i64 b)).setCell (p := ⟨p + 1 + 1, 1, none⟩) (.inl (by simp; omega)) (.slice (some ⟨y, 0, none⟩) m m)
          have hlast : Below w.heap.size w _ := (((hbel.drew.setCell (p := ⟨p + 1, 0, none⟩) (by simp; omega) (.int .i64 b)).setCell (p := ⟨p + 1, 1, none⟩) (by simp; omega) (.slice (some ⟨x, 0, none⟩) m m)).setCell (p := ⟨p + 1 + 1, 0, none⟩) (by simp; omega) (.int .i64 b)).setCell (p := ⟨p + 1 + 1, 1, none⟩) (by simp; omega) (.slice (some ⟨y, 0, none⟩) m m)
          exact bodyPost_ret (v := .tuple #[.agg #[.int .i64 b, .slice (some ⟨x, 0, none⟩) m m], .agg #[.int .i64 b, .slice (some ⟨y, 0, none⟩) m m], .int .i64 0]) (by simp [results, go_sem, r0, r1, t0, t1]) rfl
            (twoAny_ok HR.out (wi_len b m k l) (wiB_len m k l) rfl own1.drew own2.drew (by omega) (by omega) (by simp; omega) (by simp; omega) (by omega) hlast)
      | false =>
        have hk0 : ¬ (k = 3 ∧ (l : Int) = 0) := by
          rintro ⟨rfl, h0⟩
          obtain rfl : l = 0 := by omega
          rw [(wi_late h1 h2 (by omega) hm hf).1] at ho
          cases ho
        have HR := Lib.hid (HE.out.trans ((if_neg hk0).trans (if_neg (by rw [ho]; simp))))
        by_cases a0 : (addR b (wiA b m k l) b (wiB m k l)).2.2.2 = 0
        · have w0 : ¬ (awfR b (wiA b m k l) b (wiB m k l) [(k, (l : Int))]).2.2.2 = 0 := fun h => by rw [hcod.1 ⟨a0, h⟩] at ho; cases ho
          have ha0 : ((addR b (wiA b m k l) b (wiB m k l)).2.2.2 != 0) = false := by simp [a0]
          have hw0 : ((awfR b (wiA b m k l) b (wiB m k l) [(k, (l : Int))]).2.2.2 != 0) = true := by simp [w0]
          clear hb hf hcod ho a0 w0 hk0
          go_enter Try.func20, Try.ntmps20
          go_upto_region 2 with fail
          obtain ⟨p, hp⟩ : ∃ g, g = w.heap.size := ⟨_, rfl⟩
          have hwp : w.heap.size ≤ p := Nat.le_of_eq hp.symm
          obtain ⟨u, hu⟩ : ∃ u, u = (((w.alloc (.cells #[.int .i64 k, .int .i64 (l : Int)] 42)).alloc (.cells #[.int .i64 0, .slice none 0 0] 31)).alloc (.cells #[.int .i64 0, .slice none 0 0] 31)).alloc (.cells #[.int .i64 k, .int .i64 (l : Int)] 42) := ⟨_, rfl⟩
          have b_x : Bx u p 42 #[.int .i64 k, .int .i64 (l : Int)] := by rw [hu, hp]; exact (((Bx.new _ _ _).alloc _).alloc _).alloc _
          have b_r : Bx u (p + 1) 31 #[.int .i64 0, .slice none 0 0] := by rw [hu, hp]; simpa using ((Bx.new (w.alloc (.cells #[.int .i64 k, .int .i64 (l : Int)] 42)) #[.int .i64 0, .slice none 0 0] 31).alloc _).alloc _
          have b_s : Bx u (p + 1 + 1) 31 #[.int .i64 0, .slice none 0 0] := by rw [hu, hp]; simpa using (Bx.new ((w.alloc (.cells #[.int .i64 k, .int .i64 (l : Int)] 42)).alloc (.cells #[.int .i64 0, .slice none 0 0] 31)) #[.int .i64 0, .slice none 0 0] 31).alloc _
          have b_f : Bx u (p + 1 + 1 + 1) 42 #[.int .i64 k, .int .i64 (l : Int)] := by rw [hu, hp]; simpa using Bx.new (((w.alloc (.cells #[.int .i64 k, .int .i64 (l : Int)] 42)).alloc (.cells #[.int .i64 0, .slice none 0 0] 31)).alloc (.cells #[.int .i64 0, .slice none 0 0] 31)) #[.int .i64 k, .int .i64 (l : Int)] 42
          have hb : Below w.heap.size w u := by rw [hu]; exact (by repeat (first | with_reducible exact Below.refl _ _ | with_reducible refine Below.setCell ?_ (by first | omega | (simp <;> omega)) _ | with_reducible refine Below.alloc ?_ (by first | omega | (simp <;> omega)) _ | with_reducible refine Below.drew ?_))
          rw [← hu, ← hp]
          clear hu hp
          replace hbel := hbel.trans (hb.mono hbel.size)
          clear hb
          go_wp2_with fail
          refine (HB.out u).mono ?_
          rintro e v ⟨rfl, hw⟩
          subst v
          go_wp2_with fail
          refine (implValidFaults_at (m : Int) (some ⟨p + 1 + 1 + 1, 0, none⟩) 1 [(k, (l : Int))] u HF.out bn (rdF_one b_f) all2f).mono ?_
          rintro e v ⟨rfl, hb⟩
          replace b_x := b_x.below hb
          replace b_r := b_r.below hb
          replace b_s := b_s.below hb
          replace b_f := b_f.below hb
          replace hbel := hbel.trans (hb.mono hbel.size)
          clear hb
          go_upto_region 4 with fail
          have c0 := b_x.at_ 0 rfl
          have c1 := b_x.at_ 1 rfl
          go_wp2_with fail
          refine (witness_any b m l k v h1 h2 hm hl).mono ?_
          rintro e v2 ⟨x, y, rfl, ow1, ow2, hvx, hvy, hxy, hb⟩
          have hpv : p + 1 + 1 + 1 < v.heap.size := b_f.lt
          have hwv : w.heap.size ≤ v.heap.size := hbel.size
          clear c0 c1
          replace b_x := b_x.below hb
          replace b_r := b_r.below hb
          replace b_s := b_s.below hb
          replace b_f := b_f.below hb
          replace hbel := hbel.trans (hb.mono hbel.size)
          clear hb
          have hx2 := ow1.block
          have hy2 := ow2.block
          go_upto_region 6 with fail
          obtain ⟨q, hq⟩ : ∃ g, g = v2.heap.size := ⟨_, rfl⟩
          have hk_q : v2.heap.size ≤ q := Nat.le_of_eq hq.symm
          obtain ⟨v3, hv3⟩ : ∃ V, V = (v2.alloc (.cells #[.int .i64 b, .slice (some ⟨x, 0, none⟩) m m] 31)).alloc (.cells #[.int .i64 b, .slice (some ⟨y, 0, none⟩) m m] 31) := ⟨_, rfl⟩
          have b_q : Bx v3 q 31 #[.int .i64 b, .slice (some ⟨x, 0, none⟩) m m] := by rw [hv3, hq]; exact (Bx.new _ _ _).alloc _
          have b_q1 : Bx v3 (q + 1) 31 #[.int .i64 b, .slice (some ⟨y, 0, none⟩) m m] := by rw [hv3, hq]; simpa using Bx.new (v2.alloc (.cells #[.int .i64 b, .slice (some ⟨x, 0, none⟩) m m] 31)) #[.int .i64 b, .slice (some ⟨y, 0, none⟩) m m] 31
          have hb : Below v2.heap.size v2 v3 := by rw [hv3]; exact ((Below.refl _ _).alloc (Nat.le_refl _) _).alloc (by simp) _
          rw [← hq, ← hv3]
          clear hv3 hq
          replace b_x := b_x.below hb
          replace b_r := b_r.below hb
          replace b_s := b_s.below hb
          replace b_f := b_f.below hb
          replace ow1 := ow1.below hb
          replace ow2 := ow2.below hb
          replace hbel := hbel.trans (hb.mono hbel.size)
          clear hb
          have c0 := b_q.at_ 0 rfl
          have c1 := b_q.at_ 1 rfl
          have d0 := b_q1.at_ 0 rfl
          have d1 := b_q1.at_ 1 rfl
          have hr1 := ow1.rd
          have hr2 := ow2.rd
          go_wp2_with fail
          refine (HADD.out (some ⟨x, 0, none⟩) m (some ⟨y, 0, none⟩) m v3 hr1 hr2).mono ?_
          rintro e v4 ⟨A4, C4, rfl, _, hb⟩
          clear c0 c1 d0 d1 hr1 hr2
          replace b_x := b_x.below hb
          replace b_r := b_r.below hb
          replace b_s := b_s.below hb
          replace b_f := b_f.below hb
          replace ow1 := ow1.below hb
          replace ow2 := ow2.below hb
          replace b_q := b_q.below hb
          replace b_q1 := b_q1.below hb
          replace hbel := hbel.trans (hb.mono hbel.size)
          clear hb
          go_upto_region 7 with fail
          obtain ⟨v5, hv5⟩ : ∃ V, V = v4.alloc (.cells #[.int .i64 (addR b (wiA b m k l) b (wiB m k l)).1, .slice A4 (addR b (wiA b m k l) b (wiB m k l)).2.1.length C4] 31) := ⟨_, rfl⟩
          have hb : Below v4.heap.size v4 v5 := by rw [hv5]; exact (Below.refl _ _).alloc (Nat.le_refl _) _
          rw [← hv5]
          clear hv5
          replace b_x := b_x.below hb
          replace b_r := b_r.below hb
          replace b_s := b_s.below hb
          replace b_f := b_f.below hb
          replace ow1 := ow1.below hb
          replace ow2 := ow2.below hb
          replace b_q := b_q.below hb
          replace b_q1 := b_q1.below hb
          replace hbel := hbel.trans (hb.mono hbel.size)
          clear hb
          have c0 := b_q.at_ 0 rfl
          have c1 := b_q.at_ 1 rfl
          have d0 := b_q1.at_ 0 rfl
          have d1 := b_q1.at_ 1 rfl
          have hr1 := ow1.rd
          have hr2 := ow2.rd
          go_wp2_with fail
          refine (HAWF.out (some ⟨x, 0, none⟩) m (some ⟨y, 0, none⟩) m (some ⟨p + 1 + 1 + 1, 0, none⟩) 1 v5 hr1 hr2 (rdF_one b_f)).mono ?_
          rintro e v6 ⟨A6, C6, rfl, _, hb⟩
          clear c0 c1 d0 d1 hr1 hr2
          replace b_x := b_x.below hb
          replace b_r := b_r.below hb
          replace b_s := b_s.below hb
          replace b_f := b_f.below hb
          replace ow1 := ow1.below hb
          replace ow2 := ow2.below hb
          replace b_q := b_q.below hb
          replace b_q1 := b_q1.below hb
          replace hbel := hbel.trans (hb.mono hbel.size)
          clear hb
          go_upto_region 8 with fail
          obtain ⟨v7, hv7⟩ : ∃ V, V = v6.alloc (.cells #[.int .i64 (awfR b (wiA b m k l) b (wiB m k l) [(k, (l : Int))]).1, .slice A6 (awfR b (wiA b m k l) b (wiB m k l) [(k, (l : Int))]).2.1.length C6] 31) := ⟨_, rfl⟩
          have hb : Below v6.heap.size v6 v7 := by rw [hv7]; exact (Below.refl _ _).alloc (Nat.le_refl _) _
          rw [← hv7]
          clear hv7
          replace b_x := b_x.below hb
          replace b_r := b_r.below hb
          replace b_s := b_s.below hb
          replace b_f := b_f.below hb
          replace ow1 := ow1.below hb
          replace ow2 := ow2.below hb
          replace b_q := b_q.below hb
          replace b_q1 := b_q1.below hb
          replace hbel := hbel.trans (hb.mono hbel.size)
          clear hb
          have r0 := b_r.at_ 0 rfl
          have r1 := b_r.at_ 1 rfl
          have f0 := b_r.thaw 0
          have f1 := b_r.thaw 1
          have t0 := b_s.at_ 0 rfl
          have t1 := b_s.at_ 1 rfl
          have g0 := b_s.thaw 0
          have g1 := b_s.thaw 1
          have hs := b_r.lt
          have hs2 := b_s.lt
          have hbs := hbel.size
          go_wp2
          exact bodyPost_ret (v := .tuple #[.agg #[.int .i64 0, .slice none 0 0], .agg #[.int .i64 0, .slice none 0 0], .int .i64 5]) (by simp [results, go_sem, r0, r1, t0, t1]) rfl
            (twoAny_err HR.out rfl (by repeat (first | with_reducible exact hbel | with_reducible refine Below.setCell ?_ (by first | omega | (simp <;> omega)) _ | with_reducible refine Below.alloc ?_ (by first | omega | (simp <;> omega)) _ | with_reducible refine Below.drew ?_)))
        · have ha0 : ((addR b (wiA b m k l) b (wiB m k l)).2.2.2 != 0) = true := by simp [a0]
          clear hb hf hcod ho a0 hk0
          go_enter Try.func20, Try.ntmps20
          go_upto_region 2 with fail
          obtain ⟨p, hp⟩ : ∃ g, g = w.heap.size := ⟨_, rfl⟩
          have hwp : w.heap.size ≤ p := Nat.le_of_eq hp.symm
          obtain ⟨u, hu⟩ : ∃ u, u = (((w.alloc (.cells #[.int .i64 k, .int .i64 (l : Int)] 42)).alloc (.cells #[.int .i64 0, .slice none 0 0] 31)).alloc (.cells #[.int .i64 0, .slice none 0 0] 31)).alloc (.cells #[.int .i64 k, .int .i64 (l : Int)] 42) := ⟨_, rfl⟩
          have b_x : Bx u p 42 #[.int .i64 k, .int .i64 (l : Int)] := by rw [hu, hp]; exact (((Bx.new _ _ _).alloc _).alloc _).alloc _
          have b_r : Bx u (p + 1) 31 #[.int .i64 0, .slice none 0 0] := by rw [hu, hp]; simpa using ((Bx.new (w.alloc (.cells #[.int .i64 k, .int .i64 (l : Int)] 42)) #[.int .i64 0, .slice none 0 0] 31).alloc _).alloc _
          have b_s : Bx u (p + 1 + 1) 31 #[.int .i64 0, .slice none 0 0] := by rw [hu, hp]; simpa using (Bx.new ((w.alloc (.cells #[.int .i64 k, .int .i64 (l : Int)] 42)).alloc (.cells #[.int .i64 0, .slice none 0 0] 31)) #[.int .i64 0, .slice none 0 0] 31).alloc _
          have b_f : Bx u (p + 1 + 1 + 1) 42 #[.int .i64 k, .int .i64 (l : Int)] := by rw [hu, hp]; simpa using Bx.new (((w.alloc (.cells #[.int .i64 k, .int .i64 (l : Int)] 42)).alloc (.cells #[.int .i64 0, .slice none 0 0] 31)).alloc (.cells #[.int .i64 0, .slice none 0 0] 31)) #[.int .i64 k, .int .i64 (l : Int)] 42
          have hb : Below w.heap.size w u := by rw [hu]; exact (by repeat (first | with_reducible exact Below.refl _ _ | with_reducible refine Below.setCell ?_ (by first | omega | (simp <;> omega)) _ | with_reducible refine Below.alloc ?_ (by first | omega | (simp <;> omega)) _ | with_reducible refine Below.drew ?_))
          rw [← hu, ← hp]
          clear hu hp
          replace hbel := hbel.trans (hb.mono hbel.size)
          clear hb
          go_wp2_with fail
          refine (HB.out u).mono ?_
          rintro e v ⟨rfl, hw⟩
          subst v
          go_wp2_with fail
          refine (implValidFaults_at (m : Int) (some ⟨p + 1 + 1 + 1, 0, none⟩) 1 [(k, (l : Int))] u HF.out bn (rdF_one b_f) all2f).mono ?_
          rintro e v ⟨rfl, hb⟩
          replace b_x := b_x.below hb
          replace b_r := b_r.below hb
          replace b_s := b_s.below hb
          replace b_f := b_f.below hb
          replace hbel := hbel.trans (hb.mono hbel.size)
          clear hb
          go_upto_region 4 with fail
          have c0 := b_x.at_ 0 rfl
          have c1 := b_x.at_ 1 rfl
          go_wp2_with fail
          refine (witness_any b m l k v h1 h2 hm hl).mono ?_
          rintro e v2 ⟨x, y, rfl, ow1, ow2, hvx, hvy, hxy, hb⟩
          have hpv : p + 1 + 1 + 1 < v.heap.size := b_f.lt
          have hwv : w.heap.size ≤ v.heap.size := hbel.size
          clear c0 c1
          replace b_x := b_x.below hb
          replace b_r := b_r.below hb
          replace b_s := b_s.below hb
          replace b_f := b_f.below hb
          replace hbel := hbel.trans (hb.mono hbel.size)
          clear hb
          have hx2 := ow1.block
          have hy2 := ow2.block
          go_upto_region 6 with fail
          obtain ⟨q, hq⟩ : ∃ g, g = v2.heap.size := ⟨_, rfl⟩
          have hk_q : v2.heap.size ≤ q := Nat.le_of_eq hq.symm
          obtain ⟨v3, hv3⟩ : ∃ V, V = (v2.alloc (.cells #[.int .i64 b, .slice (some ⟨x, 0, none⟩) m m] 31)).alloc (.cells #[.int .i64 b, .slice (some ⟨y, 0, none⟩) m m] 31) := ⟨_, rfl⟩
          have b_q : Bx v3 q 31 #[.int .i64 b, .slice (some ⟨x, 0, none⟩) m m] := by rw [hv3, hq]; exact (Bx.new _ _ _).alloc _
          have b_q1 : Bx v3 (q + 1) 31 #[.int .i64 b, .slice (some ⟨y, 0, none⟩) m m] := by rw [hv3, hq]; simpa using Bx.new (v2.alloc (.cells #[.int .i64 b, .slice (some ⟨x, 0, none⟩) m m] 31)) #[.int .i64 b, .slice (some ⟨y, 0, none⟩) m m] 31
          have hb : Below v2.heap.size v2 v3 := by rw [hv3]; exact ((Below.refl _ _).alloc (Nat.le_refl _) _).alloc (by simp) _
          rw [← hq, ← hv3]
          clear hv3 hq
          replace b_x := b_x.below hb
          replace b_r := b_r.below hb
          replace b_s := b_s.below hb
          replace b_f := b_f.below hb
          replace ow1 := ow1.below hb
          replace ow2 := ow2.below hb
          replace hbel := hbel.trans (hb.mono hbel.size)
          clear hb
          have c0 := b_q.at_ 0 rfl
          have c1 := b_q.at_ 1 rfl
          have d0 := b_q1.at_ 0 rfl
          have d1 := b_q1.at_ 1 rfl
          have hr1 := ow1.rd
          have hr2 := ow2.rd
          go_wp2_with fail
          refine (HADD.out (some ⟨x, 0, none⟩) m (some ⟨y, 0, none⟩) m v3 hr1 hr2).mono ?_
          rintro e v4 ⟨A4, C4, rfl, _, hb⟩
          clear c0 c1 d0 d1 hr1 hr2
          replace b_x := b_x.below hb
          replace b_r := b_r.below hb
          replace b_s := b_s.below hb
          replace b_f := b_f.below hb
          replace ow1 := ow1.below hb
          replace ow2 := ow2.below hb
          replace b_q := b_q.below hb
          replace b_q1 := b_q1.below hb
          replace hbel := hbel.trans (hb.mono hbel.size)
          clear hb
          go_upto_region 7 with fail
          obtain ⟨v5, hv5⟩ : ∃ V, V = v4.alloc (.cells #[.int .i64 (addR b (wiA b m k l) b (wiB m k l)).1, .slice A4 (addR b (wiA b m k l) b (wiB m k l)).2.1.length C4] 31) := ⟨_, rfl⟩
          have hb : Below v4.heap.size v4 v5 := by rw [hv5]; exact (Below.refl _ _).alloc (Nat.le_refl _) _
          rw [← hv5]
          clear hv5
          replace b_x := b_x.below hb
          replace b_r := b_r.below hb
          replace b_s := b_s.below hb
          replace b_f := b_f.below hb
          replace ow1 := ow1.below hb
          replace ow2 := ow2.below hb
          replace b_q := b_q.below hb
          replace b_q1 := b_q1.below hb
          replace hbel := hbel.trans (hb.mono hbel.size)
          clear hb
          have c0 := b_q.at_ 0 rfl
          have c1 := b_q.at_ 1 rfl
          have d0 := b_q1.at_ 0 rfl
          have d1 := b_q1.at_ 1 rfl
          have hr1 := ow1.rd
          have hr2 := ow2.rd
          go_wp2_with fail
          refine (HAWF.out (some ⟨x, 0, none⟩) m (some ⟨y, 0, none⟩) m (some ⟨p + 1 + 1 + 1, 0, none⟩) 1 v5 hr1 hr2 (rdF_one b_f)).mono ?_
          rintro e v6 ⟨A6, C6, rfl, _, hb⟩
          clear c0 c1 d0 d1 hr1 hr2
          replace b_x := b_x.below hb
          replace b_r := b_r.below hb
          replace b_s := b_s.below hb
          replace b_f := b_f.below hb
          replace ow1 := ow1.below hb
          replace ow2 := ow2.below hb
          replace b_q := b_q.below hb
          replace b_q1 := b_q1.below hb
          replace hbel := hbel.trans (hb.mono hbel.size)
          clear hb
          go_upto_region 8 with fail
          obtain ⟨v7, hv7⟩ : ∃ V, V = v6.alloc (.cells #[.int .i64 (awfR b (wiA b m k l) b (wiB m k l) [(k, (l : Int))]).1, .slice A6 (awfR b (wiA b m k l) b (wiB m k l) [(k, (l : Int))]).2.1.length C6] 31) := ⟨_, rfl⟩
          have hb : Below v6.heap.size v6 v7 := by rw [hv7]; exact (Below.refl _ _).alloc (Nat.le_refl _) _
          rw [← hv7]
          clear hv7
          replace b_x := b_x.below hb
          replace b_r := b_r.below hb
          replace b_s := b_s.below hb
          replace b_f := b_f.below hb
          replace ow1 := ow1.below hb
          replace ow2 := ow2.below hb
          replace b_q := b_q.below hb
          replace b_q1 := b_q1.below hb
          replace hbel := hbel.trans (hb.mono hbel.size)
          clear hb
          have r0 := b_r.at_ 0 rfl
          have r1 := b_r.at_ 1 rfl
          have f0 := b_r.thaw 0
          have f1 := b_r.thaw 1
          have t0 := b_s.at_ 0 rfl
          have t1 := b_s.at_ 1 rfl
          have g0 := b_s.thaw 0
          have g1 := b_s.thaw 1
          have hs := b_r.lt
          have hs2 := b_s.lt
          have hbs := hbel.size
          go_wp2
          exact bodyPost_ret (v := .tuple #[.agg #[.int .i64 0, .slice none 0 0], .agg #[.int .i64 0, .slice none 0 0], .int .i64 5]) (by simp [results, go_sem, r0, r1, t0, t1]) rfl
            (twoAny_err HR.out rfl (by repeat (first | with_reducible exact hbel | with_reducible refine Below.setCell ?_ (by first | omega | (simp <;> omega)) _ | with_reducible refine Below.alloc ?_ (by first | omega | (simp <;> omega)) _ | with_reducible refine Below.drew ?_)))

end Go.Proofs.Ytiogbpnnnpodkaa
