/-
  laws.FnExactMoveChain returns true at every input (no condition), and leaves its arguments as they were.
-/
import Derived.Test.YtaefgkhbgljkoaaChain
import Derived.Test.YtaefgkhbgljkoaaFrameG
import Derived.Test.YtaefgkhbgljkoaaMoveChI
import Derived.Test.YtaefgkhbgljkoaaMoveChS
import Derived.Deep.RegionHeld3
import Derived.Test.YtaefgkhbgljkoaaFacts
import Derived.Test.YtaefgkhbgljkoaaRows
namespace Go.Proofs.Ytaefgkhbgljkoaa.lawMoveChain
open Go.ChangeShapes Go.WideShapes Go.ChangeAt Go.WideElems Go.RowKit Go.Joins
open Go.ChangeMaps (open_string shut_string)

set_option maxRecDepth 100000 in
set_option maxHeartbeats 4000000 in
theorem law_walk (xCA : Option Addr) (xCC : Nat) (xCP : List Int) (xCD : Option Addr) (xCE : Nat) (xCQ : List Int) (xTo : Int) (w : World) (hxC : Raw2 w xCA xCP xCD xCQ) (bxTo : I64 xTo) :
    Calls Try.prog 14 #[.agg #[.slice xCA xCP.length xCC, .slice xCD xCQ.length xCE], .int .i64 xTo] w fun e w' => e = .returned (.bool true) ∧ Below w.heap.size w w' := by
  have hbel : Below w.heap.size w (w.alloc (.cells #[.slice xCA xCP.length xCC, .slice xCD xCQ.length xCE] 60)) := (Below.refl _ _).alloc (by simp) _
  have cxC0 : (w.alloc (.cells #[.slice xCA xCP.length xCC, .slice xCD xCQ.length xCE] 60)).cell? ⟨w.heap.size, 0, none⟩ = some (.slice xCA xCP.length xCC) := by go_simp
  have cxC1 : (w.alloc (.cells #[.slice xCA xCP.length xCC, .slice xCD xCQ.length xCE] 60)).cell? ⟨w.heap.size, 1, none⟩ = some (.slice xCD xCQ.length xCE) := by go_simp
  go_enter Try.func14, Try.ntmps14
  go_wp2_with fail
  obtain ⟨v1, hu⟩ : ∃ u, u = (w.alloc (.cells #[.slice xCA xCP.length xCC, .slice xCD xCQ.length xCE] 60)) := ⟨_, rfl⟩
  have s1 : Hid (w.heap.size + 1 ≤ v1.heap.size) := Lib.hid (by rw [hu]; simp)
  rw [← hu] at cxC0 cxC1 hbel ⊢
  clear hu
  rcases Int.lt_or_le (leftOf (xCP.length + xCQ.length) 1048576) 0 with k1 | k1
  · refine (szChain_any xCA xCP.length xCC xCD xCQ.length xCE 1048576 v1 hxC.len (by omega) (by omega)).mono ?_
    rintro e v2 ⟨rfl, hb⟩
    go_wp2
    go_ret
    exact ⟨rfl, hbel.trans (hb.mono hbel.size)⟩
  have m1 := leftOf_le (xCP.length + xCQ.length) 1048576 (by omega)
  refine (szChain_any xCA xCP.length xCC xCD xCQ.length xCE 1048576 v1 hxC.len (by omega) (by omega)).mono ?_
  rintro e v2 ⟨rfl, hb⟩
  have s2 : Hid (v1.heap.size ≤ v2.heap.size) := Lib.hid hb.size
  replace cxC0 := kept hb cxC0
  replace cxC1 := kept hb cxC1
  replace hbel := hbel.trans (hb.mono hbel.size)
  clear hb
  have zxC := hxC.wf
  replace hxC := hxC.rd (by have := leftOf_len k1; omega)
  go_wp2_with fail
  refine (toChain_any xCA xCC xCP xCD xCE xCQ v2 (hxC.below hbel)).mono ?_
  rintro e v3 ⟨t3A, t3C, t3D, t3E, rfl, ot3, hb⟩
  have s4 : Hid (v2.heap.size ≤ v3.heap.size) := Lib.hid hb.size
  replace cxC0 := kept hb cxC0
  replace cxC1 := kept hb cxC1
  replace hbel := hbel.trans (hb.mono hbel.size)
  clear hb
  go_wp2_with fail
  refine (specMoveChain t3A t3C xCP t3D t3E xCQ xTo v3 ot3.rd zxC bxTo).mono ?_
  rintro e v4 ⟨w0A, w0C, w0D, w0E, rfl, ow0, hb⟩
  have s5 : Hid (v3.heap.size ≤ v4.heap.size) := Lib.hid hb.size
  replace cxC0 := kept hb cxC0
  replace cxC1 := kept hb cxC1
  replace ot3 := ot3.below hb
  replace hbel := hbel.trans (hb.mono hbel.size)
  clear hb
  clear ot3
  have ha6 : Below v4.heap.size v4 (v4.alloc (.cells #[.slice w0A (mvR xCP xCQ xTo).1.length w0C, .slice w0D (mvR xCP xCQ xTo).2.1.length w0E] 41)) := (Below.refl _ _).alloc (by simp) _
  replace cxC0 := kept ha6 cxC0
  replace cxC1 := kept ha6 cxC1
  replace ow0 := ow0.below ha6
  replace hbel := hbel.trans (ha6.mono hbel.size)
  clear ha6
  have cw00 : (v4.alloc (.cells #[.slice w0A (mvR xCP xCQ xTo).1.length w0C, .slice w0D (mvR xCP xCQ xTo).2.1.length w0E] 41)).cell? ⟨v4.heap.size, 0, none⟩ = some (.slice w0A (mvR xCP xCQ xTo).1.length w0C) := by go_simp
  have cw01 : (v4.alloc (.cells #[.slice w0A (mvR xCP xCQ xTo).1.length w0C, .slice w0D (mvR xCP xCQ xTo).2.1.length w0E] 41)).cell? ⟨v4.heap.size, 1, none⟩ = some (.slice w0D (mvR xCP xCQ xTo).2.1.length w0E) := by go_simp
  go_wp2_with fail
  obtain ⟨v5, hu⟩ : ∃ u, u = (v4.alloc (.cells #[.slice w0A (mvR xCP xCQ xTo).1.length w0C, .slice w0D (mvR xCP xCQ xTo).2.1.length w0E] 41)) := ⟨_, rfl⟩
  have s8 : Hid (v4.heap.size + 1 ≤ v5.heap.size) := Lib.hid (by rw [hu]; simp)
  rw [← hu] at cxC0 cxC1 cw00 cw01 ow0 hbel ⊢
  clear hu
  refine (toChain_any xCA xCC xCP xCD xCE xCQ v5 (hxC.below hbel)).mono ?_
  rintro e v6 ⟨t7A, t7C, t7D, t7E, rfl, ot7, hb⟩
  have s9 : Hid (v5.heap.size ≤ v6.heap.size) := Lib.hid hb.size
  replace cxC0 := kept hb cxC0
  replace cxC1 := kept hb cxC1
  replace cw00 := kept hb cw00
  replace cw01 := kept hb cw01
  replace ow0 := ow0.below hb
  replace hbel := hbel.trans (hb.mono hbel.size)
  clear hb
  have ha10 : Below v6.heap.size v6 (v6.alloc (.cells #[.slice t7A xCP.length t7C, .slice t7D xCQ.length t7E] 41)) := (Below.refl _ _).alloc (by simp) _
  replace cxC0 := kept ha10 cxC0
  replace cxC1 := kept ha10 cxC1
  replace cw00 := kept ha10 cw00
  replace cw01 := kept ha10 cw01
  replace ow0 := ow0.below ha10
  replace ot7 := ot7.below ha10
  replace hbel := hbel.trans (ha10.mono hbel.size)
  clear ha10
  have cx00 : (v6.alloc (.cells #[.slice t7A xCP.length t7C, .slice t7D xCQ.length t7E] 41)).cell? ⟨v6.heap.size, 0, none⟩ = some (.slice t7A xCP.length t7C) := by go_simp
  have cx01 : (v6.alloc (.cells #[.slice t7A xCP.length t7C, .slice t7D xCQ.length t7E] 41)).cell? ⟨v6.heap.size, 1, none⟩ = some (.slice t7D xCQ.length t7E) := by go_simp
  go_wp2_with fail
  obtain ⟨v7, hu⟩ : ∃ u, u = (v6.alloc (.cells #[.slice t7A xCP.length t7C, .slice t7D xCQ.length t7E] 41)) := ⟨_, rfl⟩
  have s11 : Hid (v6.heap.size + 1 ≤ v7.heap.size) := Lib.hid (by rw [hu]; simp)
  rw [← hu] at cxC0 cxC1 cw00 cw01 cx00 cx01 ow0 ot7 hbel ⊢
  clear hu
  refine (implMoveChain t7A t7C xCP t7D t7E xCQ xTo v7 ot7.rd zxC bxTo).mono ?_
  rintro e v8 ⟨g0A, g0C, g0D, g0E, rfl, og0, hb⟩
  have s12 : Hid (v7.heap.size ≤ v8.heap.size) := Lib.hid hb.size
  replace cxC0 := kept hb cxC0
  replace cxC1 := kept hb cxC1
  replace cw00 := kept hb cw00
  replace cw01 := kept hb cw01
  replace cx00 := kept hb cx00
  replace cx01 := kept hb cx01
  replace ow0 := ow0.below hb
  replace ot7 := ot7.below hb
  replace hbel := hbel.trans (hb.mono hbel.size)
  clear hb
  have ha13 : Below v8.heap.size v8 (v8.alloc (.cells #[.slice g0A (mvR xCP xCQ xTo).1.length g0C, .slice g0D (mvR xCP xCQ xTo).2.1.length g0E] 41)) := (Below.refl _ _).alloc (by simp) _
  replace cxC0 := kept ha13 cxC0
  replace cxC1 := kept ha13 cxC1
  replace cw00 := kept ha13 cw00
  replace cw01 := kept ha13 cw01
  replace cx00 := kept ha13 cx00
  replace cx01 := kept ha13 cx01
  replace ow0 := ow0.below ha13
  replace ot7 := ot7.below ha13
  replace og0 := og0.below ha13
  replace hbel := hbel.trans (ha13.mono hbel.size)
  clear ha13
  have cg00 : (v8.alloc (.cells #[.slice g0A (mvR xCP xCQ xTo).1.length g0C, .slice g0D (mvR xCP xCQ xTo).2.1.length g0E] 41)).cell? ⟨v8.heap.size, 0, none⟩ = some (.slice g0A (mvR xCP xCQ xTo).1.length g0C) := by go_simp
  have cg01 : (v8.alloc (.cells #[.slice g0A (mvR xCP xCQ xTo).1.length g0C, .slice g0D (mvR xCP xCQ xTo).2.1.length g0E] 41)).cell? ⟨v8.heap.size, 1, none⟩ = some (.slice g0D (mvR xCP xCQ xTo).2.1.length g0E) := by go_simp
  have q14 : chEqB (mvR xCP xCQ xTo).1 (mvR xCP xCQ xTo).1 (mvR xCP xCQ xTo).2.1 (mvR xCP xCQ xTo).2.1 = true := chEqB_self _ _
  go_wp2_with fail
  obtain ⟨v9, hu⟩ : ∃ u, u = (v8.alloc (.cells #[.slice g0A (mvR xCP xCQ xTo).1.length g0C, .slice g0D (mvR xCP xCQ xTo).2.1.length g0E] 41)) := ⟨_, rfl⟩
  have s15 : Hid (v8.heap.size + 1 ≤ v9.heap.size) := Lib.hid (by rw [hu]; simp)
  rw [← hu] at cxC0 cxC1 cw00 cw01 cx00 cx01 cg00 cg01 ow0 ot7 og0 hbel ⊢
  clear hu
  refine (eqChain_any g0A g0C g0D g0E w0A w0C w0D w0E (mvR xCP xCQ xTo).1 (mvR xCP xCQ xTo).1 (mvR xCP xCQ xTo).2.1 (mvR xCP xCQ xTo).2.1 v9 og0.rd ow0.rd).mono ?_
  rintro e v10 ⟨rfl, hb⟩
  have s16 : Hid (v9.heap.size ≤ v10.heap.size) := Lib.hid hb.size
  replace cxC0 := kept hb cxC0
  replace cxC1 := kept hb cxC1
  replace cw00 := kept hb cw00
  replace cw01 := kept hb cw01
  replace cx00 := kept hb cx00
  replace cx01 := kept hb cx01
  replace cg00 := kept hb cg00
  replace cg01 := kept hb cg01
  replace ow0 := ow0.below hb
  replace ot7 := ot7.below hb
  replace og0 := og0.below hb
  replace hbel := hbel.trans (hb.mono hbel.size)
  clear hb
  have q17 : chEqB xCP xCP xCQ xCQ = true := chEqB_self _ _
  go_wp2_with fail
  have rcxC0 := kept_all cxC0
  have rcxC1 := kept_all cxC1
  have rcw00 := kept_all cw00
  have rcw01 := kept_all cw01
  have rcx00 := kept_all cx00
  have rcx01 := kept_all cx01
  have rcg00 := kept_all cg00
  have rcg01 := kept_all cg01
  go_region_held3 (fun w' => Below v10.heap.size v10 w') (first | exact hk | exact (Below.refl _ _).drew | exact hk.alloc hk.size _ | exact (hk.alloc hk.size _).setCell hk.size _)
    (first | (go_at_call 48; have qB := ‹Below v10.heap.size v10 _›; ((with_reducible refine (toChain_any xCA xCC xCP xCD xCE xCQ _ (hxC.below (hbel.trans (qB.mono hbel.size)))).mono ?_)); rintro e v12 ⟨t18A, t18C, t18D, t18E, rfl, ot18, hb⟩; have hk := qB.trans (hb.mono qB.size)) | (go_at_call 50; have qB := ‹Below v10.heap.size v10 _›; refine (eqChain_any t7A t7C t7D t7E t18A t18C t18D t18E xCP xCP xCQ xCQ _ (ot7.below qB).rd (by first | exact ot18.rd | exact (ot18.alloc _).rd)).mono ?_; rintro e v11 ⟨rfl, hb⟩; have hk := qB.trans (hb.mono qB.size)))
  have hb : Below v10.heap.size v10 v11 := by assumption
  clear rcxC0 rcxC1 rcw00 rcw01 rcx00 rcx01 rcg00 rcg01
  clear ot18
  have s19 : Hid (v10.heap.size ≤ v11.heap.size) := Lib.hid hb.size
  replace cxC0 := kept hb cxC0
  replace cxC1 := kept hb cxC1
  replace cw00 := kept hb cw00
  replace cw01 := kept hb cw01
  replace cx00 := kept hb cx00
  replace cx01 := kept hb cx01
  replace cg00 := kept hb cg00
  replace cg01 := kept hb cg01
  replace ow0 := ow0.below hb
  replace ot7 := ot7.below hb
  replace og0 := og0.below hb
  replace hbel := hbel.trans (hb.mono hbel.size)
  clear hb
  go_wp2_with fail
  refine (markChain_any _ _ _ t7A t7C t7D t7E 1 xCP xCQ v11 ot7 (by have := ow0.len; have := ot7.len; have := og0.len; have := hxC.len; omega) (by have := ow0.len; have := ot7.len; have := og0.len; have := hxC.len; omega)).mono ?_
  rintro e v13 ⟨rfl, om, ht⟩
  have s20 : Hid (v11.heap.size ≤ v13.heap.size) := Lib.hid ht.size
  clear ot7
  have ot7 := om
  clear om
  replace cxC0 := keptT ht cxC0 (by have := s1.out; have := s2.out; have := s4.out; have := s5.out; have := s8.out; have := s9.out; have := s11.out; have := s12.out; have := s15.out; have := s16.out; have := s19.out; have := s20.out; omega)
  replace cxC1 := keptT ht cxC1 (by have := s1.out; have := s2.out; have := s4.out; have := s5.out; have := s8.out; have := s9.out; have := s11.out; have := s12.out; have := s15.out; have := s16.out; have := s19.out; have := s20.out; omega)
  replace cw00 := keptT ht cw00 (by have := s1.out; have := s2.out; have := s4.out; have := s5.out; have := s8.out; have := s9.out; have := s11.out; have := s12.out; have := s15.out; have := s16.out; have := s19.out; have := s20.out; omega)
  replace cw01 := keptT ht cw01 (by have := s1.out; have := s2.out; have := s4.out; have := s5.out; have := s8.out; have := s9.out; have := s11.out; have := s12.out; have := s15.out; have := s16.out; have := s19.out; have := s20.out; omega)
  replace cx00 := keptT ht cx00 (by have := s1.out; have := s2.out; have := s4.out; have := s5.out; have := s8.out; have := s9.out; have := s11.out; have := s12.out; have := s15.out; have := s16.out; have := s19.out; have := s20.out; omega)
  replace cx01 := keptT ht cx01 (by have := s1.out; have := s2.out; have := s4.out; have := s5.out; have := s8.out; have := s9.out; have := s11.out; have := s12.out; have := s15.out; have := s16.out; have := s19.out; have := s20.out; omega)
  replace cg00 := keptT ht cg00 (by have := s1.out; have := s2.out; have := s4.out; have := s5.out; have := s8.out; have := s9.out; have := s11.out; have := s12.out; have := s15.out; have := s16.out; have := s19.out; have := s20.out; omega)
  replace cg01 := keptT ht cg01 (by have := s1.out; have := s2.out; have := s4.out; have := s5.out; have := s8.out; have := s9.out; have := s11.out; have := s12.out; have := s15.out; have := s16.out; have := s19.out; have := s20.out; omega)
  replace ow0 := ow0.touch ht (by have := s1.out; have := s2.out; have := s4.out; have := s5.out; have := s8.out; have := s9.out; have := s11.out; have := s12.out; have := s15.out; have := s16.out; have := s19.out; have := s20.out; omega)
  replace og0 := og0.touch ht (by have := s1.out; have := s2.out; have := s4.out; have := s5.out; have := s8.out; have := s9.out; have := s11.out; have := s12.out; have := s15.out; have := s16.out; have := s19.out; have := s20.out; omega)
  replace hbel := hbel.trans (ht.below (by have := s1.out; have := s2.out; have := s4.out; have := s5.out; have := s8.out; have := s9.out; have := s11.out; have := s12.out; have := s15.out; have := s16.out; have := s19.out; have := s20.out; omega) hbel.size)
  clear ht
  have q21 : chEqB (mvR xCP xCQ xTo).1 (mvR xCP xCQ xTo).1 (mvR xCP xCQ xTo).2.1 (mvR xCP xCQ xTo).2.1 = true := chEqB_self _ _
  go_wp2_with fail
  refine (eqChain_any g0A g0C g0D g0E w0A w0C w0D w0E (mvR xCP xCQ xTo).1 (mvR xCP xCQ xTo).1 (mvR xCP xCQ xTo).2.1 (mvR xCP xCQ xTo).2.1 v13 og0.rd ow0.rd).mono ?_
  rintro e v14 ⟨rfl, hb⟩
  have s22 : Hid (v13.heap.size ≤ v14.heap.size) := Lib.hid hb.size
  replace cxC0 := kept hb cxC0
  replace cxC1 := kept hb cxC1
  replace cw00 := kept hb cw00
  replace cw01 := kept hb cw01
  replace cx00 := kept hb cx00
  replace cx01 := kept hb cx01
  replace cg00 := kept hb cg00
  replace cg01 := kept hb cg01
  replace ow0 := ow0.below hb
  replace ot7 := ot7.below hb
  replace og0 := og0.below hb
  replace hbel := hbel.trans (hb.mono hbel.size)
  clear hb
  go_wp2_with fail
  refine (markChain_any _ _ _ g0A g0C g0D g0E 1 (mvR xCP xCQ xTo).1 (mvR xCP xCQ xTo).2.1 v14 og0 (by have := ow0.len; have := ot7.len; have := og0.len; have := hxC.len; omega) (by have := ow0.len; have := ot7.len; have := og0.len; have := hxC.len; omega)).mono ?_
  rintro e v15 ⟨rfl, om, ht⟩
  have s23 : Hid (v14.heap.size ≤ v15.heap.size) := Lib.hid ht.size
  clear og0
  have og0 := om
  clear om
  replace cxC0 := keptT ht cxC0 (by have := s1.out; have := s2.out; have := s4.out; have := s5.out; have := s8.out; have := s9.out; have := s11.out; have := s12.out; have := s15.out; have := s16.out; have := s19.out; have := s20.out; have := s22.out; have := s23.out; omega)
  replace cxC1 := keptT ht cxC1 (by have := s1.out; have := s2.out; have := s4.out; have := s5.out; have := s8.out; have := s9.out; have := s11.out; have := s12.out; have := s15.out; have := s16.out; have := s19.out; have := s20.out; have := s22.out; have := s23.out; omega)
  replace cw00 := keptT ht cw00 (by have := s1.out; have := s2.out; have := s4.out; have := s5.out; have := s8.out; have := s9.out; have := s11.out; have := s12.out; have := s15.out; have := s16.out; have := s19.out; have := s20.out; have := s22.out; have := s23.out; omega)
  replace cw01 := keptT ht cw01 (by have := s1.out; have := s2.out; have := s4.out; have := s5.out; have := s8.out; have := s9.out; have := s11.out; have := s12.out; have := s15.out; have := s16.out; have := s19.out; have := s20.out; have := s22.out; have := s23.out; omega)
  replace cx00 := keptT ht cx00 (by have := s1.out; have := s2.out; have := s4.out; have := s5.out; have := s8.out; have := s9.out; have := s11.out; have := s12.out; have := s15.out; have := s16.out; have := s19.out; have := s20.out; have := s22.out; have := s23.out; omega)
  replace cx01 := keptT ht cx01 (by have := s1.out; have := s2.out; have := s4.out; have := s5.out; have := s8.out; have := s9.out; have := s11.out; have := s12.out; have := s15.out; have := s16.out; have := s19.out; have := s20.out; have := s22.out; have := s23.out; omega)
  replace cg00 := keptT ht cg00 (by have := s1.out; have := s2.out; have := s4.out; have := s5.out; have := s8.out; have := s9.out; have := s11.out; have := s12.out; have := s15.out; have := s16.out; have := s19.out; have := s20.out; have := s22.out; have := s23.out; omega)
  replace cg01 := keptT ht cg01 (by have := s1.out; have := s2.out; have := s4.out; have := s5.out; have := s8.out; have := s9.out; have := s11.out; have := s12.out; have := s15.out; have := s16.out; have := s19.out; have := s20.out; have := s22.out; have := s23.out; omega)
  replace ow0 := ow0.touch ht (by have := s1.out; have := s2.out; have := s4.out; have := s5.out; have := s8.out; have := s9.out; have := s11.out; have := s12.out; have := s15.out; have := s16.out; have := s19.out; have := s20.out; have := s22.out; have := s23.out; omega)
  replace ot7 := ot7.touch ht (by have := s1.out; have := s2.out; have := s4.out; have := s5.out; have := s8.out; have := s9.out; have := s11.out; have := s12.out; have := s15.out; have := s16.out; have := s19.out; have := s20.out; have := s22.out; have := s23.out; omega)
  replace hbel := hbel.trans (ht.below (by have := s1.out; have := s2.out; have := s4.out; have := s5.out; have := s8.out; have := s9.out; have := s11.out; have := s12.out; have := s15.out; have := s16.out; have := s19.out; have := s20.out; have := s22.out; have := s23.out; omega) hbel.size)
  clear ht
  go_wp2_with fail
  refine (heldChain_any g0A g0C g0D g0E 1 (mvR xCP xCQ xTo).1.length (mvR xCP xCQ xTo).2.1.length v15 og0.rd (by have := ow0.len; have := ot7.len; have := og0.len; have := hxC.len; omega) (by have := ow0.len; have := ot7.len; have := og0.len; have := hxC.len; omega)).mono ?_
  rintro e v16 ⟨rfl, hb⟩
  have s24 : Hid (v15.heap.size ≤ v16.heap.size) := Lib.hid hb.size
  replace cxC0 := kept hb cxC0
  replace cxC1 := kept hb cxC1
  replace cw00 := kept hb cw00
  replace cw01 := kept hb cw01
  replace cx00 := kept hb cx00
  replace cx01 := kept hb cx01
  replace cg00 := kept hb cg00
  replace cg01 := kept hb cg01
  replace ow0 := ow0.below hb
  replace ot7 := ot7.below hb
  replace og0 := og0.below hb
  replace hbel := hbel.trans (hb.mono hbel.size)
  clear hb
  go_wp2_with fail
  refine (toChain_any xCA xCC xCP xCD xCE xCQ v16 (hxC.below hbel)).mono ?_
  rintro e v17 ⟨t25A, t25C, t25D, t25E, rfl, ot25, hb⟩
  have s26 : Hid (v16.heap.size ≤ v17.heap.size) := Lib.hid hb.size
  replace cxC0 := kept hb cxC0
  replace cxC1 := kept hb cxC1
  replace cw00 := kept hb cw00
  replace cw01 := kept hb cw01
  replace cx00 := kept hb cx00
  replace cx01 := kept hb cx01
  replace cg00 := kept hb cg00
  replace cg01 := kept hb cg01
  replace ow0 := ow0.below hb
  replace ot7 := ot7.below hb
  replace og0 := og0.below hb
  replace hbel := hbel.trans (hb.mono hbel.size)
  clear hb
  go_wp2_with fail
  refine (implMoveChain t25A t25C xCP t25D t25E xCQ xTo v17 ot25.rd zxC bxTo).mono ?_
  rintro e v18 ⟨h0A, h0C, h0D, h0E, rfl, oh0, hb⟩
  have s27 : Hid (v17.heap.size ≤ v18.heap.size) := Lib.hid hb.size
  replace cxC0 := kept hb cxC0
  replace cxC1 := kept hb cxC1
  replace cw00 := kept hb cw00
  replace cw01 := kept hb cw01
  replace cx00 := kept hb cx00
  replace cx01 := kept hb cx01
  replace cg00 := kept hb cg00
  replace cg01 := kept hb cg01
  replace ow0 := ow0.below hb
  replace ot7 := ot7.below hb
  replace og0 := og0.below hb
  replace ot25 := ot25.below hb
  replace hbel := hbel.trans (hb.mono hbel.size)
  clear hb
  clear ot25
  have ha28 : Below v18.heap.size v18 (v18.alloc (.cells #[.slice h0A (mvR xCP xCQ xTo).1.length h0C, .slice h0D (mvR xCP xCQ xTo).2.1.length h0E] 41)) := (Below.refl _ _).alloc (by simp) _
  replace cxC0 := kept ha28 cxC0
  replace cxC1 := kept ha28 cxC1
  replace cw00 := kept ha28 cw00
  replace cw01 := kept ha28 cw01
  replace cx00 := kept ha28 cx00
  replace cx01 := kept ha28 cx01
  replace cg00 := kept ha28 cg00
  replace cg01 := kept ha28 cg01
  replace ow0 := ow0.below ha28
  replace ot7 := ot7.below ha28
  replace og0 := og0.below ha28
  replace oh0 := oh0.below ha28
  replace hbel := hbel.trans (ha28.mono hbel.size)
  clear ha28
  have ch00 : (v18.alloc (.cells #[.slice h0A (mvR xCP xCQ xTo).1.length h0C, .slice h0D (mvR xCP xCQ xTo).2.1.length h0E] 41)).cell? ⟨v18.heap.size, 0, none⟩ = some (.slice h0A (mvR xCP xCQ xTo).1.length h0C) := by go_simp
  have ch01 : (v18.alloc (.cells #[.slice h0A (mvR xCP xCQ xTo).1.length h0C, .slice h0D (mvR xCP xCQ xTo).2.1.length h0E] 41)).cell? ⟨v18.heap.size, 1, none⟩ = some (.slice h0D (mvR xCP xCQ xTo).2.1.length h0E) := by go_simp
  have q29 : chEqB (mvR xCP xCQ xTo).1 (mvR xCP xCQ xTo).1 (mvR xCP xCQ xTo).2.1 (mvR xCP xCQ xTo).2.1 = true := chEqB_self _ _
  go_wp2_with fail
  obtain ⟨v19, hu⟩ : ∃ u, u = (v18.alloc (.cells #[.slice h0A (mvR xCP xCQ xTo).1.length h0C, .slice h0D (mvR xCP xCQ xTo).2.1.length h0E] 41)) := ⟨_, rfl⟩
  have s30 : Hid (v18.heap.size + 1 ≤ v19.heap.size) := Lib.hid (by rw [hu]; simp)
  rw [← hu] at cxC0 cxC1 cw00 cw01 cx00 cx01 cg00 cg01 ch00 ch01 ow0 ot7 og0 oh0 hbel ⊢
  clear hu
  refine (eqChain_any h0A h0C h0D h0E w0A w0C w0D w0E (mvR xCP xCQ xTo).1 (mvR xCP xCQ xTo).1 (mvR xCP xCQ xTo).2.1 (mvR xCP xCQ xTo).2.1 v19 oh0.rd ow0.rd).mono ?_
  rintro e v20 ⟨rfl, hb⟩
  have s31 : Hid (v19.heap.size ≤ v20.heap.size) := Lib.hid hb.size
  replace cxC0 := kept hb cxC0
  replace cxC1 := kept hb cxC1
  replace cw00 := kept hb cw00
  replace cw01 := kept hb cw01
  replace cx00 := kept hb cx00
  replace cx01 := kept hb cx01
  replace cg00 := kept hb cg00
  replace cg01 := kept hb cg01
  replace ch00 := kept hb ch00
  replace ch01 := kept hb ch01
  replace ow0 := ow0.below hb
  replace ot7 := ot7.below hb
  replace og0 := og0.below hb
  replace oh0 := oh0.below hb
  replace hbel := hbel.trans (hb.mono hbel.size)
  clear hb
  go_wp2_with fail
  refine (heldChain_any g0A g0C g0D g0E 1 (mvR xCP xCQ xTo).1.length (mvR xCP xCQ xTo).2.1.length v20 og0.rd (by have := ow0.len; have := ot7.len; have := og0.len; have := oh0.len; have := hxC.len; omega) (by have := ow0.len; have := ot7.len; have := og0.len; have := oh0.len; have := hxC.len; omega)).mono ?_
  rintro e v21 ⟨rfl, hb⟩
  have s32 : Hid (v20.heap.size ≤ v21.heap.size) := Lib.hid hb.size
  replace cxC0 := kept hb cxC0
  replace cxC1 := kept hb cxC1
  replace cw00 := kept hb cw00
  replace cw01 := kept hb cw01
  replace cx00 := kept hb cx00
  replace cx01 := kept hb cx01
  replace cg00 := kept hb cg00
  replace cg01 := kept hb cg01
  replace ch00 := kept hb ch00
  replace ch01 := kept hb ch01
  replace ow0 := ow0.below hb
  replace ot7 := ot7.below hb
  replace og0 := og0.below hb
  replace oh0 := oh0.below hb
  replace hbel := hbel.trans (hb.mono hbel.size)
  clear hb
  go_wp2
  go_ret
  exact ⟨rfl, hbel⟩

set_option maxRecDepth 100000 in
theorem lifted (os : Os) (started : os.Started) (H : Type) (enc : TypeId × Value → H) :
    ReturnsInHanded {} Try.checked os 14 .any (Rows.fnExactMoveChainSpec.pre6 enc Try.prog Try.f14 Rows.fnExactMoveChainRow.domain false) (Rows.fnExactMoveChainSpec.post enc Try.prog Try.f14 false true false false) := by
  refine returnsInHanded_of_change (C := Try.checked) own_knob started (by kernel_rfl) Try.func14
    (ChangeSpec.witness6 (enc := enc) (C := Try.checked) false ⟨#[], #[.agg #[.slice none 0 0, .slice none 0 0], .int .i64 0], []⟩ 8 (by kernel_rfl) (by kernel_rfl) (by kernel_rfl) (by kernel_rfl)) ?_
  intro W base args ds gs before hval0 hW hcnd _
  have hval : ∀ (j : Nat) t v, Try.f14.params[j]? = some t → args[j]? = some v → Value.okWide Try.prog W .any base t v := hval0
  have hW' := hW
  obtain ⟨p, q, hA0, hV, rfl, hfz, hnd⟩ := hW
  have hA : DataW.TrodAll enc Try.prog W 0 (fun _ => true) true Try.f14.params.toList args.toList ds p := hA0
  rw [Try.params14] at hA hval
  obtain ⟨v0, vs0, d0, ds0, p0, q0, hargs, rfl, rfl, h0, r0⟩ := trodAll_cons hA
  obtain ⟨v1, vs1, d1, ds1, p1, q1, rfl, rfl, rfl, h1, r1⟩ := trodAll_cons r0
  obtain ⟨rfl, rfl, rfl⟩ := trodAll_nil r1
  obtain rfl : args = #[v0, v1] := by cases args; simp_all
  obtain ⟨rfl, rfl⟩ := trodVars_none hV
  have k0 := h0
  have lt0 : ∀ x ∈ p0, x.block < W.heap.size := by obtain ⟨m, hm⟩ := k0; exact DataW.trod_lt m _ _ _ hm
  obtain ⟨xCA, xCC, xCP, xCD, xCE, xCQ, rfl, hxC⟩ := open_Chain (hval 0 60 v0 rfl rfl) h0
  obtain ⟨xTo, rfl, rfl, rfl, bxTo⟩ := open_int Try.underlying2 (hval 1 2 v1 rfl rfl) h1
  clear hA0 hval0
  refine (law_walk xCA xCC xCP xCD xCE xCQ xTo W hxC bxTo).mono fun e W' ⟨he, bel⟩ => ?_
  subst he
  exact ⟨_, rfl, _, _, _, [], _, [], hW', trodAll_mk1 (shut_bool Try.underlying4 _), (trodAll_cons_mk (Below.trod laid_out (by kernel_rfl) (of_decide_eq_true (by kernel_rfl)) k0 bel lt0) (trodAll_cons_mk (shut_int Try.underlying2 bxTo) trodAll_mk0)), rfl, bel.frame _, fun h => by cases h⟩

set_option maxHeartbeats 20000000 in
theorem closed : joinedFacts Try.prog 14 Try.f14 Rows.fnExactMoveChainSpec Rows.fnExactMoveChainRow = true := by
  simp only [joinedFacts, Bool.and_eq_true]
  refine ⟨⟨⟨⟨⟨⟨⟨⟨⟨⟨⟨⟨⟨⟨⟨⟨⟨⟨⟨⟨⟨⟨⟨⟨⟨⟨⟨⟨⟨⟨⟨?_, laid_out⟩, fact_maps⟩, ?_⟩, ?_⟩, ?_⟩, fact_stops⟩, ?_⟩, fact_knobs⟩, ?_⟩, ?_⟩, ?_⟩, ?_⟩, ?_⟩, ?_⟩, ?_⟩, ?_⟩, ?_⟩, ?_⟩, ?_⟩, ?_⟩, ?_⟩, fact_plain⟩, ?_⟩, fact_heard⟩, fact_enter⟩, fact_lift⟩, ?_⟩, ?_⟩, ?_⟩, ?_⟩, ?_⟩
  all_goals (as_aux_lemma => kernel_rfl)

theorem over : Rows.fnExactMoveChainRow.holds Try.pinned (OpenSpec.ofChange Rows.fnExactMoveChainSpec) :=
  OpenClaim.holds_of_wide 14 Try.f14 rfl rfl rfl rfl rfl rfl rfl ⟨rfl, rfl, rfl, rfl, rfl⟩ rfl rfl rfl rfl rfl (by as_aux_lemma => kernel_rfl) Try.func14 closed
    (of_decide_eq_true (by as_aux_lemma => kernel_rfl)) (by unfold Func.isWrapper; rw [if_neg (by decide +kernel)]; exact ⟨rfl, rfl⟩)
    (fun os started H enc _ => lifted os started H enc)

/-- The statement. -/
theorem proved : Rows.FnExactMoveChainSaid := over
end Go.Proofs.Ytaefgkhbgljkoaa.lawMoveChain
