/-
  impl.digitSign, RegisterText.
-/
import Derived.Test.YtgfopieojpjddaaDoorBld
import Derived.Test.YtgfopieojpjddaaDoorBackD
import Derived.Test.YtgfopieojpjddaaDoorOkI
import Derived.Test.YtgfopieojpjddaaDoorDecI
import Derived.Sort.CutIn
namespace Go.Proofs.YtgfopieojpjddaaDoor
open Go.RowKit Go.Shelf

attribute [local go_sem] Oper.semAt_some

/-- The character of a digit. -/
def sgnD (d : Int) : UInt8 := if d < 10 then UInt8.ofNat (48 + d.toNat) else UInt8.ofNat (87 + d.toNat)
theorem sgnD_val {d : Int} (h0 : 0 ≤ d) (h1 : d ≤ 15) : ((sgnD d).toNat : Int) = if d < 10 then 48 + d else 87 + d := by
  unfold sgnD
  by_cases h : d < 10
  · rw [if_pos h, if_pos h, UInt8.toNat_ofNat']; omega
  · rw [if_neg h, if_neg h, UInt8.toNat_ofNat']; omega
theorem sgnD_le {d : Int} (h0 : 0 ≤ d) (h1 : d ≤ 15) : ((sgnD d).toNat : Int) ≤ 127 := by
  rw [sgnD_val h0 h1]
  split <;> omega
/-- The bytes of a register's text. -/
def txB (B : Int) (zs : List Int) : List UInt8 := (Lib.itoa B ++ [58]) ++ zs.reverse.map sgnD
def txR (B : Int) (zs : List Int) : ByteArray := if okB B zs = true then ⟨(txB B zs).toArray⟩ else ByteArray.empty
theorem txR_bad {B : Int} {zs : List Int} (h : okB B zs = false) : txR B zs = ByteArray.empty := by rw [txR, if_neg (by rw [h]; decide)]
theorem txR_ok {B : Int} {zs : List Int} (h : okB B zs = true) : txR B zs = ⟨(txB B zs).toArray⟩ := by rw [txR, if_pos h]
/-- The characters of what has come. -/
def chrs {p : Int → Prop} (pre : List (Ent p)) : List UInt8 := pre.map fun x => sgnD x.2.1
theorem chrs_snoc {p : Int → Prop} (pre : List (Ent p)) (x : Ent p) : chrs (pre ++ [x]) = chrs pre ++ [sgnD x.2.1] := by simp [chrs]
theorem chrs_bwd {p : Int → Prop} {zs : List Int} {h : ∀ d ∈ zs, p d} : ∀ {k : Nat}, k ≤ zs.length → chrs (bwd zs h k) = (zs.drop (zs.length - k)).reverse.map sgnD
  | 0, _ => by simp [chrs, bwd]
  | k + 1, hk => by
    rw [bwd_succ (by omega), chrs_snoc, chrs_bwd (by omega), List.drop_eq_getElem_cons (show zs.length - (k + 1) < zs.length by omega), List.reverse_cons, List.map_append]
    have e1 : zs.length - (k + 1) + 1 = zs.length - k := by omega
    have e3 : zs[zs.length - 1 - k] = zs[zs.length - (k + 1)] := by congr 1; omega
    simp only [e1, e3, List.map_cons, List.map_nil]
theorem chrs_all {p : Int → Prop} {zs : List Int} {h : ∀ d ∈ zs, p d} : chrs (bwd zs h zs.length) = zs.reverse.map sgnD := by
  rw [chrs_bwd (Nat.le_refl _), Nat.sub_self, List.drop_zero]

theorem digitSign_any (d : Int) (h0 : 0 ≤ d) (h1 : d ≤ 15) (w : World) : Calls Tryd.prog 94 #[.int .i64 d] w fun e w' => e = .returned (.int .i32 ((sgnD d).toNat : Int)) ∧ w' = w := by
  have hv := sgnD_val h0 h1
  by_cases h : d < 10
  · rw [if_pos h] at hv
    have HV := Lib.hid hv
    have w1 : IntKind.i32.wrap d = d := by simp [IntKind.wrap, IntKind.bits, IntKind.signed]; omega
    have w2 : IntKind.i32.wrap (48 + d) = 48 + d := by simp [IntKind.wrap, IntKind.bits, IntKind.signed]; omega
    clear hv
    go_enter Tryd.func94, Tryd.ntmps94
    go_wp2
    go_ret
    exact ⟨by rw [HV.out]; rfl, rfl⟩
  · rw [if_neg h] at hv
    have HV := Lib.hid hv
    have w0 : IntKind.i64.wrap (d - 10) = d - 10 := IntWalk.i64_in _ (by omega)
    have w1 : IntKind.i32.wrap (d - 10) = d - 10 := by simp [IntKind.wrap, IntKind.bits, IntKind.signed]; omega
    have w2 : IntKind.i32.wrap (97 + (d - 10)) = 97 + (d - 10) := by simp [IntKind.wrap, IntKind.bits, IntKind.signed]; omega
    clear hv
    go_enter Tryd.func94, Tryd.ntmps94
    go_wp2
    go_ret
    exact ⟨ret_int (by rw [HV.out]; omega), rfl⟩

theorem itoa_len {n : Int} (h0 : 0 ≤ n) (h1 : n ≤ 16) : (Lib.itoa n).length ≤ 20 := by
  obtain ⟨k, rfl⟩ : ∃ k : Nat, n = k := ⟨n.toNat, by omega⟩
  have : k ≤ 16 := by omega
  have hall : ∀ j : Fin 17, (Lib.itoa ((j.val : Nat) : Int)).length ≤ 20 := by decide +kernel
  exact hall ⟨k, by omega⟩

set_option maxRecDepth 100000 in
set_option maxHeartbeats 4000000 in
theorem implRegisterText (B : Int) (a : Option Addr) (c : Nat) (zs : List Int) (w : World) (ha : Rd w a zs) (z : All64 zs) (bB : I64 B) (hD : PowTab w) :
    Calls Tryd.prog 45 #[.agg #[.int .i64 B, .slice a zs.length c]] w fun e w' => e = .returned (.string (txR B zs)) ∧ Below w.heap.size w w' := by
  refine (callsIn_wide (n := 3)).1 ?_
  have hro : Fence.wide.round = none := rfl
  have hf1 : Fence.wide.fn 47 := trivial
  have hf2 : Fence.wide.fn 73 := trivial
  have hf3 : Fence.wide.fn 90 := trivial
  have hf4 : Fence.wide.fn 91 := trivial
  have hf5 : Fence.wide.fn 93 := trivial
  have hf6 : Fence.wide.fn 95 := trivial
  have hf7 : Fence.wide.fn 92 := trivial
  have hf8 : Fence.wide.fn 94 := trivial
  refine callsIn_of_wp_marks Tryd.func45 rfl trivial ?_ hro
  simp only [Tryd.ntmps45, List.size_toArray, List.length_cons, List.length_nil, Nat.reduceAdd, Nat.reduceSub, Array.replicate_succ, Array.replicate_zero, List.push_toArray, List.append_toArray, List.nil_append, List.cons_append]
  have hxl := ha.len
  obtain ⟨u, hu⟩ : ∃ u, u = w.alloc (.cells #[.int .i64 B, .slice a zs.length c] 47) := ⟨_, rfl⟩
  have hbel : Below w.heap.size w u := by rw [hu]; exact (by repeat (first | exact Below.refl _ _ | refine Below.setCell ?_ (by first | omega | (simp <;> omega)) _ | refine Below.alloc ?_ (by first | omega | (simp <;> omega)) _ | refine Below.drew ?_))
  have bx : Bx u w.heap.size 47 #[.int .i64 B, .slice a zs.length c] := by rw [hu]; exact Bx.new _ _ _
  have HU := Lib.hid hu
  clear hu
  have HV := Lib.hid (implValidRegister B a c zs u (ha.below hbel) z bB)
  cases h : okB B zs with
  | false =>
    have HR := Lib.hid (txR_bad h)
    rw [h] at HV
    clear h
    gi_wp2_with (gi_at_call 47; rw [← HU.out]; refine (callsIn_wide.2 HV.out).mono ?_; rintro e w1 ⟨rfl, hb1⟩)
    exact ⟨.string ByteArray.empty, by simp [results, Tryd.f45, go_sem]; rfl, by rw [HR.out], hbel.trans (hb1.mono hbel.size)⟩
  | true =>
    have HR := Lib.hid (txR_ok h)
    obtain ⟨o1, o2, o3, o4, o5, _⟩ := okB_spec h
    rw [h] at HV
    clear h
    gi_upto_region 4 with (gi_at_call 47; rw [← HU.out]; refine (callsIn_wide.2 HV.out).mono ?_; rintro e w1 ⟨rfl, hb1⟩)
    obtain ⟨V, hVV⟩ : ∃ V, V = w1.alloc (.cells #[.pointer none, .slice none 0 0] 116) := ⟨_, rfl⟩
    rw [← hVV]
    have hbV : Below w1.heap.size w1 V := by rw [hVV]; exact (by repeat (first | exact Below.refl _ _ | refine Below.setCell ?_ (by first | omega | (simp <;> omega)) _ | refine Below.alloc ?_ (by first | omega | (simp <;> omega)) _ | refine Below.drew ?_))
    have hsV : V.heap.size = w1.heap.size + 1 := by rw [hVV]; simp
    have bl0 : Bld (w1.heap.size + 1) V w1.heap.size [] := bld_new (by rw [hVV]; exact Bx.new _ _ _)
    have hzw : w.heap.size < w1.heap.size := by have := bx.lt; have := hb1.size; omega
    replace bx := (bx.below hb1).below hbV
    replace hbel := (hbel.trans (hb1.mono hbel.size)).trans (hbV.mono (by have := (hbel.trans (hb1.mono hbel.size)).size; omega))
    have hil := itoa_len (n := B) (by omega) (by omega)
    clear hVV hbV hb1 HV HU
    have e0 := bx.at_ 0 rfl
    gi_upto_region 5 with (first | (gi_at_call 73; refine (callsIn_wide.2 (implDecimal B V bB (powTab_below hD hbel))).mono ?_; rintro e v2 ⟨rfl, hb2⟩; have bl2 := bl0.below hb2; have hz2 := hb2.size) | (gi_at_call 90; refine (callsIn_wide.2 (writeString_any ⟨(Lib.itoa B).toArray⟩ _ bl2 (Nat.lt_succ_self _) (by omega) (by show 0 + (Lib.itoa B).toArray.size ≤ _; simp; omega))).mono ?_; rintro e v3 ⟨rfl, bl3, ht3⟩))
    have hz3 := ht3.size
    have bl3' : Bld (w1.heap.size + 1) v3 w1.heap.size (Lib.itoa B) := by simpa using bl3
    have hbx3 : Below (w1.heap.size + 1) V v2 := hb2.mono (by omega)
    have bx3 : Bx v3 w.heap.size 47 #[.int .i64 B, .slice a zs.length c] := (ht3.block _ (by omega) (by omega)).trans (bx.below hb2)
    have hbel3 : Below w.heap.size w v3 := (hbel.trans (hb2.mono (by have := hbel.size; omega))).trans (ht3.below (by omega) (by omega) (by have := hbel.size; omega))
    clear bl0 bl2 bl3 hb2 ht3 hbx3 bx hbel e0
    gi_upto_region 6 with (gi_at_call 91; refine (callsIn_wide.2 (writeByte_any 58 _ rfl _ bl3' (Nat.lt_succ_self _) (by omega) (by omega))).mono ?_; rintro e v4 ⟨rfl, bl4, ht4⟩)
    have hz4 := ht4.size
    have bx4 : Bx v4 w.heap.size 47 #[.int .i64 B, .slice a zs.length c] := (ht4.block _ (by omega) (by omega)).trans bx3
    have hbel4 : Below w.heap.size w v4 := hbel3.trans (ht4.below (by omega) (by omega) (by omega))
    have e1 := bx4.at_ 1 rfl
    clear bl3' ht4 bx3 hbel3
    gi_wp2_with (gi_at_call 92; refine (backD_in Fence.wide _ trivial rfl _ _ _ _).mono ?_; rintro e w' ⟨rfl, rfl⟩)
    obtain ⟨W0, hW0⟩ : ∃ W0, W0 = v4.alloc (.cells #[.slice a zs.length c] 45) := ⟨_, rfl⟩
    rw [← hW0]
    have bs : Bx W0 v4.heap.size 45 #[.slice a zs.length c] := by rw [hW0]; exact Bx.new _ _ _
    have hbW : Below v4.heap.size v4 W0 := by rw [hW0]; exact (by repeat (first | exact Below.refl _ _ | refine Below.setCell ?_ (by first | omega | (simp <;> omega)) _ | refine Below.alloc ?_ (by first | omega | (simp <;> omega)) _ | refine Below.drew ?_))
    have hsW : W0.heap.size = v4.heap.size + 1 := by rw [hW0]; simp
    have bl5 := bl4.below hbW
    have hbel5 : Below w.heap.size w W0 := hbel4.trans (hbW.mono (by omega))
    have ha5 := ha.below hbel5
    have hAr : ∀ d ∈ zs, isDig 16 d := fun d hd => ⟨(o5 d hd).1, by have := (o5 d hd).2; omega⟩
    clear hW0 hbW bl4 hbel4 bx4 e1
    refine wpIn_rangeFunc_ownH hro (by omega) (gf := 134) (lb := #[.pointer (some ⟨v4.heap.size, 0, none⟩)]) rfl trivial (enters_of Tryd.func134 (by kernel_rfl) rfl)
      (backD_stops Fence.wide _ trivial rfl (by omega) v4.heap.size w.heap.size a c zs hAr W0 (by omega) (bs.at_ 0 rfl) ha5 (fun hne b' off hab => by
        obtain ⟨b'', off', e, hc⟩ := ha.cells hne
        rw [hab] at e
        cases e
        exact World.block_lt_of_cell? _ _ (hc 0 (List.length_pos_iff.2 hne)))) keepB_t (keepB_b (by omega) (by omega)) (Below.refl _ _) (fun _ => rfl)
      (fun pre X => (Bld (w1.heap.size + 1) X w1.heap.size ((Lib.itoa B ++ [58]) ++ chrs pre) ∧ W0.heap.size ≤ X.heap.size ∧ Bx X v4.heap.size 45 #[.slice a zs.length c] ∧ pre.length ≤ 1000) ∧ Below w.heap.size w X)
      (fun _ _ _ => False)
      (OwnFrom.and (Own.from (fun s A0 B0 row hs hg hr => ⟨hs.1.same fun k o _ h1 h2 => grownBy_keeps_cells hg hr h1 h2, Nat.le_trans hs.2.1 hg.size, (grownBy_keeps_cells hg hr hs.2.2.1 rfl).trans hs.2.2.1, hs.2.2.2⟩) _) (ownFrom_below (Nat.le_refl _) (by omega)))
      (fun _ _ _ _ _ hs _ _ => hs)
      ⟨⟨by simpa [chrs] using bl5, Nat.le_refl _, bs, by simp⟩, hbel5⟩
      (fun x a' _ => a' = { tmps := #[.agg #[.int .i64 B, .slice a zs.length c], .pointer (some ⟨w.heap.size, 0, none⟩), .string ⟨#[]⟩, .pointer (some ⟨w1.heap.size, 0, none⟩), undef, .int .i64 x.2.1, .agg #[.int .i64 B, .slice a zs.length c], .bool true, .bool false,
        .pointer (some ⟨w.heap.size, 0, none⟩), .int .i64 B, .string ⟨(Lib.itoa B).toArray⟩, .tuple #[.int .i64 ((Lib.itoa B).length : Nat), .nilIface], .nilIface, .pointer (some ⟨w.heap.size, 1, none⟩), .slice a zs.length c,
        .func (.func 134) #[] #[.pointer (some ⟨v4.heap.size, 0, none⟩)], .int .i64 (x.1 : Int), .int .i64 x.2.1, undef, undef, undef, undef], defers := [] })
      (fun _ _ _ _ _ _ hs _ _ => hs) ?assign ?body ?done ?stop
    case assign =>
      intro l pre x X K hI hK
      gi_wp2
      exact hK _ _ ((KeepsOthers.refl _).from _) (KeepB.refl _ _ _) hI rfl
    case body =>
      rintro l pre x a' X hl ⟨r, hr⟩ ⟨⟨bl, hXs, bs', hpl⟩, hB⟩ rfl hlen
      obtain ⟨hd0, hd1⟩ := x.2.2
      have hchl : (chrs pre).length = pre.length := by simp [chrs]
      gi_wp2_with (first | (gi_at_call 94; refine (CallsIn.inRound l (callsIn_wide.2 (digitSign_any x.2.1 hd0 (by omega) _))).mono ?_; rintro e w5 ⟨rfl, hw5⟩; subst w5) | (gi_at_call 93; refine (CallsIn.inRound l (callsIn_wide.2 (writeRune_any (sgnD x.2.1) _ rfl (sgnD_le hd0 (by omega)) X bl (Nat.lt_succ_self _) (by omega) (by simp only [List.length_append, List.length_singleton, hchl]; omega)))).mono ?_; rintro e w6 ⟨rfl, bl6, ht6⟩))
      have hoth : ∀ (k : Nat) (o : Obj), k ≠ w1.heap.size → X.heap[k]? = some o → (∀ cur fz, o ≠ .cells cur 5 fz) → w6.heap[k]? = some o := ht6.others
      have hs6 : w6.heap[v4.heap.size]? = some (.cells #[.slice a zs.length c] 45 (0, 0)) := hoth _ _ (by omega) bs' (by
        intro cur fz h
        injection h with _ h2
        exact absurd h2 (by decide))
      refine ⟨⟨ht6.size, fun k o hk hko hno => hoth k o (by omega) hko (no_row hno)⟩, ⟨ht6.below (by omega) (by omega) hB.size, hs6.trans bs'.symm⟩, ⟨⟨?_, Nat.le_trans hXs ht6.size, hs6, by simp; omega⟩, hB.trans (ht6.below (by omega) (by omega) hB.size)⟩⟩
      rw [chrs_snoc, ← List.append_assoc]
      exact bl6
    case done =>
      rintro Dd ys X hDd rfl ⟨⟨bl, hXs, bs', hpl⟩, hB⟩ hK
      rw [chrs_all] at bl
      gi_wp2_with (gi_at_call 95; refine (callsIn_wide.2 (string_any X bl (Nat.lt_succ_self _) (by omega))).mono ?_; rintro e w7 ⟨rfl, hb7, hk7⟩)
      have hK7 : w7.heap[Dd]? = some (.deferred (some [])) := hk7 Dd _ (by omega) hK (by intro cur fz h; cases h)
      have hz7 := hb7.size
      refine ⟨by simp, .inl ⟨_, _, rfl, run_takeDeferred hK7, ?_⟩⟩
      have hb8 : Below w.heap.size w w7 := hB.trans (hb7.mono (by omega))
      exact ⟨.string ⟨(txB B zs).toArray⟩, by simp [results, Tryd.f45, go_sem, txB], by rw [HR.out], hb8.trans (belowK_b (w := w) (Nat.le_refl _) w7 Dd _ _ (by omega) hK7 rfl rfl)⟩
    case stop =>
      rintro Dd c pre X hDd _ hF
      exact hF.elim
end Go.Proofs.YtgfopieojpjddaaDoor
