/-
  impl.rightRows: its closure; what it gives told by the index, which is known to be one of a table.
-/
import Derived.Test.YtmdngcoccekdgaaTabM
import Derived.Test.YtmdngcoccekdgaaIterF
import Derived.Test.YtmdngcoccekdgaaScopeIn
import Derived.Sort.QuietTacIn
namespace Go.Proofs.Ytmdngcoccekdgaa
open Go.RowKit Go.Shelf

attribute [local go_sem] Oper.semAt_some

/-- The first n indices of N. -/
def rwk (N : Nat) : Nat → List (Fin N)
  | 0 => []
  | n + 1 => if h : n < N then rwk N n ++ [⟨n, h⟩] else rwk N n
theorem rwk_succ {N n : Nat} (h : n < N) : rwk N (n + 1) = rwk N n ++ [⟨n, h⟩] := by rw [rwk, dif_pos h]
theorem rwk_len {N : Nat} : ∀ {n : Nat}, n ≤ N → (rwk N n).length = n
  | 0, _ => rfl
  | n + 1, h => by rw [rwk_succ (by omega), List.length_append, rwk_len (by omega)]; rfl
theorem snoc_rwk {N : Nat} {pre : List (Fin N)} {x : Fin N} (hl : pre.length < N) (h : pre ++ [x] = rwk N (pre ++ [x]).length) : pre = rwk N pre.length ∧ x.1 = pre.length := by
  rw [List.length_append, List.length_singleton, rwk_succ hl] at h
  obtain ⟨h1, h2⟩ := List.append_inj' h rfl
  exact ⟨h1, by injection h2 with h3; rw [h3]⟩
theorem KeepF.drewF_ {n₀ Bs : Nat} {W W' : World} (h : KeepF n₀ Bs W W') (k : Nat) : KeepF n₀ Bs W (W'.drewN k) := ⟨h.1.trans (bel_drewN (Below.refl _ _) k), by rw [← h.2]; rfl⟩
theorem idx_ltF {m i a c p : Nat} (hp : p = i * m * m + a * m + c) (hi : i < 2) (ha : a < m) (hc : c < m) : p < 2 * m * m := by
  have h1 : i * m * m + a * m + c < i * m * m + (a + 1) * m := by rw [Nat.add_mul]; omega
  have h2 : i * m * m + (a + 1) * m ≤ i * m * m + m * m := Nat.add_le_add_left (Nat.mul_le_mul_right m (by omega)) _
  have h3 : i * m * m + m * m = (i + 1) * m * m := by rw [Nat.add_mul, Nat.add_mul, Nat.one_mul]
  have h4 : (i + 1) * m * m ≤ 2 * m * m := Nat.mul_le_mul_right m (Nat.mul_le_mul_right m (by omega))
  omega

set_option maxRecDepth 100000 in
set_option maxHeartbeats 4000000 in
theorem rowsF1_in (n : Nat) (hn : 1 ≤ n) (l Bs n₀ m : Nat) (hm : 2 ≤ m) (hm2 : m ≤ 16)
    (J Jx : List (Fin (2 * m * m)) → World → Prop) (B : Nat) (hJ : AbidesFrom B J)
    (hY : ∀ (pre : List (Fin (2 * m * m))) (x : Fin (2 * m * m)) (W : World), J pre W → pre.length < 2 * m * m → YieldAt Fence.wide (n - 1) Try.prog l #[.int .i64 (x.1 : Int), .agg #[.int .i64 (rowN m x.1).1, .int .i64 (rowN m x.1).2.1, .int .i64 (rowN m x.1).2.2.1, .int .i64 (rowN m x.1).2.2.2.1, .int .i64 (rowN m x.1).2.2.2.2]] W fun e W' =>
      (e = .returned (.bool true) ∧ J (pre ++ [x]) W' ∧ KeepF n₀ Bs W W') ∨ (e = .returned (.bool false) ∧ Jx (pre ++ [x]) W'))
    (W : World) (hBs : W.cell? ⟨Bs, 0, none⟩ = some (.int .i64 (m : Int))) (h0 : J [] W) :
    CallsIn Fence.wide n Try.prog 121 #[.func (.yield l) #[] #[], .pointer (some ⟨Bs, 0, none⟩)] W fun e W' => (∃ v, e = .returned v) ∧
      ((∃ ys, ys = rwk (2 * m * m) (2 * m * m) ∧ J ys W') ∨ (∃ pre, (∃ k, k ≤ 2 * m * m ∧ pre = rwk (2 * m * m) k) ∧ Jx pre W')) := by
  have hro : Fence.wide.round = none := rfl
  have hF : Fence.wide.fn 121 := trivial
  have hsq := Nat.mul_le_mul hm2 hm2
  have hsq2 : 2 * m * m = 2 * (m * m) := Nat.mul_assoc _ _ _
  refine callsIn_of_wp Try.func121 rfl hF ?_ hro
  simp only [Try.ntmps121, List.size_toArray, List.length_cons, List.length_nil, Nat.reduceAdd, Nat.reduceSub, Array.replicate_succ, Array.replicate_zero, List.push_toArray, List.append_toArray, List.nil_append, List.cons_append]
  refine wpIn_scope_straight hro ?_
  gi_wp2
  refine wpIn_label ?_
  gi_wp2
  gi_loopw [3, 4, 5, 6, 7, 8] (fun ix _ _ _ _ ci wr => ∃ p i : Nat, i ≤ 2 ∧ Hid (p = i * m * m) ∧ ix = .int .i64 (p : Int) ∧ ci = .int .i64 (i : Int) ∧ J (rwk (2 * m * m) p) wr ∧ KeepF n₀ Bs W wr) (fun _ _ _ _ _ ci _ => (2 - (intOf ci).toNat))
  case atStart => exact ⟨0, 0, by omega, Lib.hid (by simp), rfl, rfl, h0, KeepF.refl _ _ _⟩
  case round =>
    obtain ⟨p, i, hi, HP, hx, hc, hJs, hnx⟩ := hrel
    subst hx hc
    by_cases hlt : i < 2
    · have hBr := hnx.cell hBs
      have hd2 : decide ((i : Int) < 2) = true := decide_eq_true (by omega)
      gi_wp2
      gi_loopw [3, 5, 6, 7, 12] (fun ix _ _ _ ca wr => ∃ p' a : Nat, a ≤ m ∧ Hid (p' = i * m * m + a * m) ∧ ix = .int .i64 (p' : Int) ∧ ca = .int .i64 (a : Int) ∧ J (rwk (2 * m * m) p') wr ∧ KeepF n₀ Bs W wr) (fun _ _ _ _ ca _ => (m - (intOf ca).toNat))
      case atStart => exact ⟨p, 0, by omega, Lib.hid (by rw [HP.out]; omega), rfl, rfl, hJs, hnx⟩
      case round =>
        obtain ⟨p', a, ha, HP', hx, hc, hJs', hnx'⟩ := hrel
        subst hx hc
        by_cases hlta : a < m
        · have hBr' := hnx'.cell hBs
          gi_wp2
          gi_loopw [3, 6, 7, 16] (fun ix _ _ cc wr => ∃ q c : Nat, c ≤ m ∧ Hid (q = i * m * m + a * m + c) ∧ ix = .int .i64 (q : Int) ∧ cc = .int .i64 (c : Int) ∧ J (rwk (2 * m * m) q) wr ∧ KeepF n₀ Bs W wr) (fun _ _ _ cc _ => (m - (intOf cc).toNat))
          case atStart => exact ⟨p', 0, by omega, Lib.hid (by rw [HP'.out]; omega), rfl, rfl, hJs', hnx'⟩
          case round =>
            obtain ⟨q, c, hc, HQ, hx, hcc, hJq, hnq⟩ := hrel
            subst hx hcc
            by_cases hltc : c < m
            · have hBq := hnq.cell hBs
              obtain ⟨t, ht⟩ : ∃ t, t = i + a + c := ⟨_, rfl⟩
              obtain ⟨rr, hrr⟩ : ∃ rr, rr = t % m := ⟨_, rfl⟩
              obtain ⟨qq, hqq⟩ : ∃ qq, qq = t / m := ⟨_, rfl⟩
              have HR := Lib.hid (show mkRow m i a c = ((i : Int), (a : Int), (c : Int), (rr : Int), (qq : Int)) by rw [mkRow, ← ht, ← hrr, ← hqq])
              have hw1 : IntKind.i64.wrap ((i : Int) + (a : Int)) = (i : Int) + a := IntWalk.i64_in _ (by omega)
              have hw2 : IntKind.i64.wrap ((i : Int) + (a : Int) + (c : Int)) = (t : Int) := by rw [IntWalk.i64_in _ (by omega)]; omega
              have e1 : (t : Int).tmod (m : Int) = (rr : Int) := by rw [hrr, ← Int.ofNat_tmod]
              have e2 : (t : Int).tdiv (m : Int) = (qq : Int) := by rw [hqq, ← Int.ofNat_tdiv]
              have hqb : qq ≤ t := by rw [hqq]; exact Nat.div_le_self _ _
              have hw3 : IntKind.i64.wrap (qq : Int) = (qq : Int) := IntWalk.i64_in _ (by omega)
              have hm0 : ¬ m = 0 := by omega
              have HI := Lib.hid (idx_ltF HQ.out hlt hlta hltc)
              have HM := Lib.hid (show rowN m q = ((i : Int), (a : Int), (c : Int), (rr : Int), (qq : Int)) by rw [HQ.out, idx_row hlta hltc, HR.out])
              have HS := Lib.hid (rwk_succ HI.out)
              clear ht hrr hqq
              obtain ⟨fn, tmps, assign, body, hy, hYR⟩ := hY _ ⟨q, HI.out⟩ wr.drew (hJ _ _ _ none hJq ⟨rfl, rfl, rfl, Nat.le_refl _, fun _ _ _ => rfl⟩ (fun r e => by cases e)) (by rw [rwk_len (Nat.le_of_lt HI.out)]; exact HI.out)
              rw [← HS.out] at hYR
              dsimp only at hy
              rw [HM.out] at hy
              dsimp only at hy
              replace hYR := hYR.mono (fun e W' h => (show ∃ b : Bool, e = .returned (.bool b) ∧ ((b = true ∧ J (rwk (2 * m * m) (q + 1)) W' ∧ KeepF n₀ Bs wr.drew W') ∨ (b = false ∧ Jx (rwk (2 * m * m) (q + 1)) W')) from h.elim (fun h => ⟨true, h.1, .inl ⟨rfl, h.2⟩⟩) (fun h => ⟨false, h.1, .inr ⟨rfl, h.2⟩⟩)))
              have hmo : Try.prog.follows .mixedOrders = true := by kernel_rfl
              have hBd : wr.drew.cell? ⟨Bs, 0, none⟩ = some (.int .i64 (m : Int)) := hBq
              gi_wp2
              gi_region_with_o (refine hYR.mono ?_; rintro e W3 ⟨b, rfl, hW3⟩)
              all_goals simp only [Act.put, List.setIfInBounds_toArray, List.set_cons_succ, List.set_cons_zero, List.getElem_toArray, List.getElem_cons_succ, List.getElem_cons_zero]
              all_goals have hq5 : q ≤ 600 := by have := HI.out; omega
              all_goals rcases hW3 with ⟨rfl, hJ3, hk3⟩ | ⟨rfl, hJx3⟩
              iterate 2
                next =>
                  have hkk := keepF_t (hnq.drewF_ 1) hk3
                  gi_wp2
                  go_roundw
                  case rel => exact ⟨q + 1, c + 1, by omega, Lib.hid (by rw [HQ.out]; omega), by go_num, by go_num, hJ3, hkk⟩
                  case measure => (simp [intOf]) <;> omega
                next =>
                  gi_wp2
                  rw [Exit.noGoto_normal]
                  go_end0
                  exact ⟨⟨_, rfl⟩, .inr ⟨_, ⟨q + 1, HI.out, rfl⟩, hJx3⟩⟩
            · obtain rfl : c = m := by omega
              gi_wp2
              go_roundw
              case rel => exact ⟨q, a + 1, by omega, Lib.hid (by rw [HQ.out, Nat.add_mul, Nat.one_mul]; omega), rfl, by go_num, hJq, hnq⟩
              case measure => (simp [intOf]) <;> omega
        · obtain rfl : a = m := by omega
          gi_wp2
          go_roundw
          case rel => exact ⟨p', i + 1, by omega, Lib.hid (by rw [HP'.out, Nat.add_mul, Nat.add_mul, Nat.one_mul]), rfl, by go_num, hJs', hnx'⟩
          case measure => (simp [intOf]) <;> omega
    · obtain rfl : i = 2 := by omega
      gi_wp2
      rw [Exit.noGoto_normal]
      go_end0
      exact ⟨⟨_, rfl⟩, .inl ⟨_, by rw [HP.out], hJs⟩⟩

set_option maxHeartbeats 1000000 in
theorem rightRowsF_in (n : Nat) (b : Int) (w : World) :
    CallsIn Fence.wide n Try.prog 88 #[.int .i64 b] w fun e w' => e = .returned (.func (.func 121) #[] #[.pointer (some ⟨w.heap.size, 0, none⟩)]) ∧ w' = w.alloc (.cells #[.int .i64 b] 2) := by
  have hro : Fence.wide.round = none := rfl
  refine callsIn_of_wp Try.func88 rfl trivial ?_ hro
  simp only [Try.ntmps88, List.size_toArray, List.length_cons, List.length_nil, Nat.reduceAdd, Nat.reduceSub, Array.replicate_succ, Array.replicate_zero, List.push_toArray, List.append_toArray, List.nil_append, List.cons_append]
  gi_wp2
  go_ret
  exact ⟨rfl, rfl⟩

theorem rowsF_stops (n : Nat) (hn : 1 ≤ n) (Bs n₀ m : Nat) (hm : 2 ≤ m) (hm2 : m ≤ 16) (w : World) (hBs : Bs < w.heap.size) (hc : w.cell? ⟨Bs, 0, none⟩ = some (.int .i64 (m : Int))) :
    SeqStopsK Fence.wide n Try.prog 121 #[.pointer (some ⟨Bs, 0, none⟩)] (fun x : Fin (2 * m * m) => #[.int .i64 (x.1 : Int), .agg #[.int .i64 (rowN m x.1).1, .int .i64 (rowN m x.1).2.1, .int .i64 (rowN m x.1).2.2.1, .int .i64 (rowN m x.1).2.2.2.1, .int .i64 (rowN m x.1).2.2.2.2]]) (KeepF n₀ Bs)
      (fun ys => ys = rwk (2 * m * m) (2 * m * m)) (fun pre => ∃ k, k ≤ 2 * m * m ∧ pre = rwk (2 * m * m) k) (2 * m * m) w := fun l J Jx W hW hJ _ hY h0 =>
  rowsF1_in n hn l Bs n₀ m hm hm2 J Jx _ hJ hY W ((hW.cell (p := ⟨Bs, 0, none⟩) hBs).trans hc) h0
end Go.Proofs.Ytmdngcoccekdgaa
