/-
  Programs as trees, in the program: nodesOf.
-/
import Derived.Test.YtgfopieojpjddaaFlsI
namespace Go.Proofs.Ytgfopieojpjddaa
open Go.RowKit

theorem info_node : (Try.prog.info? 64).map (fun i => (i.zero, i.size, i.bytes)) = some (some (.agg #[.int .i64 0, .int .i64 0, .slice none 0 0]), 3, 40) := by kernel_rfl
/-- A forest lies at an address, in blocks of this kind. -/
def FoP (p : Nat → Prop) (w : World) : Option Addr → Fo → Prop
  | _, .nil => True
  | a, .cons op arg k r => ∃ (b off : Nat) (A : Option Addr) (C : Nat), a = some ⟨b, off, none⟩ ∧ p b ∧ w.cell? ⟨b, off, none⟩ = some (.int .i64 op) ∧ w.cell? ⟨b, off + 1, none⟩ = some (.int .i64 arg) ∧ w.cell? ⟨b, off + 2, none⟩ = some (.slice A k.len C) ∧
      FoP p w A k ∧ FoP p w (some ⟨b, off + 3, none⟩) r
theorem FoP.r {p : Nat → Prop} {w : World} : ∀ {f : Fo} {a : Option Addr}, FoP p w a f → FoR w a f
  | .nil, _, _ => trivial
  | .cons op arg k r, a, h => by
    obtain ⟨b, off, A, C, e, _, h0, h1, h2, hk, hr⟩ := h
    exact ⟨b, off, A, C, e, h0, h1, h2, FoP.r hk, FoP.r hr⟩
/-- Cells that stay, and blocks that are of another kind too. -/
theorem FoP.go {p q : Nat → Prop} {w w' : World} (hc : ∀ b o v, p b → w.cell? ⟨b, o, none⟩ = some v → w'.cell? ⟨b, o, none⟩ = some v ∧ q b) : ∀ {f : Fo} {a : Option Addr}, FoP p w a f → FoP q w' a f
  | .nil, _, _ => trivial
  | .cons op arg k r, a, h => by
    obtain ⟨b, off, A, C, e, hp, h0, h1, h2, hk, hr⟩ := h
    exact ⟨b, off, A, C, e, (hc _ _ _ hp h0).2, (hc _ _ _ hp h0).1, (hc _ _ _ hp h1).1, (hc _ _ _ hp h2).1, FoP.go hc hk, FoP.go hc hr⟩
theorem FoP.below {p : Nat → Prop} {w w' : World} {f : Fo} {a : Option Addr} (h : FoP p w a f) (hb : Below w.heap.size w w') : FoP p w' a f := h.go fun _ _ _ hp hv => ⟨kept hb hv, hp⟩
theorem FoP.touch {q : Nat → Prop} {w w' : World} {f : Fo} {a : Option Addr} {lo lo' : Nat} (h : FoP (fun b => b ≠ lo ∧ q b) w a f) (ht : Touch lo (lo + 1) w w') (hl : lo' = lo ∨ w.heap.size ≤ lo') : FoP (fun b => b ≠ lo' ∧ q b) w' a f :=
  h.go fun b o v hp hv => ⟨keptT ht hv (by omega), by have := World.block_lt_of_cell? _ _ hv; simp only at this; omega, hp.2⟩

abbrev Kd := Int × Int × Option Addr × Nat × Fo
/-- The cells of nodes. -/
def ksC (ks : List Kd) : List Value := ks.flatMap fun z => [.int .i64 z.1, .int .i64 z.2.1, .slice z.2.2.1 z.2.2.2.2.len z.2.2.2.1]
theorem ksC_app (ks : List Kd) (z : Kd) : ksC (ks ++ [z]) = ksC ks ++ [.int .i64 z.1, .int .i64 z.2.1, .slice z.2.2.1 z.2.2.2.2.len z.2.2.2.1] := by simp [ksC]
/-- Nodes, and the rest of a forest behind them. -/
def ksF : List Kd → Fo → Fo
  | [], g => g
  | z :: ks, g => .cons z.1 z.2.1 z.2.2.2.2 (ksF ks g)
theorem ksF_app : ∀ (ks : List Kd) (z : Kd) (g : Fo), ksF (ks ++ [z]) g = ksF ks (.cons z.1 z.2.1 z.2.2.2.2 g)
  | [], _, _ => rfl
  | y :: ks, z, g => by rw [List.cons_append, ksF, ksF, ksF_app ks z g]
theorem ksF_len : ∀ ks : List Kd, (ksF ks .nil).len = ks.length
  | [] => rfl
  | _ :: ks => by rw [ksF, Fo.len, ksF_len ks, List.length_cons]
theorem fo_of {p : Nat → Prop} {w : World} {lo : Nat} (hp : p lo) : ∀ (ks : List Kd) (off : Nat), (∀ i u, (ksC ks)[i]? = some u → w.cell? ⟨lo, off + i, none⟩ = some u) → (∀ z ∈ ks, FoP p w z.2.2.1 z.2.2.2.2) → FoP p w (some ⟨lo, off, none⟩) (ksF ks .nil)
  | [], _, _, _ => trivial
  | z :: ks, off, hc, hk => by
    have e : ksC (z :: ks) = [.int .i64 z.1, .int .i64 z.2.1, .slice z.2.2.1 z.2.2.2.2.len z.2.2.2.1] ++ ksC ks := by simp [ksC]
    refine ⟨lo, off, z.2.2.1, z.2.2.2.1, rfl, hp, hc 0 _ (by rw [e]; rfl), hc 1 _ (by rw [e]; rfl), hc 2 _ (by rw [e]; rfl), hk z (by simp), ?_⟩
    refine fo_of hp ks (off + 3) (fun i u hu => ?_) fun y hy => hk y (by simp [hy])
    have := hc (3 + i) u (by rw [e, List.getElem?_append_right (by simp)]; simpa using hu)
    rw [show off + 3 + i = off + (3 + i) by omega]
    exact this
/-- A slice's length. -/
def slLen : Value → Nat
  | .slice _ n _ => n
  | _ => 0
theorem slLen_eq (a : Option Addr) (n c : Nat) : slLen (.slice a n c) = n := rfl
theorem elt_drop {xs : List (Int × Int)} {s : Nat} (h : s < xs.length) : elt pairF (xs.drop s) 0 = elt pairF xs s := by
  rw [elt_get (by simp; omega), elt_get h]; simp
/-- The list without its first instruction. -/
theorem rdF_tail {w : World} {b off s : Nat} {xs : List (Int × Int)} (h : RdF pairF w (some ⟨b, off, none⟩) (xs.drop s)) {c : Nat} (hc : xs.length - s ≤ c) : RdF pairF w (if c = 1 then some ⟨b, off, none⟩ else some ⟨b, off + 2, none⟩) (xs.drop (s + 1)) := by
  refine ⟨by have := h.len; simp at this ⊢; omega, fun hne => ?_⟩
  have hl : s + 1 < xs.length := by
    rcases Nat.lt_or_ge (s + 1) xs.length with q | q
    · exact q
    · exact absurd (List.drop_eq_nil_of_le q) hne
  obtain ⟨b', off', e, hcc⟩ := h.cells (fun h0 => by rw [List.drop_eq_nil_iff] at h0; omega)
  injection e with e
  injection e with e1 e2
  subst e1 e2
  rw [if_neg (by omega)]
  refine ⟨b, off + 2, rfl, fun i x hx j v hv => ?_⟩
  have hx2 : (xs.drop s)[i + 1]? = some x := by
    rw [List.getElem?_drop] at hx ⊢
    rw [show s + (i + 1) = s + 1 + i by omega]; exact hx
  have := hcc (i + 1) x hx2 j v hv
  have e : off + (i + 1) * pairF.sz + j = off + 2 + i * pairF.sz + j := by show off + (i + 1) * 2 + j = off + 2 + i * 2 + j; omega
  rw [e] at this
  exact this
theorem run_tail {w : World} {b off n c : Nat} (h : 1 ≤ n) : (Instr.slice 25 (.slice (some ⟨b, off, none⟩) n c) (some (.int .i64 1)) none none).run Try.prog w = .ok (.slice (if c = 1 then some ⟨b, off, none⟩ else some ⟨b, off + 2, none⟩) (n - 1) (c - 1)) w := by
  have hu := Try.underlying25
  have ht' : Try.prog.underlying 25 = some (.slice (Try.prog.elem 25)) := by simp [Program.elem, hu]
  have he : Try.prog.elem 25 = 41 := by simp [Program.elem, hu]
  have hz : (Go.sizeOf 41).run Try.prog w = .ok 2 w := by kernel_rfl
  rw [run_slice_l w 25 (some ⟨b, off, none⟩) n c ht' .i64 1 (by omega) (by omega), he, hz]
  by_cases hc : c = 1
  · simp [Result.andThen, sliced, hc]
  · simp [Result.andThen, sliced, hc, Addr.add]

/-- What nodesOf leaves. -/
def NodesPost (w0 : World) (xs : List (Int × Int)) (e : Nat) (f : Fo) (w : World) (x : Ending) (w' : World) : Prop :=
  ∃ N C V, x = .returned (.tuple #[.slice N f.len C, V]) ∧ FoP (fun b => w.heap.size ≤ b) w' N f ∧ Below w.heap.size w w' ∧
    (e < xs.length → ∃ A2 c2, V = .slice A2 (xs.length - (e + 1)) c2 ∧ xs.length - (e + 1) ≤ c2 ∧ RdF pairF w0 A2 (xs.drop (e + 1)))
theorem nodesPost_of {w0 : World} {xs : List (Int × Int)} {e : Nat} {ks : List Kd} {w w' : World} {B : Option Addr} {C lo : Nat} {V : Value} (bk : Blk 64 3 w' lo (.slice B ks.length C) ks.length (ksC ks)) (hlo : w.heap.size ≤ lo) (hb : Below w.heap.size w w')
    (hk : ∀ z ∈ ks, FoP (fun b => b ≠ lo ∧ w.heap.size ≤ b) w' z.2.2.1 z.2.2.2.2) (hV : e < xs.length → ∃ A2 c2, V = .slice A2 (xs.length - (e + 1)) c2 ∧ xs.length - (e + 1) ≤ c2 ∧ RdF pairF w0 A2 (xs.drop (e + 1))) :
    NodesPost w0 xs e (ksF ks .nil) w (.returned (.tuple #[.slice B ks.length C, V])) w' := by
  refine ⟨B, C, V, by rw [ksF_len], ?_, hb, hV⟩
  rcases bk.row.row.2 with ⟨hv, h0⟩ | ⟨g, cap, cur, hv, hg, hh, _⟩
  · have : ks = [] := List.eq_nil_of_length_eq_zero h0
    subst this
    trivial
  · injection hv with e1 e2 e3
    subst e1
    have hgl := bk.row.lo_le (k := g) rfl
    obtain rfl : g = lo := by omega
    refine fo_of (p := fun b => w.heap.size ≤ b) hlo ks 0 (fun i u hu => ?_) fun z hz => (hk z hz).go fun b o v hp hv => ⟨hv, hp.2⟩
    have := bk.row.cell (j := i) (u := u) hu
    rw [show (⟨g, 0, none⟩ : Addr).add i = ⟨g, 0 + i, none⟩ by
      by_cases h0 : i = 0
      · subst h0; rfl
      · simp [Addr.add, h0]] at this
    exact this
/-- The cells of a new node. -/
theorem node_news (W : World) (x y v : Value) (hx : x.oneCell' = true) (hy : y.oneCell' = true) (hv : v.oneCell' = true) : (∀ i u, [x, y, v][i]? = some u → (W.alloc (.cells #[x, y, v] 64)).cell? ((⟨W.heap.size, 0, none⟩ : Addr).add i) = some u) ∧ ∀ u ∈ [x, y, v], u.oneCell' = true := by
  have bb := Bx.new W #[x, y, v] 64
  refine ⟨fun i u hu => ?_, fun u hu => ?_⟩
  · have ea : (⟨W.heap.size, 0, none⟩ : Addr).add i = ⟨W.heap.size, i, none⟩ := by
      by_cases h0 : i = 0
      · subst h0; rfl
      · simp [Addr.add, h0]
    rw [ea]
    refine bb.at_ i ?_
    rw [← hu]
    simp
  · simp at hu
    rcases hu with rfl | rfl | rfl <;> assumption
/-- Nodes before, and behind, one that is appended. -/
theorem nodes_step {w0 W w6 : World} {lo lo' : Nat} {ks : List Kd} {z : Kd} (ht : Touch lo (lo + 1) W w6) (hl : lo' = lo ∨ W.heap.size ≤ lo') (hk : ∀ y ∈ ks, FoP (fun b => b ≠ lo ∧ w0.heap.size ≤ b) W y.2.2.1 y.2.2.2.2) (hz : FoP (fun b => b ≠ lo ∧ w0.heap.size ≤ b) W z.2.2.1 z.2.2.2.2) :
    ∀ y ∈ ks ++ [z], FoP (fun b => b ≠ lo' ∧ w0.heap.size ≤ b) w6 y.2.2.1 y.2.2.2.2 := by
  intro y hy
  rcases List.mem_append.1 hy with h | h
  · exact (hk y h).touch ht hl
  · rw [List.mem_singleton] at h
    subst h
    exact hz.touch ht hl
end Go.Proofs.Ytgfopieojpjddaa
