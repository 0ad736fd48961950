/-
  Drawn trains: the maths of FnTrains.
-/
import Derived.Test.YtaefgkhbgljkoaaGear
namespace Go.Proofs.Ytaefgkhbgljkoaa

/-- A train that has been drawn. -/
structure Drawn (xs : List (Int × Int)) : Prop where
  n0 : 1 ≤ xs.length
  n1 : xs.length ≤ 3
  all : ∀ x ∈ xs, 2 ≤ x.1 ∧ x.1 ≤ 31 ∧ 2 ≤ x.2 ∧ x.2 ≤ 31

theorem i64_small {z : Int} (h0 : -1000000 ≤ z) (h1 : z ≤ 1000000) : I64 z := by
  have m0 : IntKind.i64.min = -9223372036854775808 := rfl
  have m1 : IntKind.i64.max = 9223372036854775807 := rfl
  simp only [I64, Lit.wf, m0, m1, Bool.and_eq_true, decide_eq_true_eq]
  omega
theorem teeth_in {x : Int × Int} {m : Int} (hm : m ≤ 120) (h : 2 ≤ x.1 ∧ x.1 ≤ m ∧ 2 ≤ x.2 ∧ x.2 ≤ m) : teethB x = true := by
  simp only [teethB, Bool.and_eq_true, inB, decide_eq_true_eq]; omega
theorem Drawn.teeth {xs : List (Int × Int)} (h : Drawn xs) : ∀ x ∈ xs, teethB x = true := fun x hx => teeth_in (by omega) (h.all x hx)
theorem Drawn.train {xs : List (Int × Int)} (h : Drawn xs) : trainB xs = true := train_is ⟨h.n0, by have := h.n1; omega, h.teeth⟩
theorem Drawn.i64 {xs : List (Int × Int)} (h : Drawn xs) : All2 xs := by
  intro x hx
  have := h.all x hx
  exact ⟨i64_small (by omega) (by omega), i64_small (by omega) (by omega)⟩
theorem join_train {xs ys : List (Int × Int)} (h : Drawn xs) (k : Drawn ys) : trainB (xs ++ ys) = true := by
  refine train_is ⟨?_, ?_, ?_⟩
  · have := h.n0; simp; omega
  · have := h.n1; have := k.n1; simp; omega
  · intro x hx
    rcases List.mem_append.1 hx with hx | hx
    · exact h.teeth x hx
    · exact k.teeth x hx
theorem join_i64 {xs ys : List (Int × Int)} (h : Drawn xs) (k : Drawn ys) : All2 (xs ++ ys) := by
  intro x hx
  rcases List.mem_append.1 hx with hx | hx
  · exact h.i64 x hx
  · exact k.i64 x hx
theorem Drawn.back {xs : List (Int × Int)} (h : Drawn xs) : Drawn (backL xs) := by
  refine ⟨by simpa [backL] using h.n0, by simpa [backL] using h.n1, ?_⟩
  intro x hx
  simp only [backL, List.mem_map, List.mem_reverse] at hx
  obtain ⟨y, hy, rfl⟩ := hx
  have := h.all y hy
  simp only [swapP]; omega
theorem join_ok {xs ys : List (Int × Int)} (h : Drawn xs) (k : Drawn ys) : joinR xs ys = (xs ++ ys, 0) := joinR_ok h.train k.train (by have := h.n1; have := k.n1; omega)

theorem ratQ_foldl (q : Rat) : ∀ xs : List (Int × Int), xs.foldl (fun q x => q * fac x) q = q * ratQ xs
  | [] => by simp [ratQ, Rat.mul_one]
  | x :: xs => by rw [ratQ, List.foldl_cons, List.foldl_cons, ratQ_foldl (q * fac x) xs, ratQ_foldl (1 * fac x) xs, Rat.one_mul, Rat.mul_assoc]
theorem ratQ_append (xs ys : List (Int × Int)) : ratQ (xs ++ ys) = ratQ xs * ratQ ys := by
  rw [ratQ, List.foldl_append, ratQ_foldl]; rfl
theorem ratQ_cons (x : Int × Int) (xs : List (Int × Int)) : ratQ (x :: xs) = fac x * ratQ xs := by rw [ratQ, List.foldl_cons, ratQ_foldl, Rat.one_mul]
theorem ratQ_one (x : Int × Int) : ratQ [x] = fac x := by rw [ratQ_cons, ratQ_nil, Rat.mul_one]

/-- A product, told by numerators and denominators. -/
theorem mul_parts (p q : Rat) : (p * q).num * ((p.den * q.den : Nat) : Int) = p.num * q.num * ((p * q).den : Int) := by
  have h : mkRat (p * q).num (p * q).den = mkRat (p.num * q.num) (p.den * q.den) := by rw [Rat.mkRat_self, Rat.mul_def']
  exact (Rat.mkRat_eq_iff (p * q).den_nz (Nat.mul_ne_zero p.den_nz q.den_nz)).1 h
theorem red_parts (n : Int) {d : Nat} (hd : d ≠ 0) : (red n d).num * (d : Int) = n * ((red n d).den : Int) := by
  have h : mkRat (red n d).num (red n d).den = mkRat n d := by rw [Rat.mkRat_self, red]
  exact (Rat.mkRat_eq_iff (red n d).den_nz hd).1 h
theorem fac_swap {x : Int × Int} (h : 2 ≤ x.1 ∧ 2 ≤ x.2) : fac (swapP x) * fac x = 1 := by
  obtain ⟨a, b⟩ := x
  obtain ⟨n, rfl⟩ : ∃ n : Nat, a = n := ⟨a.toNat, by simp at h; omega⟩
  obtain ⟨m, rfl⟩ : ∃ m : Nat, b = m := ⟨b.toNat, by simp at h; omega⟩
  simp only [fac, swapP, Int.toNat_natCast]
  rw [Rat.mkRat_mul_mkRat, Int.neg_mul_neg]
  have : (1 : Rat) = mkRat 1 1 := by rfl
  rw [this, Rat.mkRat_eq_iff (by simp at h; exact Nat.mul_ne_zero (by omega) (by omega)) (by omega)]
  simp [Int.mul_comm]
theorem ratQ_back : ∀ {xs : List (Int × Int)}, (∀ x ∈ xs, 2 ≤ x.1 ∧ 2 ≤ x.2) → ratQ (backL xs) * ratQ xs = 1
  | [], _ => by simp [backL, ratQ_nil, Rat.mul_one]
  | x :: xs, h => by
    have ih := ratQ_back (xs := xs) fun y hy => h y (List.mem_cons_of_mem _ hy)
    have hx := fac_swap (h x (List.mem_cons_self ..))
    have e : backL (x :: xs) = backL xs ++ [swapP x] := by simp [backL]
    rw [e, ratQ_snoc, ratQ_cons, Rat.mul_assoc, ← Rat.mul_assoc (fac (swapP x)), hx, Rat.one_mul, ih]
theorem back_parts {xs : List (Int × Int)} (h : Drawn xs) : (ratQ (backL xs)).num * (ratQ xs).num = ((ratQ (backL xs)).den : Int) * ((ratQ xs).den : Int) := by
  have := mul_parts (ratQ (backL xs)) (ratQ xs)
  rw [ratQ_back fun x hx => by have := h.all x hx; omega] at this
  simp at this
  exact this.symm
theorem ratQ_num_ne {xs : List (Int × Int)} (h : Drawn xs) : (ratQ xs).num ≠ 0 := by
  intro h0
  have := back_parts h
  rw [h0, Int.mul_zero] at this
  have h1 := den_pos (ratQ xs)
  have h2 := den_pos (ratQ (backL xs))
  have := Nat.mul_pos h2 h1
  omega

theorem fac_31 {x : Int × Int} (h : 2 ≤ x.1 ∧ x.1 ≤ 31 ∧ 2 ≤ x.2 ∧ x.2 ≤ 31) : (fac x).num.natAbs ≤ 31 ∧ (fac x).den ≤ 31 := by
  have h1 := red_num_le (-x.1) x.2.toNat
  have h2 := red_den_le (-x.1) (d := x.2.toNat) (by omega)
  rw [red] at h1 h2
  rw [fac]; omega
theorem ratQ_31 : ∀ {xs : List (Int × Int)}, (∀ x ∈ xs, 2 ≤ x.1 ∧ x.1 ≤ 31 ∧ 2 ≤ x.2 ∧ x.2 ≤ 31) → (ratQ xs).num.natAbs ≤ 31 ^ xs.length ∧ (ratQ xs).den ≤ 31 ^ xs.length
  | [], _ => by simp [ratQ_nil]
  | x :: xs, h => by
    have ih := ratQ_31 (xs := xs) fun y hy => h y (List.mem_cons_of_mem _ hy)
    have hx := fac_31 (h x (List.mem_cons_self ..))
    rw [ratQ_cons, List.length_cons, Nat.pow_succ, Nat.mul_comm]
    exact ⟨Nat.le_trans (num_le _ _) (Nat.mul_le_mul hx.1 ih.1), Nat.le_trans (den_le _ _) (Nat.mul_le_mul hx.2 ih.2)⟩
theorem pow31 {k : Nat} (h : k ≤ 3) : 31 ^ k ≤ 29791 := by
  have := Nat.pow_le_pow_right (n := 31) (by omega) h
  have e : 31 ^ 3 = 29791 := by decide
  omega
theorem Drawn.bd {xs : List (Int × Int)} (h : Drawn xs) : (ratQ xs).num.natAbs ≤ 29791 ∧ (ratQ xs).den ≤ 29791 ∧ 1 ≤ (ratQ xs).den := by
  have := ratQ_31 h.all
  have := pow31 h.n1
  have := den_pos (ratQ xs)
  omega
theorem join_bd {xs ys : List (Int × Int)} (h : Drawn xs) (k : Drawn ys) : (ratQ (xs ++ ys)).num.natAbs ≤ 887503681 ∧ (ratQ (xs ++ ys)).den ≤ 887503681 := by
  obtain ⟨a1, a2, _⟩ := h.bd
  obtain ⟨b1, b2, _⟩ := k.bd
  rw [ratQ_append]
  exact ⟨Nat.le_trans (num_le _ _) (Nat.mul_le_mul a1 b1), Nat.le_trans (den_le _ _) (Nat.mul_le_mul a2 b2)⟩
theorem Drawn.dprod {xs : List (Int × Int)} (h : Drawn xs) : ∀ k, k ≤ xs.length → 1 ≤ dprod xs k ∧ dprod xs k ≤ 31 ^ k
  | 0, _ => by simp [Go.Proofs.Ytaefgkhbgljkoaa.dprod]
  | k + 1, hk => by
    obtain ⟨h1, h2⟩ := h.dprod k (by omega)
    have := h.all _ (elt_mem (F := pairF) (show k < xs.length by omega))
    rw [Go.Proofs.Ytaefgkhbgljkoaa.dprod, Nat.pow_succ]
    exact ⟨Nat.mul_pos h1 (by omega), Nat.mul_le_mul h2 (by omega)⟩
theorem Drawn.least {xs : List (Int × Int)} (h : Drawn xs) : 1 ≤ lcmTo xs xs.length ∧ lcmTo xs xs.length ≤ 29791 := by
  obtain ⟨h1, h2⟩ := h.dprod xs.length (Nat.le_refl _)
  have hd := lcm_dprod h.teeth xs.length (Nat.le_refl _)
  have := Nat.le_of_dvd h1 hd
  have := pow31 h.n1
  exact ⟨Nat.pos_of_dvd_of_pos hd h1, by omega⟩
theorem den_lcm {xs : List (Int × Int)} (h : 1 ≤ xs.length) : (ratQ xs).den ∣ lcmTo xs xs.length := by
  obtain ⟨k, hk⟩ : ∃ k, xs.length = k + 1 := ⟨xs.length - 1, by omega⟩
  rw [hk, lcmTo, ← hk, List.take_of_length_le (Nat.le_refl _)]
  exact Nat.dvd_lcm_right _ _
theorem wrap_mul {a b : Int} {A B : Nat} (ha : a.natAbs ≤ A) (hb : b.natAbs ≤ B) (h : A * B ≤ 9000000000000000000) : IntKind.i64.wrap (a * b) = a * b := by
  have h1 := Nat.mul_le_mul ha hb
  have h2 := Int.natAbs_mul a b
  exact IntWalk.i64_in _ (by omega)
theorem abs_mul_le {a b : Int} {A B : Nat} (ha : a.natAbs ≤ A) (hb : b.natAbs ≤ B) : (a * b).natAbs ≤ A * B := by rw [Int.natAbs_mul]; exact Nat.mul_le_mul ha hb
/-- What the law says of joined trains: no product is too large. -/
theorem trains_mul {xs ys zs : List (Int × Int)} {xn xd yn yd tn td : Int} (h : Drawn xs) (k : Drawn ys) (hz : zs = xs ++ ys) (hx : xn = (ratQ xs).num ∧ xd = (ratQ xs).den) (hy : yn = (ratQ ys).num ∧ yd = (ratQ ys).den) (ht : tn = (ratQ zs).num ∧ td = (ratQ zs).den) :
    IntKind.i64.wrap (xd * yd) = xd * yd ∧ IntKind.i64.wrap (tn * (xd * yd)) = tn * (xd * yd) ∧ IntKind.i64.wrap (xn * yn) = xn * yn ∧ IntKind.i64.wrap (xn * yn * td) = xn * yn * td ∧ tn * (xd * yd) = xn * yn * td := by
  obtain ⟨a1, a2, _⟩ := h.bd
  obtain ⟨b1, b2, _⟩ := k.bd
  obtain ⟨c1, c2⟩ := join_bd h k
  have e := mul_parts (ratQ xs) (ratQ ys)
  rw [← ratQ_append, ← hz] at e
  rw [← hz] at c1 c2
  have p1 : xn.natAbs ≤ 29791 := by omega
  have p2 : xd.natAbs ≤ 29791 := by omega
  have p3 : yn.natAbs ≤ 29791 := by omega
  have p4 : yd.natAbs ≤ 29791 := by omega
  have p5 : tn.natAbs ≤ 887503681 := by omega
  have p6 : td.natAbs ≤ 887503681 := by omega
  refine ⟨wrap_mul p2 p4 (by omega), wrap_mul p5 (abs_mul_le p2 p4) (by omega), wrap_mul p1 p3 (by omega), wrap_mul (abs_mul_le p1 p3) p6 (by omega), ?_⟩
  rw [hx.1, hx.2, hy.1, hy.2, ht.1, ht.2, ← e]
  simp
theorem trains_back {xs ks : List (Int × Int)} {xn xd un ud : Int} (h : Drawn xs) (hk : ks = backL xs) (hx : xn = (ratQ xs).num ∧ xd = (ratQ xs).den) (hu : un = (ratQ ks).num ∧ ud = (ratQ ks).den) :
    IntKind.i64.wrap (un * xn) = un * xn ∧ IntKind.i64.wrap (ud * xd) = ud * xd ∧ un * xn = ud * xd := by
  obtain ⟨a1, a2, _⟩ := h.bd
  obtain ⟨b1, b2, _⟩ := h.back.bd
  rw [← hk] at b1 b2
  have p1 : xn.natAbs ≤ 29791 := by omega
  have p2 : xd.natAbs ≤ 29791 := by omega
  have p3 : un.natAbs ≤ 29791 := by omega
  have p4 : ud.natAbs ≤ 29791 := by omega
  refine ⟨wrap_mul p3 p1 (by omega), wrap_mul p4 p2 (by omega), ?_⟩
  rw [hx.1, hx.2, hu.1, hu.2, hk]
  exact back_parts h

/-- Behind the least turns the output stands as it stood. -/
theorem whole {n : Int} {d m : Nat} (hd : d ≠ 0) (h : d ∣ m) : (red (n * (m : Int)) d).den = 1 ∧ (red (n * (m : Int)) d).num * (d : Int) = n * (m : Int) := by
  have e : (red (n * (m : Int)) d).den = 1 := by
    rw [red, Rat.den_mkRat, if_neg hd, Int.natAbs_mul, Int.natAbs_natCast]
    have : d.gcd (n.natAbs * m) = d := Nat.gcd_eq_left (Nat.dvd_trans h ⟨_, Nat.mul_comm _ _⟩)
    rw [this, Nat.div_self (by omega)]
  refine ⟨e, ?_⟩
  have := red_parts (n * (m : Int)) hd
  rw [e] at this
  simpa using this

theorem fF_small {n : Nat} (h : n ≤ 60) : fF n 60 1 = 1 := fF_hit (k := 59) ⟨Nat.mod_one n, by rw [Nat.div_one]; exact h⟩
/-- What is found for small numbers. -/
theorem found {num den : Int} (n1 : 1 ≤ num) (n2 : num ≤ 60) (d1 : 1 ≤ den) (d2 : den ≤ 60) :
    ∃ ys, findR num den = (ys, 0) ∧ trainB ys = true ∧ All2 ys ∧ ratQ ys = red num den.toNat := by
  have i1 : inB num 1 1000000 = true := by simp only [inB, decide_eq_true_eq]; omega
  have i2 : inB den 1 1000000 = true := by simp only [inB, decide_eq_true_eq]; omega
  have hd0 : den.toNat ≠ 0 := by omega
  have b1 := red_num_le num den.toNat
  have b2 := red_den_le num hd0
  have b3 := den_pos (red num den.toNat)
  have hp := red_parts num hd0
  have b4 : 1 ≤ (red num den.toNat).num := by
    rcases Int.lt_or_le 0 (red num den.toNat).num with h | h
    · omega
    · exfalso
      have h1 : (red num den.toNat).num * (den.toNat : Int) ≤ 0 := Int.mul_nonpos_of_nonpos_of_nonneg h (by omega)
      have h2 : 0 < num * ((red num den.toNat).den : Int) := Int.mul_pos (by omega) (by omega)
      omega
  rw [findR_ok i1 i2]
  obtain ⟨r, hr⟩ : ∃ r, r = red num den.toNat := ⟨_, rfl⟩
  rw [← hr] at b1 b2 b3 b4 ⊢
  have f1 : fF r.num.natAbs 60 1 = 1 := fF_small (by omega)
  have f2 : fF r.den 60 1 = 1 := fF_small (by omega)
  refine ⟨findL r.num.natAbs r.den, by rw [findC, f1, f2, if_pos (by omega)], ?_, ?_, ?_⟩
  · refine train_is ⟨by simp [findL], by simp [findL], ?_⟩
    intro x hx
    simp only [findL, f1, f2, List.mem_cons, List.not_mem_nil, or_false, Nat.div_one] at hx
    rcases hx with rfl | rfl <;> exact teeth_in (m := 120) (by omega) (by simp <;> omega)
  · intro x hx
    simp only [findL, f1, f2, List.mem_cons, List.not_mem_nil, or_false, Nat.div_one] at hx
    rcases hx with rfl | rfl <;> exact ⟨i64_small (by simp <;> omega) (by simp <;> omega), i64_small (by simp <;> omega) (by simp <;> omega)⟩
  · rw [findL, f1, f2, ratQ_cons, ratQ_one, Nat.div_one, Nat.div_one]
    obtain ⟨n, hn⟩ : ∃ n : Nat, r.num = n := ⟨r.num.toNat, by omega⟩
    have e1 : r.num.natAbs = n := by omega
    rw [e1, fac, fac, Rat.mkRat_mul_mkRat]
    have e2 : (-(2 * ((1 : Nat) : Int)) * -(2 * (n : Int))) = ((4 : Nat) : Int) * r.num := by rw [hn]; omega
    have e3 : ((2 * ((1 : Nat) : Int)).toNat * (2 * (r.den : Int)).toNat) = 4 * r.den := by
      have a1 : (2 * ((1 : Nat) : Int)).toNat = 2 := rfl
      have a2 : (2 * (r.den : Int)).toNat = 2 * r.den := by omega
      rw [a1, a2]; omega
    rw [e2, e3, Rat.mkRat_mul_left (by omega), Rat.mkRat_self]
/-- What the law says of the least turns. -/
theorem trains_out {xs : List (Int × Int)} {xn xd ln : Int} (h : Drawn xs) (hx : xn = (ratQ xs).num ∧ xd = (ratQ xs).den) (hl : ln = (lcmTo xs xs.length : Nat)) (hle : ln ≤ 1000) :
    ∃ on, outR xs ln = ((on, 1), 0) ∧ IntKind.i64.wrap (on * xd) = on * xd ∧ IntKind.i64.wrap (xn * ln) = xn * ln ∧ on * xd = xn * ln := by
  obtain ⟨a1, a2, a3⟩ := h.bd
  have hi : inB ln (-1000) 1000 = true := by simp only [inB, decide_eq_true_eq]; omega
  have hw := whole (n := (ratQ xs).num) (ratQ xs).den_nz (den_lcm h.n0)
  rw [outR_ok h.train hi, hl, hw.1]
  refine ⟨_, rfl, ?_, ?_, ?_⟩
  · rw [hx.2, hw.2]
    exact wrap_mul a1 (B := 1000) (by omega) (by omega)
  · rw [hx.1]
    exact wrap_mul a1 (B := 1000) (by omega) (by omega)
  · rw [hx.1, hx.2, hw.2]
/-- What the law says of a found train. -/
theorem trains_found {num den : Int} (n1 : 1 ≤ num) (n2 : num ≤ 60) (d1 : 1 ≤ den) (d2 : den ≤ 60) :
    ∃ fs vn vd, findR num den = (fs, 0) ∧ trainB fs = true ∧ All2 fs ∧ ratR fs = ((vn, vd), 0) ∧ IntKind.i64.wrap (vn * den) = vn * den ∧ IntKind.i64.wrap (num * vd) = num * vd ∧ vn * den = num * vd := by
  obtain ⟨fs, h1, h2, h3, h4⟩ := found n1 n2 d1 d2
  have hd0 : den.toNat ≠ 0 := by omega
  have b1 := red_num_le num den.toNat
  have b2 := red_den_le num hd0
  have hp := red_parts num hd0
  rw [← h4] at b1 b2 hp
  have e : ((den.toNat : Nat) : Int) = den := by omega
  rw [e] at hp
  exact ⟨fs, _, _, h1, h2, h3, ratR_ok h2, wrap_mul (A := 60) (B := 60) (by omega) (by omega) (by omega), wrap_mul (A := 60) (B := 60) (by omega) (by omega) (by omega), hp⟩
end Go.Proofs.Ytaefgkhbgljkoaa
