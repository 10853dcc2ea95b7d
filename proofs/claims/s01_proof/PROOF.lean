import PyProof.Rows.All
import Wide.All
import OpenK.AllK
import Wide.FinOn
import PyProof.EqAt
import PyProof.EqKinds
import PyProof.TupleCall
import Open.SpecLaws
import KE.OsGo
import HandS.ForSpec
import HandS.ExcInit
import HandS.ExcSuper
import HandS.ExcField
import HandS.ClsMeth
import HandS.ForMost
import HandS.Wide
import HandS.CallLocal
import HandS.Steps
import HandS.Style
import HandS.ExcOwn
import KE.GoesEnumKw
import HandS.Walk
import HandS.SortInts
import HandS.SortKw
import HandS.Zip
import KE.KStateDown
import HandS.Head0
import HandS.Head1
import HandS.Head2
import HandS.HeadHook1
import HandS.HeadHook2
import PySem.Challenge.RW_logworth_s01_answers
/-! LwMath -/
section
set_option Elab.async false
namespace LwM
open Kp432
/-! fractions in lowest terms, as rational numbers -/
def q (x : Fraction) : Rat := mkRat x.num x.den
structure Nrm (x : Fraction) : Prop where
  pos : 0 < x.den
  cop : Nat.gcd x.num.natAbs x.den = 1
theorem Nrm.ext {x y : Fraction} (hx : Nrm x) (hy : Nrm y) (h : q x = q y) : x = y := by
  unfold q at h
  have e1 : mkRat x.num x.den = ⟨x.num, x.den, Nat.ne_of_gt hx.pos, hx.cop⟩ := by
    rw [← Rat.mk_eq_mkRat x.num x.den (Nat.ne_of_gt hx.pos) hx.cop]
  have e2 : mkRat y.num y.den = ⟨y.num, y.den, Nat.ne_of_gt hy.pos, hy.cop⟩ := by
    rw [← Rat.mk_eq_mkRat y.num y.den (Nat.ne_of_gt hy.pos) hy.cop]
  rw [e1, e2] at h
  obtain ⟨a, b⟩ := x
  obtain ⟨c, d⟩ := y
  injection h with h1 h2
  subst h1 h2
  rfl
theorem gcd_pos_of {n : Int} {d : Nat} (h : 0 < d) : 0 < Nat.gcd n.natAbs d := Nat.gcd_pos_of_pos_right _ h
theorem fraction_eq {n : Int} {d : Nat} (h : 0 < d) : fraction n d = ⟨n / (Nat.gcd n.natAbs d : Int), d / Nat.gcd n.natAbs d⟩ := by
  have g := gcd_pos_of (n := n) h
  unfold fraction
  simp only
  rw [if_neg (by omega)]
theorem fraction_nrm {n : Int} {d : Nat} (h : 0 < d) : Nrm (fraction n d) := by
  have g := gcd_pos_of (n := n) h
  rw [fraction_eq h]
  refine ⟨Nat.div_pos (Nat.gcd_le_right _ h) g, ?_⟩
  show Nat.gcd (n / (Nat.gcd n.natAbs d : Int)).natAbs (d / Nat.gcd n.natAbs d) = 1
  have e : (n / (Nat.gcd n.natAbs d : Int)).natAbs = n.natAbs / Nat.gcd n.natAbs d := by
    rw [Int.natAbs_ediv_of_dvd (Int.ofNat_dvd_left.mpr (Nat.gcd_dvd_left _ _))]
    rfl
  rw [e]
  exact Nat.gcd_div_gcd_div_gcd_of_pos_right h
theorem q_fraction {n : Int} {d : Nat} (h : 0 < d) : q (fraction n d) = mkRat n d := by
  have g := gcd_pos_of (n := n) h
  have N := fraction_nrm (n := n) h
  unfold q
  rw [Rat.mkRat_eq_iff (Nat.ne_of_gt N.pos) (Nat.ne_of_gt h)]
  rw [fraction_eq h]
  show n / (Nat.gcd n.natAbs d : Int) * (d : Int) = n * ((d / Nat.gcd n.natAbs d : Nat) : Int)
  obtain ⟨a, ha⟩ : (Nat.gcd n.natAbs d : Int) ∣ n := Int.ofNat_dvd_left.mpr (Nat.gcd_dvd_left _ _)
  obtain ⟨b, hb⟩ := Nat.gcd_dvd_right n.natAbs d
  have e1 : n / (Nat.gcd n.natAbs d : Int) = a := by
    conv => lhs; lhs; rw [ha]
    exact Int.mul_ediv_cancel_left _ (by omega)
  have e2 : d / Nat.gcd n.natAbs d = b := by
    conv => lhs; lhs; rw [hb]
    exact Nat.mul_div_cancel_left _ g
  rw [e1, e2]
  conv => lhs; rhs; rw [hb]
  conv => rhs; lhs; rw [ha]
  rw [Int.natCast_mul]
  grind
theorem q_div (x : Fraction) : q x = (x.num : Rat) / (x.den : Rat) := Rat.mkRat_eq_div _ _
theorem qd_ne {x : Fraction} (h : 0 < x.den) : (x.den : Rat) ≠ 0 := by
  intro e
  have : (x.den : Rat) = ((0 : Nat) : Rat) := e
  have z := Rat.natCast_inj.mp this
  omega
theorem nrm_add {x y : Fraction} (hx : 0 < x.den) (hy : 0 < y.den) : Nrm (add x y) := fraction_nrm (Nat.mul_pos hx hy)
theorem nrm_sub {x y : Fraction} (hx : 0 < x.den) (hy : 0 < y.den) : Nrm (sub x y) := fraction_nrm (Nat.mul_pos hx hy)
theorem nrm_mul {x y : Fraction} (hx : 0 < x.den) (hy : 0 < y.den) : Nrm (mul x y) := fraction_nrm (Nat.mul_pos hx hy)
theorem nrm_over {x y : Fraction} (hx : 0 < x.den) (hy : 0 < y.num) : Nrm (over x y) := fraction_nrm (Nat.mul_pos hx (by omega))
theorem nrm_ofNat (n : Nat) : Nrm (ofNat n) := ⟨Nat.one_pos, Nat.gcd_one_right _⟩
theorem q_add {x y : Fraction} (hx : 0 < x.den) (hy : 0 < y.den) : q (add x y) = q x + q y := by
  unfold add
  rw [q_fraction (Nat.mul_pos hx hy)]
  unfold q
  rw [Rat.mkRat_add_mkRat _ _ (Nat.ne_of_gt hx) (Nat.ne_of_gt hy)]
theorem q_sub {x y : Fraction} (hx : 0 < x.den) (hy : 0 < y.den) : q (sub x y) = q x - q y := by
  unfold sub
  rw [q_fraction (Nat.mul_pos hx hy), q_div, q_div, Rat.mkRat_eq_div]
  have h1 := qd_ne hx
  have h2 := qd_ne hy
  rw [Rat.intCast_sub, Rat.intCast_mul, Rat.intCast_mul, Rat.natCast_mul, Rat.intCast_natCast, Rat.intCast_natCast]
  grind
theorem q_mul {x y : Fraction} (hx : 0 < x.den) (hy : 0 < y.den) : q (mul x y) = q x * q y := by
  unfold mul
  rw [q_fraction (Nat.mul_pos hx hy)]
  unfold q
  rw [Rat.mkRat_mul_mkRat]
theorem q_ofNat (n : Nat) : q (ofNat n) = (n : Rat) := by
  rw [q_div]
  show ((n : Int) : Rat) / ((1 : Nat) : Rat) = _
  rw [Rat.intCast_natCast]
  grind
theorem q_over {x y : Fraction} (hx : 0 < x.den) (hd : 0 < y.den) (hy : 0 < y.num) : q (over x y) = q x / q y := by
  unfold over
  rw [q_fraction (Nat.mul_pos hx (by omega)), q_div, q_div, Rat.mkRat_eq_div]
  have h1 := qd_ne hx
  have h2 := qd_ne hd
  have e : ((y.num.toNat : Nat) : Rat) = (y.num : Rat) := by
    rw [← Rat.intCast_natCast, Int.toNat_of_nonneg (by omega)]
  have h3 : (y.num : Rat) ≠ 0 := by
    intro z
    have : (y.num : Rat) = ((0 : Int) : Rat) := z
    have := Rat.intCast_inj.mp this
    omega
  rw [Rat.intCast_mul, Rat.natCast_mul, Rat.intCast_natCast, e]
  grind
end LwM
end
/-! LwBd -/
section
set_option Elab.async false
namespace LwM
open Kp432
/-! sizes: the denominator divides D, the size is at most M -/
structure Bd (D M : Nat) (x : Fraction) : Prop where
  pos : 0 < x.den
  dvd : x.den ∣ D
  abs : x.num.natAbs ≤ M * x.den
theorem Bd.mono {D D' M M' : Nat} {x : Fraction} (h : Bd D M x) (hd : D ∣ D') (hm : M ≤ M') : Bd D' M' x :=
  ⟨h.pos, Nat.dvd_trans h.dvd hd, Nat.le_trans h.abs (Nat.mul_le_mul_right _ hm)⟩
/-- what fraction makes of n / d, where n / d = n' / E in value -/
theorem den_fraction_dvd {n : Int} {d E : Nat} {n' : Int} (h : 0 < d) (e : n * (E : Int) = n' * (d : Int)) : (fraction n d).den ∣ E := by
  have g := gcd_pos_of (n := n) h
  rw [fraction_eq h]
  show d / Nat.gcd n.natAbs d ∣ E
  obtain ⟨a, ha⟩ : (Nat.gcd n.natAbs d : Int) ∣ n := Int.ofNat_dvd_left.mpr (Nat.gcd_dvd_left _ _)
  obtain ⟨b, hb⟩ := Nat.gcd_dvd_right n.natAbs d
  have e2 : d / Nat.gcd n.natAbs d = b := by
    conv => lhs; lhs; rw [hb]
    exact Nat.mul_div_cancel_left _ g
  rw [e2]
  have cop : Nat.gcd a.natAbs b = 1 := by
    have z := (fraction_nrm (n := n) h).cop
    rw [fraction_eq h] at z
    have e1 : n / (Nat.gcd n.natAbs d : Int) = a := by
      conv => lhs; lhs; rw [ha]
      exact Int.mul_ediv_cancel_left _ (by omega)
    have z' : Nat.gcd (n / (Nat.gcd n.natAbs d : Int)).natAbs (d / Nat.gcd n.natAbs d) = 1 := z
    rw [e1, e2] at z'
    exact z'
  have e3 : a * (E : Int) = n' * (b : Int) := by
    have gz : (Nat.gcd n.natAbs d : Int) ≠ 0 := by omega
    have : (Nat.gcd n.natAbs d : Int) * (a * E) = (Nat.gcd n.natAbs d : Int) * (n' * b) := by
      have hb' : (d : Int) = (Nat.gcd n.natAbs d : Int) * (b : Int) := by rw [← Int.natCast_mul, ← hb]
      calc (Nat.gcd n.natAbs d : Int) * (a * E) = n * E := by
            conv => rhs; lhs; rw [ha]
            rw [Int.mul_assoc]
        _ = n' * d := e
        _ = _ := by
            rw [hb']
            grind
    exact Int.eq_of_mul_eq_mul_left gz this
  have e4 : b ∣ a.natAbs * E := by
    have z : (b : Int) ∣ a * (E : Int) := ⟨n', by rw [e3, Int.mul_comm]⟩
    have := Int.natAbs_dvd_natAbs.mpr z
    rw [Int.natAbs_mul] at this
    exact this
  exact (Nat.Coprime.dvd_of_dvd_mul_left (Nat.Coprime.symm cop) e4)
/-- the size in lowest terms -/
theorem abs_fraction {n : Int} {d M : Nat} (h : 0 < d) (hm : n.natAbs ≤ M * d) : (fraction n d).num.natAbs ≤ M * (fraction n d).den := by
  have g := gcd_pos_of (n := n) h
  rw [fraction_eq h]
  show (n / (Nat.gcd n.natAbs d : Int)).natAbs ≤ M * (d / Nat.gcd n.natAbs d)
  have e : (n / (Nat.gcd n.natAbs d : Int)).natAbs = n.natAbs / Nat.gcd n.natAbs d := by
    rw [Int.natAbs_ediv_of_dvd (Int.ofNat_dvd_left.mpr (Nat.gcd_dvd_left _ _))]
    rfl
  rw [e]
  obtain ⟨b, hb⟩ := Nat.gcd_dvd_right n.natAbs d
  have e2 : d / Nat.gcd n.natAbs d = b := by
    conv => lhs; lhs; rw [hb]
    exact Nat.mul_div_cancel_left _ g
  rw [e2]
  apply Nat.div_le_of_le_mul
  calc n.natAbs ≤ M * d := hm
    _ = M * (Nat.gcd n.natAbs d * b) := by
      conv => lhs; rhs; rw [hb]
    _ = _ := by grind
theorem bd_fraction {n : Int} {d D M : Nat} (h : 0 < d) (hd : d ∣ D) (hm : n.natAbs ≤ M * d) : Bd D M (fraction n d) := by
  refine ⟨(fraction_nrm h).pos, ?_, abs_fraction h hm⟩
  obtain ⟨k, rfl⟩ := hd
  exact den_fraction_dvd h (n' := n * k) (by rw [Int.natCast_mul]; grind)
theorem bd_ofNat {n M : Nat} (h : n ≤ M) : Bd 1 M (ofNat n) := ⟨Nat.one_pos, Nat.dvd_refl _, by show ((n : Int)).natAbs ≤ M * 1; omega⟩
theorem bd_add {D M N : Nat} {x y : Fraction} (hx : Bd D M x) (hy : Bd D N y) : Bd D (M + N) (add x y) := by
  have hp := Nat.mul_pos hx.pos hy.pos
  obtain ⟨a, ha⟩ := hx.dvd
  obtain ⟨b, hb⟩ := hy.dvd
  refine ⟨(fraction_nrm hp).pos, ?_, abs_fraction hp ?_⟩
  · refine den_fraction_dvd hp (n' := x.num * a + y.num * b) ?_
    rw [Int.natCast_mul]
    have ha' : (D : Int) = x.den * a := by rw [ha, Int.natCast_mul]
    have hb' : (D : Int) = y.den * b := by rw [hb, Int.natCast_mul]
    grind
  · have t := Int.natAbs_add_le (x.num * y.den) (y.num * x.den)
    rw [Int.natAbs_mul, Int.natAbs_mul, Int.natAbs_natCast, Int.natAbs_natCast] at t
    have h1 := Nat.mul_le_mul_right y.den hx.abs
    have h2 := Nat.mul_le_mul_right x.den hy.abs
    have e : (M + N) * (x.den * y.den) = M * x.den * y.den + N * y.den * x.den := by grind
    omega
theorem bd_sub {D M N : Nat} {x y : Fraction} (hx : Bd D M x) (hy : Bd D N y) : Bd D (M + N) (sub x y) := by
  have hp := Nat.mul_pos hx.pos hy.pos
  obtain ⟨a, ha⟩ := hx.dvd
  obtain ⟨b, hb⟩ := hy.dvd
  refine ⟨(fraction_nrm hp).pos, ?_, abs_fraction hp ?_⟩
  · refine den_fraction_dvd hp (n' := x.num * a - y.num * b) ?_
    rw [Int.natCast_mul]
    have ha' : (D : Int) = x.den * a := by rw [ha, Int.natCast_mul]
    have hb' : (D : Int) = y.den * b := by rw [hb, Int.natCast_mul]
    grind
  · have t := Int.natAbs_sub_le (x.num * y.den) (y.num * x.den)
    rw [Int.natAbs_mul, Int.natAbs_mul, Int.natAbs_natCast, Int.natAbs_natCast] at t
    have h1 := Nat.mul_le_mul_right y.den hx.abs
    have h2 := Nat.mul_le_mul_right x.den hy.abs
    have e : (M + N) * (x.den * y.den) = M * x.den * y.den + N * y.den * x.den := by grind
    omega
theorem bd_mul {D E M N : Nat} {x y : Fraction} (hx : Bd D M x) (hy : Bd E N y) : Bd (D * E) (M * N) (mul x y) := by
  have hp := Nat.mul_pos hx.pos hy.pos
  refine bd_fraction hp (Nat.mul_dvd_mul hx.dvd hy.dvd) ?_
  rw [Int.natAbs_mul]
  have := Nat.mul_le_mul hx.abs hy.abs
  have e : M * x.den * (N * y.den) = M * N * (x.den * y.den) := by grind
  omega
theorem bd_square {D M : Nat} {x : Fraction} (hx : Bd D M x) : Bd (D * D) (M * M) (square x) := bd_mul hx hx
theorem bd_over {D M N L : Nat} {x y : Fraction} (hx : Bd D M x) (h0 : 0 < y.num) (hd : y.num.toNat ∣ N) (hl : y.den ≤ L) : Bd (D * N) (M * L) (over x y) := by
  have hp : 0 < x.den * y.num.toNat := Nat.mul_pos hx.pos (by omega)
  refine bd_fraction hp (Nat.mul_dvd_mul hx.dvd hd) ?_
  rw [Int.natAbs_mul, Int.natAbs_natCast]
  have h1 := Nat.mul_le_mul hx.abs hl
  have h2 : 1 ≤ y.num.toNat := by omega
  have e : M * x.den * L = M * L * x.den := by grind
  have h3 : M * L * x.den ≤ M * L * (x.den * y.num.toNat) := Nat.mul_le_mul_left _ (Nat.le_mul_of_pos_right _ (by omega))
  omega
/-- a sum -/
theorem bd_foldl {D M : Nat} : ∀ (l : List Fraction) (N : Nat) (z : Fraction), Bd D N z → (∀ x ∈ l, Bd D M x) → Bd D (N + l.length * M) (l.foldl add z)
  | [], N, z, hz, _ => by simpa using hz
  | x :: l, N, z, hz, h => by
    have r := bd_foldl (D := D) (M := M) l (N + M) (add z x) (bd_add hz (h x List.mem_cons_self)) fun y hy => h y (List.mem_cons_of_mem _ hy)
    have e : N + M + l.length * M = N + (x :: l).length * M := by
      rw [List.length_cons]
      grind
    rw [e] at r
    exact r
theorem bd_total {D M n : Nat} {l : List Fraction} (h : ∀ x ∈ l, Bd D M x) (hn : l.length ≤ n) : Bd D (n * M) (total l) := by
  have r := bd_foldl (D := D) l 0 (ofNat 0) ((bd_ofNat (Nat.le_refl 0)).mono (Nat.one_dvd D) (Nat.le_refl 0)) h
  rw [Nat.zero_add] at r
  exact r.mono (Nat.dvd_refl _) (Nat.mul_le_mul_right _ hn)
end LwM
end
/-! LwMean -/
section
set_option Elab.async false
namespace LwM
open Kp432
/-! means and variances, as the program reckons them -/
def pmean (l : List Fraction) : Fraction := over (total l) (ofNat l.length)
def psq (l : List Fraction) : List Fraction := l.map fun t => square (sub t (pmean l))
def pvar (l : List Fraction) : Fraction := over (total (psq l)) (ofNat ((l.length - 1) * l.length))
theorem ofNat_num (n : Nat) : (ofNat n).num = (n : Int) := rfl
theorem pos_total {l : List Fraction} (h : ∀ x ∈ l, 0 < x.den) : 0 < (total l).den := by
  have key : ∀ (l : List Fraction) (z : Fraction), 0 < z.den → (∀ x ∈ l, 0 < x.den) → 0 < (l.foldl add z).den := by
    intro l
    induction l with
    | nil => intro z hz _; exact hz
    | cons x l ih => intro z hz h; exact ih (add z x) (nrm_add hz (h x List.mem_cons_self)).pos fun y hy => h y (List.mem_cons_of_mem _ hy)
  exact key l (ofNat 0) Nat.one_pos h
theorem one_over {n : Nat} (h : 0 < n) : fraction 1 n = ⟨1, n⟩ := by
  rw [fraction_eq h]
  show (⟨1 / ((Nat.gcd 1 n : Nat) : Int), n / Nat.gcd 1 n⟩ : Fraction) = ⟨1, n⟩
  rw [Nat.gcd_one_left, Nat.div_one]
  rfl
theorem over_ofNat {x : Fraction} {n : Nat} (h : 0 < n) : over x (ofNat n) = mul x (fraction 1 n) := by
  rw [one_over h]
  unfold over mul
  show fraction (x.num * ((1 : Nat) : Int)) (x.den * (n : Int).toNat) = fraction (x.num * 1) (x.den * n)
  rfl
theorem pmean_eq {l : List Fraction} (h : 0 < l.length) : pmean l = mean l := by
  unfold pmean mean
  cases l with
  | nil => exact absurd h (by simp)
  | cons x l =>
    rw [if_neg (by simp)]
    exact over_ofNat h
theorem q_one {n : Nat} (h : 0 < n) : q (fraction 1 n) = 1 / (n : Rat) := by
  rw [one_over h, q_div]
  rfl
theorem pvar_eq {l : List Fraction} (h : 2 ≤ l.length) (hp : ∀ x ∈ l, 0 < x.den) : pvar l = varianceOfMean l := by
  have n1 : 0 < l.length - 1 := by omega
  have n2 : 0 < l.length := by omega
  have n3 : 0 < (l.length - 1) * l.length := Nat.mul_pos n1 n2
  have eS : total (psq l) = total (l.map fun x => square (sub x (mean l))) := by
    unfold psq
    rw [pmean_eq n2]
  unfold pvar varianceOfMean sampleVariance
  rw [over_ofNat n3, eS]
  have pm : 0 < (mean l).den := by
    rw [← pmean_eq n2]
    exact (nrm_over (pos_total hp) (by rw [ofNat_num]; omega)).pos
  have pS : 0 < (total (l.map fun x => square (sub x (mean l)))).den := pos_total fun y hy => by
    obtain ⟨x, hx, rfl⟩ := List.mem_map.mp hy
    have a := (nrm_sub (hp x hx) pm).pos
    exact (nrm_mul a a).pos
  have p1 : 0 < (fraction 1 (l.length - 1)).den := (fraction_nrm n1).pos
  have p2 : 0 < (fraction 1 l.length).den := (fraction_nrm n2).pos
  have p3 : 0 < (fraction 1 ((l.length - 1) * l.length)).den := (fraction_nrm n3).pos
  have p4 := (nrm_mul pS p1)
  refine Nrm.ext (nrm_mul pS p3) (nrm_mul p4.pos p2) ?_
  rw [q_mul pS p3, q_mul p4.pos p2, q_mul pS p1, q_one n1, q_one n2, q_one n3, Rat.natCast_mul]
  have a1 : ((l.length - 1 : Nat) : Rat) ≠ 0 := fun z => by
    have := Rat.natCast_inj.mp (show ((l.length - 1 : Nat) : Rat) = ((0 : Nat) : Rat) from z)
    omega
  have a2 : ((l.length : Nat) : Rat) ≠ 0 := fun z => by
    have := Rat.natCast_inj.mp (show ((l.length : Nat) : Rat) = ((0 : Nat) : Rat) from z)
    omega
  grind
theorem bd_pmean {D M n : Nat} {l : List Fraction} (h : ∀ x ∈ l, Bd D M x) (h0 : 0 < l.length) (hn : l.length ≤ n) : Bd (D * l.length) (n * M) (pmean l) := by
  have r := bd_over (L := 1) (bd_total h hn) (show 0 < (ofNat l.length).num by rw [ofNat_num]; omega) (N := l.length) (by rw [ofNat_num]; exact Nat.dvd_refl _) (Nat.le_refl 1)
  rw [Nat.mul_one] at r
  exact r
theorem bd_psq {D M n : Nat} {l : List Fraction} (h : ∀ x ∈ l, Bd D M x) (h0 : 0 < l.length) (hn : l.length ≤ n) :
    ∀ y ∈ psq l, Bd (D * l.length * (D * l.length)) ((M + n * M) * (M + n * M)) y := fun y hy => by
  obtain ⟨x, hx, rfl⟩ := List.mem_map.mp hy
  exact bd_square (bd_sub ((h x hx).mono (Nat.dvd_mul_right _ _) (Nat.le_refl _)) (bd_pmean h h0 hn))
end LwM
end
/-! LwGood -/
section
set_option Elab.async false
namespace LwM
open Kp432
/-! what holds of every study, and how large its numbers get -/
def prod (l : List Nat) : Nat := l.foldr (· * ·) 1
theorem prod_nil : prod [] = 1 := rfl
theorem prod_cons (x : Nat) (l : List Nat) : prod (x :: l) = x * prod l := rfl
theorem dvd_prod {x : Nat} : ∀ {l : List Nat}, x ∈ l → x ∣ prod l
  | y :: l, h => by
    rw [prod_cons]
    rcases List.mem_cons.mp h with rfl | h
    · exact Nat.dvd_mul_right _ _
    · exact Nat.dvd_trans (dvd_prod h) (Nat.dvd_mul_left _ _)
theorem prod_pos : ∀ {l : List Nat}, (∀ x ∈ l, 0 < x) → 0 < prod l
  | [], _ => Nat.one_pos
  | y :: l, h => Nat.mul_pos (h y List.mem_cons_self) (prod_pos fun x hx => h x (List.mem_cons_of_mem _ hx))
theorem prod_le {B n : Nat} (hB : 0 < B) : ∀ {l : List Nat}, (∀ x ∈ l, x ≤ B) → l.length ≤ n → prod l ≤ B ^ n
  | [], _, _ => Nat.pow_pos hB
  | y :: l, h, hn => by
    have hn' : l.length ≤ n - 1 := by rw [List.length_cons] at hn; omega
    have r := prod_le (n := n - 1) hB (l := l) (fun x hx => h x (List.mem_cons_of_mem _ hx)) hn'
    have e : B ^ n = B * B ^ (n - 1) := by
      have : n = (n - 1) + 1 := by rw [List.length_cons] at hn; omega
      conv => lhs; rw [this]
      rw [Nat.pow_succ, Nat.mul_comm]
    rw [prod_cons, e]
    exact Nat.mul_le_mul (h y List.mem_cons_self) r
/-- a propensity -/
structure Pro (x : Fraction) : Prop where
  pos : 0 < x.num
  num : x.num ≤ 1000
  dpos : 0 < x.den
  den : x.den ≤ 5000
/-- an estimated reward -/
structure Est (x : Fraction) : Prop where
  dpos : 0 < x.den
  den : x.den ≤ 40
  abs : x.num.natAbs ≤ 100 * x.den
structure GoodRow (a : Nat) (r : List Nat) : Prop where
  len : r.length = a
  le : ∀ n ∈ r, n ≤ 1000
  pos : 0 < r.sum
structure GoodPol (c a : Nat) (p : Policy) : Prop where
  len : p.length = c
  row : ∀ r ∈ p, GoodRow a r
structure GoodEv (c a : Nat) (e : Event) : Prop where
  ctx : e.context < c
  act : e.action < a
  rew : e.reward ≤ 100
  pro : Pro e.propensity
structure GoodMod (c a : Nat) (m : List (List Fraction)) : Prop where
  len : m.length = c
  row : ∀ r ∈ m, r.length = a ∧ ∀ x ∈ r, Est x
structure Good (s : Study) : Prop where
  c1 : 1 ≤ s.contexts
  c6 : s.contexts ≤ 6
  a1 : 1 ≤ s.actions
  a5 : s.actions ≤ 5
  evn : s.events.length ≤ 40
  ev : ∀ e ∈ s.events, GoodEv s.contexts s.actions e
  poln : s.policies.length = 3
  pol : ∀ p ∈ s.policies, GoodPol s.contexts s.actions p
  mod : GoodMod s.contexts s.actions s.model
  twn : s.contextWeights.length = s.contexts
  tw : ∀ n ∈ s.contextWeights, 1 ≤ n ∧ n ≤ 1000
  trn : s.truth.length = s.contexts
  tr : ∀ r ∈ s.truth, r.length = s.actions ∧ ∀ n ∈ r, n ≤ 100
theorem getD_mem {α : Type} {l : List α} {i : Nat} {d : α} (h : i < l.length) : l.getD i d ∈ l := by
  rw [List.getD_eq_getElem?_getD, List.getElem?_eq_getElem h, Option.getD_some]
  exact List.getElem_mem h
theorem getD_le_sum : ∀ (l : List Nat) (i : Nat), l.getD i 0 ≤ l.sum
  | [], i => by simp
  | x :: l, 0 => by
    rw [List.sum_cons, List.getD_cons_zero]
    omega
  | x :: l, i + 1 => by
    rw [List.sum_cons, List.getD_cons_succ]
    have := getD_le_sum l i
    omega
theorem sum_le : ∀ {l : List Nat} {B : Nat}, (∀ x ∈ l, x ≤ B) → l.sum ≤ l.length * B
  | [], B, _ => by simp
  | x :: l, B, h => by
    rw [List.sum_cons, List.length_cons]
    have r := sum_le (l := l) (B := B) fun y hy => h y (List.mem_cons_of_mem _ hy)
    have := h x List.mem_cons_self
    have e : (l.length + 1) * B = l.length * B + B := by grind
    omega
section
variable {s : Study} {p : Policy} {c a : Nat}
theorem GoodPol.at_ (h : GoodPol s.contexts s.actions p) (hc : c < s.contexts) : GoodRow s.actions (weightsFor p c) := h.row _ (getD_mem (by rw [h.len]; exact hc))
theorem bd_chance (h : GoodPol s.contexts s.actions p) (hc : c < s.contexts) : Bd (weightsFor p c).sum 1 (chance p c a) := by
  have r := h.at_ hc
  refine bd_fraction r.pos (Nat.dvd_refl _) ?_
  rw [Int.natAbs_natCast, Nat.one_mul]
  exact getD_le_sum _ _
theorem chance_num_nonneg : 0 ≤ (chance p c a).num := by
  unfold chance fraction
  simp only
  split
  · exact Int.le_refl 0
  · exact Int.ediv_nonneg (by omega) (by omega)
/-- a chance that isn't 0 is a propensity -/
theorem chance_pro (h : GoodPol s.contexts s.actions p) (hc : c < s.contexts) (h5 : s.actions ≤ 5) (n0 : ¬ (chance p c a).num = 0) : Pro (chance p c a) := by
  have r := h.at_ hc
  have nn := chance_num_nonneg (p := p) (c := c) (a := a)
  have s5 := sum_le r.le
  rw [r.len] at s5
  have s5' : (weightsFor p c).sum ≤ 5000 := Nat.le_trans s5 (by omega)
  have b := bd_chance (a := a) h hc
  refine ⟨by omega, ?_, b.pos, Nat.le_trans (Nat.le_of_dvd r.pos b.dvd) s5'⟩
  have e : chance p c a = fraction ((weightsFor p c).getD a 0 : Nat) (weightsFor p c).sum := rfl
  rw [e, fraction_eq r.pos]
  show ((weightsFor p c).getD a 0 : Nat) / ((Nat.gcd _ _ : Nat) : Int) ≤ (1000 : Int)
  have hle : (weightsFor p c).getD a 0 ≤ 1000 := by
    by_cases hi : a < (weightsFor p c).length
    · exact r.le _ (getD_mem hi)
    · rw [List.getD_eq_getElem?_getD, List.getElem?_eq_none (by omega)]
      simp
  have := Int.ediv_le_self ((Nat.gcd ((((weightsFor p c).getD a 0 : Nat) : Int)).natAbs (weightsFor p c).sum : Nat) : Int) (show (0 : Int) ≤ (((weightsFor p c).getD a 0 : Nat) : Int) by omega)
  omega
end
/-- what every term's denominator divides -/
def bigD (s : Study) (p : Policy) (ps : List Fraction) : Nat := 100 * (prod (p.map List.sum) * prod (s.model.flatten.map (·.den)) * prod (ps.map (·.num.toNat)))
theorem bigD_pos {s : Study} {p : Policy} {ps : List Fraction} (h : Good s) (hp : GoodPol s.contexts s.actions p) (hps : ∀ x ∈ ps, Pro x) : 0 < bigD s p ps := by
  refine Nat.mul_pos (by decide) (Nat.mul_pos (Nat.mul_pos (prod_pos fun x hx => ?_) (prod_pos fun x hx => ?_)) (prod_pos fun x hx => ?_))
  · obtain ⟨r, hr, rfl⟩ := List.mem_map.mp hx
    exact (hp.row r hr).pos
  · obtain ⟨y, hy, rfl⟩ := List.mem_map.mp hx
    obtain ⟨r, hr, hy⟩ := List.mem_flatten.mp hy
    exact ((h.mod.row r hr).2 y hy).dpos
  · obtain ⟨y, hy, rfl⟩ := List.mem_map.mp hx
    have := (hps y hy).pos
    omega
theorem flatten_len {α : Type} {a : Nat} : ∀ {l : List (List α)} {c : Nat}, l.length ≤ c → (∀ r ∈ l, r.length ≤ a) → l.flatten.length ≤ c * a
  | [], c, _, _ => by simp
  | r :: l, c, hc, h => by
    rw [List.flatten_cons, List.length_append]
    rw [List.length_cons] at hc
    have q := flatten_len (l := l) (c := c - 1) (by omega) fun x hx => h x (List.mem_cons_of_mem _ hx)
    have := h r List.mem_cons_self
    have e : c * a = (c - 1) * a + a := by
      have : c = (c - 1) + 1 := by omega
      conv => lhs; rw [this]
      grind
    omega
theorem bigD_lt {s : Study} {p : Policy} {ps : List Fraction} (h : Good s) (hp : GoodPol s.contexts s.actions p) (hps : ∀ x ∈ ps, Pro x) (hn : ps.length ≤ 40) : bigD s p ps < 2 ^ 650 := by
  have h1 : prod (p.map List.sum) ≤ 5000 ^ 6 := by
    refine prod_le (by decide) (fun x hx => ?_) (by rw [List.length_map, hp.len]; exact h.c6)
    obtain ⟨r, hr, rfl⟩ := List.mem_map.mp hx
    have g := hp.row r hr
    have := sum_le g.le
    rw [g.len] at this
    have := h.a5
    omega
  have h2 : prod (s.model.flatten.map (·.den)) ≤ 40 ^ 30 := by
    refine prod_le (by decide) (fun x hx => ?_) ?_
    · obtain ⟨y, hy, rfl⟩ := List.mem_map.mp hx
      obtain ⟨r, hr, hy⟩ := List.mem_flatten.mp hy
      exact ((h.mod.row r hr).2 y hy).den
    · rw [List.length_map]
      refine flatten_len (c := 6) (a := 5) (by rw [h.mod.len]; exact h.c6) fun r hr => ?_
      rw [(h.mod.row r hr).1]
      exact h.a5
  have h3 : prod (ps.map (·.num.toNat)) ≤ 1000 ^ 40 := by
    refine prod_le (by decide) (fun x hx => ?_) (by rw [List.length_map]; exact hn)
    obtain ⟨y, hy, rfl⟩ := List.mem_map.mp hx
    have := (hps y hy).num
    omega
  have h4 := Nat.mul_le_mul_left 100 (Nat.mul_le_mul (Nat.mul_le_mul h1 h2) h3)
  refine Nat.lt_of_le_of_lt h4 ?_
  decide +kernel
end LwM
end
/-! LwTerm -/
section
set_option Elab.async false
set_option linter.unusedVariables false
namespace LwM
open Kp432
/-! the terms of the estimators: their sizes -/
theorem Pro.toNat {x : Fraction} (h : Pro x) : 0 < x.num.toNat ∧ x.num.toNat ≤ 1000 := by
  have := h.pos
  have := h.num
  omega
section
variable {s : Study} {p : Policy} {c a : Nat}
theorem est_at (h : Good s) (hc : c < s.contexts) (ha : a < s.actions) : Est (estimate s c a) ∧ estimate s c a ∈ s.model.flatten := by
  have hm : s.model.getD c [] ∈ s.model := getD_mem (by rw [h.mod.len]; exact hc)
  have hr := h.mod.row _ hm
  have hx : (s.model.getD c []).getD a (ofNat 0) ∈ s.model.getD c [] := getD_mem (by rw [hr.1]; exact ha)
  exact ⟨hr.2 _ hx, List.mem_flatten.mpr ⟨_, hm, hx⟩⟩
theorem Est.bd {x : Fraction} (h : Est x) : Bd x.den 100 x := ⟨h.dpos, Nat.dvd_refl _, h.abs⟩
theorem bd_weight {e : Event} (hp : GoodPol s.contexts s.actions p) (he : GoodEv s.contexts s.actions e) : Bd ((weightsFor p e.context).sum * e.propensity.num.toNat) 5000 (weight p e) := by
  have r := bd_over (bd_chance (a := e.action) hp he.ctx) he.pro.pos (Nat.dvd_refl _) he.pro.den
  rw [Nat.one_mul] at r
  exact r
/-- the three parts of bigD -/
theorem dvd_big {s : Study} {p : Policy} {ps : List Fraction} {x y z : Nat} (hx : x ∣ prod (p.map List.sum)) (hy : y ∣ prod (s.model.flatten.map (·.den))) (hz : z ∣ prod (ps.map (·.num.toNat))) : x * y * z ∣ bigD s p ps :=
  Nat.dvd_trans (Nat.mul_dvd_mul (Nat.mul_dvd_mul hx hy) hz) (Nat.dvd_mul_left _ _)
theorem sum_dvd (hp : GoodPol s.contexts s.actions p) (hc : c < s.contexts) : (weightsFor p c).sum ∣ prod (p.map List.sum) :=
  dvd_prod (List.mem_map.mpr ⟨_, getD_mem (by rw [hp.len]; exact hc), rfl⟩)
theorem est_dvd (h : Good s) (hc : c < s.contexts) (ha : a < s.actions) : (estimate s c a).den ∣ prod (s.model.flatten.map (·.den)) := dvd_prod (List.mem_map.mpr ⟨_, (est_at h hc ha).2, rfl⟩)
theorem pro_dvd {ps : List Fraction} {x : Fraction} (hx : x ∈ ps) : x.num.toNat ∣ prod (ps.map (·.num.toNat)) := dvd_prod (List.mem_map.mpr ⟨_, hx, rfl⟩)
/-- what the direct value adds up -/
def dparts (s : Study) (p : Policy) (c : Nat) : List Fraction := (List.range s.actions).map fun a => mul (chance p c a) (estimate s c a)
theorem bd_dparts {ps : List Fraction} (h : Good s) (hp : GoodPol s.contexts s.actions p) (hc : c < s.contexts) : ∀ x ∈ dparts s p c, Bd (bigD s p ps) 100 x := fun x hx => by
  obtain ⟨a, ha, rfl⟩ := List.mem_map.mp hx
  have ha' := List.mem_range.mp ha
  have r := bd_mul (bd_chance (a := a) hp hc) (est_at h hc ha').1.bd
  refine r.mono ?_ (Nat.le_refl _)
  have d := dvd_big (s := s) (p := p) (ps := ps) (sum_dvd hp hc) (est_dvd h hc ha') (Nat.one_dvd _)
  rw [Nat.mul_one] at d
  exact d
theorem bd_direct {ps : List Fraction} (h : Good s) (hp : GoodPol s.contexts s.actions p) (hc : c < s.contexts) : Bd (bigD s p ps) 500 (direct s p c) :=
  bd_total (n := 5) (bd_dparts h hp hc) (by unfold dparts; rw [List.length_map, List.length_range]; exact h.a5)
theorem bd_weight' {ps : List Fraction} {e : Event} (hp : GoodPol s.contexts s.actions p) (he : GoodEv s.contexts s.actions e) (hm : e.propensity ∈ ps) : Bd (bigD s p ps) 5000 (weight p e) := by
  refine (bd_weight hp he).mono ?_ (Nat.le_refl _)
  have d := dvd_big (s := s) (p := p) (ps := ps) (sum_dvd hp he.ctx) (Nat.one_dvd _) (pro_dvd hm)
  rw [Nat.mul_one] at d
  exact d
theorem bd_reward {n : Nat} (h : n ≤ 100) : Bd 1 100 (ofNat n) := bd_ofNat h
/-- what the doubly robust term adds -/
def corr (s : Study) (p : Policy) (e : Event) : Fraction := mul (weight p e) (sub (ofNat e.reward) (estimate s e.context e.action))
theorem bd_diff (h : Good s) {e : Event} (he : GoodEv s.contexts s.actions e) : Bd (estimate s e.context e.action).den 200 (sub (ofNat e.reward) (estimate s e.context e.action)) :=
  bd_sub ((bd_reward he.rew).mono (Nat.one_dvd _) (Nat.le_refl _)) (est_at h he.ctx he.act).1.bd
theorem bd_corr {ps : List Fraction} {e : Event} (h : Good s) (hp : GoodPol s.contexts s.actions p) (he : GoodEv s.contexts s.actions e) (hm : e.propensity ∈ ps) : Bd (bigD s p ps) 1000000 (corr s p e) := by
  refine (bd_mul (bd_weight hp he) (bd_diff h he)).mono ?_ (by decide)
  have d := dvd_big (s := s) (p := p) (ps := ps) (sum_dvd hp he.ctx) (est_dvd h he.ctx he.act) (pro_dvd hm)
  have e2 : (weightsFor p e.context).sum * e.propensity.num.toNat * (estimate s e.context e.action).den = (weightsFor p e.context).sum * (estimate s e.context e.action).den * e.propensity.num.toNat := by grind
  rw [e2]
  exact d
theorem bd_limit {l : Nat} (h : l ≤ 100000) : Bd 100 1000 (fraction (l : Nat) 100) := bd_fraction (by decide) (Nat.dvd_refl _) (by rw [Int.natAbs_natCast]; omega)
theorem bd_clipped {ps : List Fraction} {e : Event} {l : Nat} (hl : l ≤ 100000) (hp : GoodPol s.contexts s.actions p) (he : GoodEv s.contexts s.actions e) (hm : e.propensity ∈ ps) : Bd (bigD s p ps) 5000 (clipped (fraction (l : Nat) 100) (weight p e)) := by
  unfold clipped
  split
  · exact (bd_limit hl).mono (Nat.dvd_mul_right _ _) (by decide)
  · exact bd_weight' hp he hm
/-- any term -/
theorem bd_term {ps : List Fraction} {e : Event} {x : Estimator} {l : Nat} (h : Good s) (hp : GoodPol s.contexts s.actions p) (he : GoodEv s.contexts s.actions e) (hm : e.propensity ∈ ps) (hl : l ≤ 100000) (hx : x.limit = fraction (l : Nat) 100) :
    Bd (bigD s p ps) 1048576 (term s p x e) := by
  unfold term
  split
  · exact (bd_direct h hp he.ctx).mono (Nat.dvd_refl _) (by decide)
  · have r := bd_mul (bd_weight' (s := s) hp he hm) (bd_reward he.rew)
    rw [Nat.mul_one] at r
    exact r.mono (Nat.dvd_refl _) (by decide)
  · rw [hx]
    have r := bd_mul (bd_clipped (s := s) hl hp he hm) (bd_reward he.rew)
    rw [Nat.mul_one] at r
    exact r.mono (Nat.dvd_refl _) (by decide)
  · exact (bd_add (bd_direct (ps := ps) h hp he.ctx) (bd_corr h hp he hm)).mono (Nat.dvd_refl _) (by decide)
end
end LwM
end
/-! LwStep -/
section
set_option Elab.async false
set_option linter.unusedVariables false
namespace LwM
open Kp432
/-! every change keeps a study good -/
theorem set_mem {α : Type} {l : List α} {i : Nat} {x y : α} (h : y ∈ l.set i x) : y ∈ l ∨ y = x := List.mem_or_eq_of_mem_set h
section
variable {s : Study}
theorem good_event (h : Good s) {e : Event} (he : GoodEv s.contexts s.actions e) (hn : s.events.length < 40) : Good { s with events := s.events ++ [e] } :=
  { h with
    evn := by
      show (s.events ++ [e]).length ≤ 40
      rw [List.length_append]
      exact hn
    ev := fun x hx => by
      rcases List.mem_append.mp hx with hx | hx
      · exact h.ev x hx
      · rw [List.mem_singleton.mp hx]
        exact he }
theorem good_drop (h : Good s) : Good { s with events := s.events.dropLast } :=
  { h with
    evn := by
      show s.events.dropLast.length ≤ 40
      rw [List.length_dropLast]
      have := h.evn
      omega
    ev := fun x hx => h.ev x (List.dropLast_subset _ hx) }
theorem pol_at (h : Good s) {k : Nat} (hk : k < 3) : GoodPol s.contexts s.actions (policyAt s k) := h.pol _ (getD_mem (by rw [h.poln]; exact hk))
theorem good_weights (h : Good s) {k x : Nat} {l : List Nat} (hk : k < 3) (hl : GoodRow s.actions l) : Good { s with policies := s.policies.set k ((policyAt s k).set x l) } :=
  { h with
    poln := by
      show (s.policies.set k _).length = 3
      rw [List.length_set]
      exact h.poln
    pol := fun p hp => by
      rcases set_mem hp with hp | rfl
      · exact h.pol p hp
      · have g := pol_at h hk
        refine ⟨by rw [List.length_set]; exact g.len, fun r hr => ?_⟩
        rcases set_mem hr with hr | rfl
        · exact g.row r hr
        · exact hl }
theorem good_copy (h : Good s) {a b : Nat} (ha : a < 3) : Good { s with policies := s.policies.set b (policyAt s a) } :=
  { h with
    poln := by
      show (s.policies.set b _).length = 3
      rw [List.length_set]
      exact h.poln
    pol := fun p hp => by
      rcases set_mem hp with hp | rfl
      · exact h.pol p hp
      · exact pol_at h ha }
theorem est_nat {n : Nat} (h : n ≤ 100) : Est (ofNat n) := ⟨Nat.one_pos, by show 1 ≤ 40; decide, by show ((n : Int)).natAbs ≤ 100 * 1; omega⟩
theorem good_model (h : Good s) {x : Nat} {l : List Nat} (hl : l.length = s.actions) (h100 : ∀ n ∈ l, n ≤ 100) : Good { s with model := s.model.set x (l.map ofNat) } :=
  { h with
    mod := by
      refine ⟨by rw [List.length_set]; exact h.mod.len, fun r hr => ?_⟩
      rcases set_mem hr with hr | rfl
      · exact h.mod.row r hr
      · refine ⟨by rw [List.length_map]; exact hl, fun y hy => ?_⟩
        obtain ⟨n, hn, rfl⟩ := List.mem_map.mp hy
        exact est_nat (h100 n hn) }
theorem est_mean {l : List Event} (hn : l.length ≤ 40) (hr : ∀ e ∈ l, e.reward ≤ 100) : Est (meanReward l) := by
  unfold meanReward
  cases l with
  | nil => exact est_nat (by decide)
  | cons e l =>
    rw [if_neg (by simp)]
    have pos : 0 < (e :: l).length := by simp
    have b := bd_fraction (n := (((e :: l).map Event.reward).sum : Nat)) (D := (e :: l).length) (M := 100) pos (Nat.dvd_refl _) (by
      rw [Int.natAbs_natCast]
      have := sum_le (l := (e :: l).map Event.reward) (B := 100) fun x hx => by
        obtain ⟨y, hy, rfl⟩ := List.mem_map.mp hx
        exact hr y hy
      rw [List.length_map] at this
      omega)
    exact ⟨b.pos, Nat.le_trans (Nat.le_of_dvd pos b.dvd) hn, b.abs⟩
theorem good_fit (h : Good s) : Good { s with model := fit s } :=
  { h with
    mod := by
      refine ⟨by unfold fit; rw [List.length_map, List.length_range], fun r hr => ?_⟩
      obtain ⟨c, hc, rfl⟩ := List.mem_map.mp hr
      refine ⟨by rw [List.length_map, List.length_range], fun y hy => ?_⟩
      obtain ⟨a, ha, rfl⟩ := List.mem_map.mp hy
      have sub : ∀ f : Event → Bool, (s.events.filter f).length ≤ 40 := fun f => Nat.le_trans (List.length_filter_le _ _) h.evn
      have rew : ∀ f : Event → Bool, ∀ e ∈ s.events.filter f, e.reward ≤ 100 := fun f e he => (h.ev e ((List.mem_filter.mp he).1)).rew
      unfold fitted
      simp only
      split
      · exact est_mean (sub _) (rew _)
      · exact est_mean (sub _) (rew _) }
theorem good_truth (h : Good s) {x w : Nat} {l : List Nat} (hw : 1 ≤ w ∧ w ≤ 1000) (hl : l.length = s.actions) (h100 : ∀ n ∈ l, n ≤ 100) :
    Good { s with contextWeights := s.contextWeights.set x w, truth := s.truth.set x l } :=
  { h with
    twn := by
      show (s.contextWeights.set x w).length = _
      rw [List.length_set]
      exact h.twn
    tw := fun n hn => by
      rcases set_mem hn with hn | rfl
      · exact h.tw n hn
      · exact hw
    trn := by
      show (s.truth.set x l).length = _
      rw [List.length_set]
      exact h.trn
    tr := fun r hr => by
      rcases set_mem hr with hr | rfl
      · exact h.tr r hr
      · exact ⟨hl, h100⟩ }
theorem rep_mem {α : Type} {n : Nat} {x y : α} (h : y ∈ List.replicate n x) : y = x := (List.mem_replicate.mp h).2
def fresh (n k : Nat) : Study := ⟨n, k, [], List.replicate policyCount (List.replicate n (List.replicate k 1)), List.replicate n (List.replicate k (ofNat 0)), List.replicate n 1, List.replicate n (List.replicate k 0)⟩
theorem good_fresh {n k : Nat} (h1 : 1 ≤ n) (h2 : n ≤ 6) (h3 : 1 ≤ k) (h4 : k ≤ 5) : Good (fresh n k) where
  c1 := h1
  c6 := h2
  a1 := h3
  a5 := h4
  evn := Nat.zero_le _
  ev := fun e he => absurd (show e ∈ ([] : List Event) from he) (by simp)
  poln := List.length_replicate
  pol := fun p hp => by
    rw [rep_mem hp]
    refine ⟨List.length_replicate, fun r hr => ?_⟩
    rw [rep_mem hr]
    refine ⟨List.length_replicate, fun m hm => by rw [rep_mem hm]; decide, ?_⟩
    rw [List.sum_replicate_nat]
    omega
  mod := by
    refine ⟨List.length_replicate, fun r hr => ?_⟩
    rw [rep_mem hr]
    exact ⟨List.length_replicate, fun x hx => by rw [rep_mem hx]; exact est_nat (by decide)⟩
  twn := List.length_replicate
  tw := fun m hm => by rw [rep_mem hm]; decide
  trn := List.length_replicate
  tr := fun r hr => by
    rw [rep_mem hr]
    exact ⟨List.length_replicate, fun m hm => by rw [rep_mem hm]; decide⟩
end
end LwM
end
/-! LwPref -/
section
set_option Elab.async false
set_option linter.unusedVariables false
namespace LwM
open Kp432
/-! the preferred action: the first with the greatest weight -/
def pick (row : List Nat) (best a : Nat) : Nat := if row.getD best 0 < row.getD a 0 then a else best
theorem pick_first (row : List Nat) : ∀ k : Nat, k ≤ row.length → ∀ b, b = (List.range k).foldl (pick row) 0 →
    (∀ i, i < k → row.getD i 0 ≤ row.getD b 0) ∧ (∀ i, i < b → row.getD i 0 < row.getD b 0) ∧ (b < k ∨ (k = 0 ∧ b = 0))
  | 0, _, b, hb => by
    subst hb
    exact ⟨fun i h => absurd h (by omega), fun i h => absurd (show i < 0 from h) (by omega), .inr ⟨rfl, rfl⟩⟩
  | k + 1, hk, b, hb => by
    obtain ⟨h1, h2, h3⟩ := pick_first row k (by omega) _ rfl
    rw [List.range_succ, List.foldl_append] at hb
    generalize (List.range k).foldl (pick row) 0 = b0 at h1 h2 h3 hb
    have hb' : b = pick row b0 k := hb
    unfold pick at hb'
    by_cases c : row.getD b0 0 < row.getD k 0
    · rw [if_pos c] at hb'
      subst hb'
      refine ⟨fun i hi => ?_, fun i hi => ?_, .inl (by omega)⟩
      · by_cases e : i = b
        · rw [e]
          exact Nat.le_refl _
        · have := h1 i (by omega)
          omega
      · have := h1 i hi
        omega
    · rw [if_neg c] at hb'
      subst hb'
      refine ⟨fun i hi => ?_, h2, .inl (by omega)⟩
      by_cases e : i = k
      · rw [e]
        omega
      · exact h1 i (by omega)
theorem preferred_is {p : Policy} {c j : Nat} (hj : j < (weightsFor p c).length) (hmax : ∀ n ∈ weightsFor p c, n ≤ (weightsFor p c).getD j 0) (hfirst : ∀ i, i < j → (weightsFor p c).getD i 0 < (weightsFor p c).getD j 0) : preferred p c = j := by
  obtain ⟨h1, h2, h3⟩ := pick_first (weightsFor p c) (weightsFor p c).length (Nat.le_refl _) _ rfl
  have e : preferred p c = (List.range (weightsFor p c).length).foldl (pick (weightsFor p c)) 0 := rfl
  rw [← e] at h1 h2 h3
  have a1 := h1 j hj
  rcases Nat.lt_trichotomy (preferred p c) j with h | h | h
  · have := hfirst _ h
    omega
  · exact h
  · have := h2 _ h
    have hb : preferred p c < (weightsFor p c).length := by omega
    have := hmax _ (getD_mem (d := 0) hb)
    omega
theorem sum_cast : ∀ l : List Nat, (l.map fun n : Nat => (n : Int)).sum = ((l.sum : Nat) : Int)
  | [] => rfl
  | x :: l => by
    rw [List.map_cons, List.sum_cons, List.sum_cons, sum_cast l, Int.natCast_add]
end LwM
end
/-! LwOps -/
section
set_option Elab.async false
set_option linter.unusedVariables false
namespace LwM
open Kp432
/-! one step of the specification, way by way -/
section
variable {s : Study} {c x r n d k l kd : Nat}
theorem dec_yes (h : c < s.contexts ∧ x < s.actions) : isDecision s c x = true := by
  unfold isDecision
  rw [decide_eq_true h.1, decide_eq_true h.2]
  rfl
theorem dec_no (h : ¬ (c < s.contexts ∧ x < s.actions)) : isDecision s c x = false := by
  unfold isDecision
  rw [Bool.and_eq_false_iff, decide_eq_false_iff_not, decide_eq_false_iff_not]
  omega
theorem pol_yes (h : k < 3) : isPolicy k = true := decide_eq_true h
theorem pol_no (h : ¬ k < 3) : isPolicy k = false := decide_eq_false h
theorem ne_false {b : Bool} (h : b = true) : ¬ b = false := by simp [h]
-- addEvent
theorem add_2 (h : ¬ (c < s.contexts ∧ x < s.actions)) : step (some s) (.addEvent c x r n d) = (some s, single (-2)) := if_pos (dec_no h)
def addOk (r n d : Nat) : Bool := decide (r ≤ 100) && decide (1 ≤ n) && decide (n ≤ d) && decide (d ≤ 1000)
theorem addOk_iff : addOk r n d = true ↔ r ≤ 100 ∧ 1 ≤ n ∧ n ≤ d ∧ d ≤ 1000 := by
  unfold addOk
  simp only [Bool.and_eq_true, decide_eq_true_eq]
  omega
theorem add_22 (h : c < s.contexts ∧ x < s.actions) (h2 : ¬ (r ≤ 100 ∧ 1 ≤ n ∧ n ≤ d ∧ d ≤ 1000)) : step (some s) (.addEvent c x r n d) = (some s, single (-22)) :=
  (if_neg (ne_false (dec_yes h))).trans (if_pos (show addOk r n d = false by rw [← Bool.not_eq_true, addOk_iff]; exact h2))
theorem add_28 (h : c < s.contexts ∧ x < s.actions) (h2 : r ≤ 100 ∧ 1 ≤ n ∧ n ≤ d ∧ d ≤ 1000) (h3 : ¬ s.events.length < 40) : step (some s) (.addEvent c x r n d) = (some s, single (-28)) :=
  (if_neg (ne_false (dec_yes h))).trans ((if_neg (ne_false (show addOk r n d = true from addOk_iff.mpr h2))).trans (if_pos (by show 40 ≤ s.events.length; omega)))
theorem add_ok (h : c < s.contexts ∧ x < s.actions) (h2 : r ≤ 100 ∧ 1 ≤ n ∧ n ≤ d ∧ d ≤ 1000) (h3 : s.events.length < 40) :
    step (some s) (.addEvent c x r n d) = (some { s with events := s.events ++ [⟨c, x, r, fraction (n : Nat) d⟩] }, ⟨((s.events.length + 1 : Nat) : Int), []⟩) :=
  (if_neg (ne_false (dec_yes h))).trans ((if_neg (ne_false (show addOk r n d = true from addOk_iff.mpr h2))).trans (if_neg (by show ¬ 40 ≤ s.events.length; omega)))
theorem pro_new (h2 : 1 ≤ n ∧ n ≤ d ∧ d ≤ 1000) : Pro (fraction (n : Nat) d) := by
  have d0 : 0 < d := by omega
  have b := bd_fraction (n := (n : Nat)) (D := d) (M := 1) d0 (Nat.dvd_refl _) (by rw [Int.natAbs_natCast]; omega)
  have N := fraction_nrm (n := ((n : Nat) : Int)) d0
  have g := gcd_pos_of (n := ((n : Nat) : Int)) d0
  have hd := Nat.le_of_dvd d0 b.dvd
  have e : (fraction (n : Nat) d).num = ((n / Nat.gcd n d : Nat) : Int) := by
    rw [fraction_eq d0]
    show ((n : Nat) : Int) / ((Nat.gcd ((n : Nat) : Int).natAbs d : Nat) : Int) = _
    rw [Int.natAbs_natCast]
    rfl
  have q1 : n / Nat.gcd n d ≤ n := Nat.div_le_self _ _
  have q2 : 0 < n / Nat.gcd n d := Nat.div_pos (Nat.le_of_dvd (by omega) (Nat.gcd_dvd_left _ _)) (Nat.gcd_pos_of_pos_left _ (by omega))
  exact ⟨by rw [e]; omega, by rw [e]; omega, N.pos, by omega⟩
-- removeLast
theorem rem_33 (h : s.events = []) : step (some s) .removeLast = (some s, single (-33)) := if_pos (by rw [h]; rfl)
theorem rem_ok (h : 1 ≤ s.events.length) : step (some s) .removeLast = (some { s with events := s.events.dropLast }, ⟨((s.events.length - 1 : Nat) : Int), []⟩) := if_neg (by
  rw [List.isEmpty_iff]
  intro e
  rw [e] at h
  simp at h)
-- logEvent
theorem log_2 (h : ¬ (k < 3 ∧ c < s.contexts ∧ x < s.actions)) : step (some s) (.logEvent k c x r) = (some s, single (-2)) := if_pos (by
  by_cases hk : k < 3
  · exact .inr (dec_no fun z => h ⟨hk, z⟩)
  · exact .inl (pol_no hk))
theorem log_c (h : k < 3 ∧ c < s.contexts ∧ x < s.actions) : ¬ (isPolicy k = false ∨ isDecision s c x = false) := by
  rw [pol_yes h.1, dec_yes h.2]
  simp
theorem log_22 (h : k < 3 ∧ c < s.contexts ∧ x < s.actions) (h2 : ¬ r ≤ 100) : step (some s) (.logEvent k c x r) = (some s, single (-22)) := (if_neg (log_c h)).trans (if_pos (by omega))
theorem log_33 (h : k < 3 ∧ c < s.contexts ∧ x < s.actions) (h2 : r ≤ 100) (h3 : (chance (policyAt s k) c x).num = 0) : step (some s) (.logEvent k c x r) = (some s, single (-33)) :=
  (if_neg (log_c h)).trans ((if_neg (by omega)).trans (if_pos h3))
theorem log_28 (h : k < 3 ∧ c < s.contexts ∧ x < s.actions) (h2 : r ≤ 100) (h3 : ¬ (chance (policyAt s k) c x).num = 0) (h4 : ¬ s.events.length < 40) : step (some s) (.logEvent k c x r) = (some s, single (-28)) :=
  (if_neg (log_c h)).trans ((if_neg (by omega)).trans ((if_neg h3).trans (if_pos (by show 40 ≤ s.events.length; omega))))
theorem log_ok (h : k < 3 ∧ c < s.contexts ∧ x < s.actions) (h2 : r ≤ 100) (h3 : ¬ (chance (policyAt s k) c x).num = 0) (h4 : s.events.length < 40) :
    step (some s) (.logEvent k c x r) = (some { s with events := s.events ++ [⟨c, x, r, chance (policyAt s k) c x⟩] }, ⟨((s.events.length + 1 : Nat) : Int), []⟩) :=
  (if_neg (log_c h)).trans ((if_neg (by omega)).trans ((if_neg h3).trans (if_neg (by show ¬ 40 ≤ s.events.length; omega))))
-- setPolicy
def wOk (s : Study) (l : List Nat) : Prop := l.length = s.actions ∧ (∀ n ∈ l, n ≤ 1000) ∧ ∃ n ∈ l, 0 < n
theorem validWeights_iff {l : List Nat} : validWeights s l = true ↔ wOk s l := by
  unfold validWeights wOk
  simp only [Bool.and_eq_true, beq_iff_eq, List.all_eq_true, List.any_eq_true, decide_eq_true_eq, and_assoc]
theorem setp_2 {l : List Nat} (h : ¬ (k < 3 ∧ c < s.contexts)) : step (some s) (.setPolicy k c l) = (some s, single (-2)) := if_pos (by
  by_cases hk : k < 3
  · exact .inr (by omega)
  · exact .inl (pol_no hk))
theorem setp_c (h : k < 3 ∧ c < s.contexts) : ¬ (isPolicy k = false ∨ s.contexts ≤ c) := by
  rw [pol_yes h.1]
  simp only [Bool.true_eq_false, false_or]
  omega
theorem setp_22 {l : List Nat} (h : k < 3 ∧ c < s.contexts) (h2 : ¬ wOk s l) : step (some s) (.setPolicy k c l) = (some s, single (-22)) :=
  (if_neg (setp_c h)).trans (if_pos (by rw [← Bool.not_eq_true, validWeights_iff]; exact h2))
theorem setp_ok {l : List Nat} (h : k < 3 ∧ c < s.contexts) (h2 : wOk s l) : step (some s) (.setPolicy k c l) = (some { s with policies := s.policies.set k ((policyAt s k).set c l) }, ⟨((l.sum : Nat) : Int), []⟩) :=
  (if_neg (setp_c h)).trans (if_neg (ne_false (validWeights_iff.mpr h2)))
-- copyPolicy
theorem copy_2 (h : ¬ (k < 3 ∧ c < 3)) : step (some s) (.copyPolicy k c) = (some s, single (-2)) := if_pos (by
  by_cases hk : k < 3
  · exact .inr (pol_no fun z => h ⟨hk, z⟩)
  · exact .inl (pol_no hk))
theorem copy_ok (h : k < 3 ∧ c < 3) : step (some s) (.copyPolicy k c) = (some { s with policies := s.policies.set c (policyAt s k) }, ⟨0, []⟩) := if_neg (by
  rw [pol_yes h.1, pol_yes h.2]
  simp)
-- setModel
def rOk (s : Study) (l : List Nat) : Prop := l.length = s.actions ∧ ∀ n ∈ l, n ≤ 100
theorem validRewards_iff {l : List Nat} : validRewards s l = true ↔ rOk s l := by
  unfold validRewards rOk
  simp only [Bool.and_eq_true, beq_iff_eq, List.all_eq_true, decide_eq_true_eq]
theorem setm_2 {l : List Nat} (h : ¬ c < s.contexts) : step (some s) (.setModel c l) = (some s, single (-2)) := if_pos (by omega)
theorem setm_22 {l : List Nat} (h : c < s.contexts) (h2 : ¬ rOk s l) : step (some s) (.setModel c l) = (some s, single (-22)) :=
  (if_neg (by omega)).trans (if_pos (by rw [← Bool.not_eq_true, validRewards_iff]; exact h2))
theorem setm_ok {l : List Nat} (h : c < s.contexts) (h2 : rOk s l) : step (some s) (.setModel c l) = (some { s with model := s.model.set c (l.map ofNat) }, ⟨0, []⟩) :=
  (if_neg (by omega)).trans (if_neg (ne_false (validRewards_iff.mpr h2)))
-- fitModel
theorem fit_ok : step (some s) .fitModel = (some { s with model := fit s }, ⟨((s.events.length : Nat) : Int), []⟩) := rfl
-- setTruth
theorem sett_2 {l : List Nat} (h : ¬ c < s.contexts) : step (some s) (.setTruth c n l) = (some s, single (-2)) := if_pos (by omega)
def tOk (s : Study) (n : Nat) (l : List Nat) : Bool := decide (1 ≤ n) && decide (n ≤ 1000) && validRewards s l
theorem tOk_iff {l : List Nat} : tOk s n l = true ↔ (1 ≤ n ∧ n ≤ 1000) ∧ rOk s l := by
  unfold tOk
  simp only [Bool.and_eq_true, decide_eq_true_eq, validRewards_iff]
theorem sett_22 {l : List Nat} (h : c < s.contexts) (h2 : ¬ ((1 ≤ n ∧ n ≤ 1000) ∧ rOk s l)) : step (some s) (.setTruth c n l) = (some s, single (-22)) :=
  (if_neg (by omega)).trans (if_pos (show tOk s n l = false by rw [← Bool.not_eq_true, tOk_iff]; exact h2))
theorem sett_ok {l : List Nat} (h : c < s.contexts) (h2 : (1 ≤ n ∧ n ≤ 1000) ∧ rOk s l) : step (some s) (.setTruth c n l) = (some { s with contextWeights := s.contextWeights.set c n, truth := s.truth.set c l }, ⟨0, []⟩) :=
  (if_neg (by omega)).trans (if_neg (ne_false (show tOk s n l = true from tOk_iff.mpr h2)))
-- the questions
theorem prop_2 (h : ¬ (k < 3 ∧ c < s.contexts ∧ x < s.actions)) : step (some s) (.propensity k c x) = (some s, single (-2)) := congrArg (Prod.mk (some s)) (if_pos (by
  by_cases hk : k < 3
  · exact .inr (dec_no fun z => h ⟨hk, z⟩)
  · exact .inl (pol_no hk)))
theorem prop_ok (h : k < 3 ∧ c < s.contexts ∧ x < s.actions) : step (some s) (.propensity k c x) = (some s, ⟨0, [(chance (policyAt s k) c x).num, ((chance (policyAt s k) c x).den : Int)]⟩) := congrArg (Prod.mk (some s)) (if_neg (log_c h))
theorem est_none (h : ¬ (kd ≤ 3 ∧ 1 ≤ l ∧ l ≤ 100000)) : estimator kd l = none := if_neg h
theorem est_some (h : kd ≤ 3 ∧ 1 ≤ l ∧ l ≤ 100000) : estimator kd l = some ⟨kd, fraction (l : Nat) 100⟩ := if_pos h
theorem with_2 {f : Policy → Estimator → Ans} (h : ¬ k < 3) : withEstimator s k kd l n f = single (-2) := if_pos (pol_no h)
theorem with_22 {f : Policy → Estimator → Ans} (h : k < 3) (h2 : ¬ (kd ≤ 3 ∧ 1 ≤ l ∧ l ≤ 100000)) : withEstimator s k kd l n f = single (-22) := by
  unfold withEstimator
  rw [if_neg (ne_false (pol_yes h)), est_none h2]
theorem with_33 {f : Policy → Estimator → Ans} (h : k < 3) (h2 : kd ≤ 3 ∧ 1 ≤ l ∧ l ≤ 100000) (h3 : ¬ n ≤ s.events.length) : withEstimator s k kd l n f = single (-33) := by
  unfold withEstimator
  rw [if_neg (ne_false (pol_yes h)), est_some h2]
  exact if_pos (by omega)
theorem with_ok {f : Policy → Estimator → Ans} (h : k < 3) (h2 : kd ≤ 3 ∧ 1 ≤ l ∧ l ≤ 100000) (h3 : n ≤ s.events.length) : withEstimator s k kd l n f = f (policyAt s k) ⟨kd, fraction (l : Nat) 100⟩ := by
  unfold withEstimator
  rw [if_neg (ne_false (pol_yes h)), est_some h2]
  exact if_neg (by omega)
end
end LwM
end
/-! LwOps2 -/
section
set_option Elab.async false
set_option linter.unusedVariables false
namespace LwM
open Kp432
/-! the questions' steps, and what their numbers are -/
section
variable {s : Study} {p : Policy} {c x r n d k l kd : Nat}
theorem q_step {st : State} {a b : Ans} (h : a = b) : (st, a) = (st, b) := by rw [h]
theorem est_2 (h : ¬ k < 3) : step (some s) (.estimate k kd l) = (some s, single (-2)) := q_step (with_2 h)
theorem est_22 (h : k < 3) (h2 : ¬ (kd ≤ 3 ∧ 1 ≤ l ∧ l ≤ 100000)) : step (some s) (.estimate k kd l) = (some s, single (-22)) := q_step (with_22 h h2)
theorem est_33 (h : k < 3) (h2 : kd ≤ 3 ∧ 1 ≤ l ∧ l ≤ 100000) (h3 : ¬ 1 ≤ s.events.length) : step (some s) (.estimate k kd l) = (some s, single (-33)) := q_step (with_33 h h2 h3)
theorem est_ok (h : k < 3) (h2 : kd ≤ 3 ∧ 1 ≤ l ∧ l ≤ 100000) (h3 : 1 ≤ s.events.length) :
    step (some s) (.estimate k kd l) = (some s, fractionResult (mean (terms s (policyAt s k) ⟨kd, fraction (l : Nat) 100⟩))) := q_step (with_ok h h2 h3)
theorem var_2 (h : ¬ k < 3) : step (some s) (.variance k kd l) = (some s, single (-2)) := q_step (with_2 h)
theorem var_22 (h : k < 3) (h2 : ¬ (kd ≤ 3 ∧ 1 ≤ l ∧ l ≤ 100000)) : step (some s) (.variance k kd l) = (some s, single (-22)) := q_step (with_22 h h2)
theorem var_33 (h : k < 3) (h2 : kd ≤ 3 ∧ 1 ≤ l ∧ l ≤ 100000) (h3 : ¬ 2 ≤ s.events.length) : step (some s) (.variance k kd l) = (some s, single (-33)) := q_step (with_33 h h2 h3)
theorem var_ok (h : k < 3) (h2 : kd ≤ 3 ∧ 1 ≤ l ∧ l ≤ 100000) (h3 : 2 ≤ s.events.length) :
    step (some s) (.variance k kd l) = (some s, fractionResult (varianceOfMean (terms s (policyAt s k) ⟨kd, fraction (l : Nat) 100⟩))) := q_step (with_ok h h2 h3)
theorem norm_2 (h : ¬ k < 3) : step (some s) (.normalized k) = (some s, single (-2)) := q_step (if_pos (pol_no h))
theorem norm_33 (h : k < 3) (h2 : (sumOfWeights s (policyAt s k)).num = 0) : step (some s) (.normalized k) = (some s, single (-33)) := q_step ((if_neg (ne_false (pol_yes h))).trans (by
  unfold normalized
  rw [if_pos h2]))
theorem norm_ok (h : k < 3) (h2 : ¬ (sumOfWeights s (policyAt s k)).num = 0) :
    step (some s) (.normalized k) = (some s, fractionResult (over (total (terms s (policyAt s k) ⟨1, ofNat 0⟩)) (sumOfWeights s (policyAt s k)))) := q_step ((if_neg (ne_false (pol_yes h))).trans (by
  unfold normalized
  rw [if_neg h2]))
theorem rep_2 (h : ¬ k < 3) : step (some s) (.replay k) = (some s, single (-2)) := q_step (if_pos (pol_no h))
theorem rep_33 (h : k < 3) (h2 : Kp432.replay s (policyAt s k) = []) : step (some s) (.replay k) = (some s, single (-33)) := q_step ((if_neg (ne_false (pol_yes h))).trans (if_pos (by rw [h2]; rfl)))
theorem rep_ok (h : k < 3) (h2 : 1 ≤ (Kp432.replay s (policyAt s k)).length) :
    step (some s) (.replay k) = (some s, ⟨((Kp432.replay s (policyAt s k)).length : Int), [(meanReward (Kp432.replay s (policyAt s k))).num, ((meanReward (Kp432.replay s (policyAt s k))).den : Int)]⟩) :=
  q_step ((if_neg (ne_false (pol_yes h))).trans (if_neg (by
    rw [List.isEmpty_iff]
    intro e
    rw [e] at h2
    simp at h2)))
def sumSq (s : Study) (p : Policy) : Fraction := total (s.events.map fun e => square (weight p e))
theorem eff_2 (h : ¬ k < 3) : step (some s) (.effectiveSize k) = (some s, single (-2)) := q_step (if_pos (pol_no h))
theorem eff_33 (h : k < 3) (h2 : (sumSq s (policyAt s k)).num = 0) : step (some s) (.effectiveSize k) = (some s, single (-33)) := q_step ((if_neg (ne_false (pol_yes h))).trans (by
  unfold effectiveSize
  simp only
  unfold sumSq at h2
  rw [if_pos h2]))
theorem eff_ok (h : k < 3) (h2 : ¬ (sumSq s (policyAt s k)).num = 0) :
    step (some s) (.effectiveSize k) = (some s, fractionResult (over (square (sumOfWeights s (policyAt s k))) (sumSq s (policyAt s k)))) := q_step ((if_neg (ne_false (pol_yes h))).trans (by
  unfold effectiveSize
  simp only
  unfold sumSq at h2
  rw [if_neg h2]
  rfl))
/-! what isn't negative -/
theorem nn_fraction {n : Int} {d : Nat} (h : 0 ≤ n) : 0 ≤ (fraction n d).num := by
  unfold fraction
  simp only
  split
  · exact Int.le_refl 0
  · exact Int.ediv_nonneg h (by omega)
theorem nn_add {x y : Fraction} (hx : 0 ≤ x.num) (hy : 0 ≤ y.num) : 0 ≤ (add x y).num := nn_fraction (Int.add_nonneg (Int.mul_nonneg hx (by omega)) (Int.mul_nonneg hy (by omega)))
theorem nn_mul {x y : Fraction} (hx : 0 ≤ x.num) (hy : 0 ≤ y.num) : 0 ≤ (mul x y).num := nn_fraction (Int.mul_nonneg hx hy)
theorem nn_square {x : Fraction} : 0 ≤ (square x).num := nn_fraction (by
  rcases Int.le_total 0 x.num with h | h
  · exact Int.mul_nonneg h h
  · exact Int.mul_nonneg_of_nonpos_of_nonpos h h)
theorem nn_over {x y : Fraction} (hx : 0 ≤ x.num) : 0 ≤ (over x y).num := nn_fraction (Int.mul_nonneg hx (by omega))
theorem nn_weight {e : Event} : 0 ≤ (weight p e).num := nn_over chance_num_nonneg
theorem nn_total {l : List Fraction} (h : ∀ x ∈ l, 0 ≤ x.num) : 0 ≤ (total l).num := by
  have key : ∀ (l : List Fraction) (z : Fraction), 0 ≤ z.num → (∀ x ∈ l, 0 ≤ x.num) → 0 ≤ (l.foldl add z).num := by
    intro l
    induction l with
    | nil => intro z hz _; exact hz
    | cons x l ih => intro z hz h; exact ih (add z x) (nn_add hz (h x List.mem_cons_self)) fun y hy => h y (List.mem_cons_of_mem _ hy)
  exact key l (ofNat 0) (Int.le_refl 0) h
theorem nn_weights : 0 ≤ (sumOfWeights s p).num := nn_total fun x hx => by
  obtain ⟨e, _, rfl⟩ := List.mem_map.mp hx
  exact nn_weight
theorem nn_sumSq : 0 ≤ (sumSq s p).num := nn_total fun x hx => by
  obtain ⟨e, _, rfl⟩ := List.mem_map.mp hx
  exact nn_square
/-- a size's numerator -/
theorem num_le {D M : Nat} {x : Fraction} (h : Bd D M x) (d0 : 0 < D) : x.num.natAbs ≤ M * D := Nat.le_trans h.abs (Nat.mul_le_mul_left _ (Nat.le_of_dvd d0 h.dvd))
def pros (s : Study) : List Fraction := s.events.map (·.propensity)
theorem pros_pro (h : Good s) : ∀ x ∈ pros s, Pro x := fun x hx => by
  obtain ⟨e, he, rfl⟩ := List.mem_map.mp hx
  exact (h.ev e he).pro
theorem pros_len (h : Good s) : (pros s).length ≤ 40 := by
  unfold pros
  rw [List.length_map]
  exact h.evn
theorem bd_terms (h : Good s) (hp : GoodPol s.contexts s.actions p) (hl : l ≤ 100000) : ∀ y ∈ terms s p ⟨kd, fraction (l : Nat) 100⟩, Bd (bigD s p (pros s)) 1048576 y := fun y hy => by
  obtain ⟨e, he, rfl⟩ := List.mem_map.mp hy
  exact bd_term h hp (h.ev e he) (List.mem_map.mpr ⟨e, he, rfl⟩) hl rfl
theorem bd_weights (h : Good s) (hp : GoodPol s.contexts s.actions p) : ∀ y ∈ s.events.map (weight p), Bd (bigD s p (pros s)) 5000 y := fun y hy => by
  obtain ⟨e, he, rfl⟩ := List.mem_map.mp hy
  exact bd_weight' hp (h.ev e he) (List.mem_map.mpr ⟨e, he, rfl⟩)
theorem bd_sumW (h : Good s) (hp : GoodPol s.contexts s.actions p) : Bd (bigD s p (pros s)) 200000 (sumOfWeights s p) :=
  bd_total (n := 40) (M := 5000) (bd_weights h hp) (by rw [List.length_map]; exact h.evn)
theorem bd_squares (h : Good s) (hp : GoodPol s.contexts s.actions p) : ∀ y ∈ s.events.map (fun e => square (weight p e)), Bd (bigD s p (pros s) * bigD s p (pros s)) 25000000 y := fun y hy => by
  obtain ⟨e, he, rfl⟩ := List.mem_map.mp hy
  exact bd_square (bd_weight' (s := s) (ps := pros s) hp (h.ev e he) (List.mem_map.mpr ⟨e, he, rfl⟩))
theorem bd_sumSq (h : Good s) (hp : GoodPol s.contexts s.actions p) : Bd (bigD s p (pros s) * bigD s p (pros s)) 1000000000 (sumSq s p) :=
  bd_total (n := 40) (M := 25000000) (bd_squares h hp) (by rw [List.length_map]; exact h.evn)
theorem bd_ones (h : Good s) (hp : GoodPol s.contexts s.actions p) : ∀ y ∈ terms s p ⟨1, ofNat 0⟩, Bd (bigD s p (pros s)) 500000 y := fun y hy => by
  obtain ⟨e, he, rfl⟩ := List.mem_map.mp hy
  have r := bd_mul (bd_weight' (s := s) (ps := pros s) hp (h.ev e he) (List.mem_map.mpr ⟨e, he, rfl⟩)) (bd_reward (h.ev e he).rew)
  rw [Nat.mul_one] at r
  exact r
end
end LwM
end
/-! LwKeep -/
section
set_option Elab.async false
set_option linter.unusedVariables false
namespace LwM
open Kp432
/-! each step keeps a state good -/
def GoodSt : State → Prop
  | none => True
  | some s => Good s
theorem create_no {st : State} {n k : Nat} (h : ¬ (1 ≤ n ∧ n ≤ 6 ∧ 1 ≤ k ∧ k ≤ 5)) : step st (.create n k) = (st, single (-22)) := by
  have e : (decide (1 ≤ n) && decide (n ≤ maxContexts) && decide (1 ≤ k) && decide (k ≤ maxActions)) = false := by
    rw [← Bool.not_eq_true]
    intro z
    simp only [Bool.and_eq_true, decide_eq_true_eq] at z
    exact h ⟨z.1.1.1, z.1.1.2, z.1.2, z.2⟩
  cases st <;> exact if_pos e
theorem create_ok {st : State} {n k : Nat} (h : 1 ≤ n ∧ n ≤ 6 ∧ 1 ≤ k ∧ k ≤ 5) : step st (.create n k) = (some (fresh n k), single 0) := by
  have e : ¬ (decide (1 ≤ n) && decide (n ≤ maxContexts) && decide (1 ≤ k) && decide (k ≤ maxActions)) = false := by
    have z : (decide (1 ≤ n) && decide (n ≤ maxContexts) && decide (1 ≤ k) && decide (k ≤ maxActions)) = true := by
      simp only [Bool.and_eq_true, decide_eq_true_eq]
      exact ⟨⟨⟨h.1, h.2.1⟩, h.2.2.1⟩, h.2.2.2⟩
    rw [z]
    decide
  cases st <;> exact if_neg e
theorem wOk_row {s : Study} {l : List Nat} (h : wOk s l) : GoodRow s.actions l := by
  obtain ⟨h1, h2, n, hn, h0⟩ := h
  refine ⟨h1, h2, Nat.lt_of_lt_of_le h0 ?_⟩
  clear h1 h2
  induction l with
  | nil => cases hn
  | cons y l ih =>
    rw [List.sum_cons]
    rcases List.mem_cons.mp hn with rfl | hn
    · exact Nat.le_add_right _ _
    · exact Nat.le_trans (ih hn) (Nat.le_add_left _ _)
theorem good_of {st st' : State} {a : Ans} {c : Call} (e : step st c = (st', a)) (g : GoodSt st') : GoodSt (step st c).1 := by
  rw [e]
  exact g
theorem good_step {st : State} (g : GoodSt st) (c : Call) : GoodSt (step st c).1 := by
  cases st with
  | none =>
    cases c with
    | create n k =>
      by_cases h : 1 ≤ n ∧ n ≤ 6 ∧ 1 ≤ k ∧ k ≤ 5
      · exact good_of (create_ok h) (good_fresh h.1 h.2.1 h.2.2.1 h.2.2.2)
      · exact good_of (create_no h) trivial
    | _ => exact trivial
  | some s =>
    have g0 : Good s := g
    cases c with
    | create n k =>
      by_cases h : 1 ≤ n ∧ n ≤ 6 ∧ 1 ≤ k ∧ k ≤ 5
      · exact good_of (create_ok h) (good_fresh h.1 h.2.1 h.2.2.1 h.2.2.2)
      · exact good_of (create_no h) g
    | addEvent c x r n d =>
      by_cases h1 : c < s.contexts ∧ x < s.actions
      · by_cases h2 : r ≤ 100 ∧ 1 ≤ n ∧ n ≤ d ∧ d ≤ 1000
        · by_cases h3 : s.events.length < 40
          · exact good_of (add_ok h1 h2 h3) (good_event g0 ⟨h1.1, h1.2, h2.1, pro_new h2.2⟩ h3)
          · exact good_of (add_28 h1 h2 h3) g
        · exact good_of (add_22 h1 h2) g
      · exact good_of (add_2 h1) g
    | removeLast =>
      by_cases h : s.events = []
      · exact good_of (rem_33 h) g
      · exact good_of (rem_ok (List.length_pos_iff.mpr h)) (good_drop g0)
    | logEvent k c x r =>
      by_cases h1 : k < 3 ∧ c < s.contexts ∧ x < s.actions
      · by_cases h2 : r ≤ 100
        · by_cases h3 : (chance (policyAt s k) c x).num = 0
          · exact good_of (log_33 h1 h2 h3) g
          · by_cases h4 : s.events.length < 40
            · exact good_of (log_ok h1 h2 h3 h4) (good_event g0 ⟨h1.2.1, h1.2.2, h2, chance_pro (pol_at g0 h1.1) h1.2.1 g0.a5 h3⟩ h4)
            · exact good_of (log_28 h1 h2 h3 h4) g
        · exact good_of (log_22 h1 h2) g
      · exact good_of (log_2 h1) g
    | setPolicy k c l =>
      by_cases h1 : k < 3 ∧ c < s.contexts
      · by_cases h2 : wOk s l
        · exact good_of (setp_ok h1 h2) (good_weights g0 h1.1 (wOk_row h2))
        · exact good_of (setp_22 h1 h2) g
      · exact good_of (setp_2 h1) g
    | copyPolicy a b =>
      by_cases h : a < 3 ∧ b < 3
      · exact good_of (copy_ok h) (good_copy g0 h.1)
      · exact good_of (copy_2 h) g
    | setModel c l =>
      by_cases h1 : c < s.contexts
      · by_cases h2 : rOk s l
        · exact good_of (setm_ok h1 h2) (good_model g0 h2.1 h2.2)
        · exact good_of (setm_22 h1 h2) g
      · exact good_of (setm_2 h1) g
    | fitModel => exact good_of fit_ok (good_fit g0)
    | setTruth c n l =>
      by_cases h1 : c < s.contexts
      · by_cases h2 : (1 ≤ n ∧ n ≤ 1000) ∧ rOk s l
        · exact good_of (sett_ok h1 h2) (good_truth g0 h2.1 h2.2.1 h2.2.2)
        · exact good_of (sett_22 h1 h2) g
      · exact good_of (sett_2 h1) g
    | _ => exact g
end LwM
end
/-! LwOps3 -/
section
set_option Elab.async false
set_option linter.all false
namespace LwM
open Kp432
/-! the later calls' steps, way by way -/
section
variable {s : Study} {p : Policy} {c x r n d k g l kd : Nat}
-- interval
theorem int_f (h : ¬ (1 ≤ n ∧ n ≤ 10000)) : step (some s) (.interval k kd l n) = (some s, single (-22)) := q_step (if_pos (by omega))
theorem int_2 (h0 : 1 ≤ n ∧ n ≤ 10000) (h : ¬ k < 3) : step (some s) (.interval k kd l n) = (some s, single (-2)) := q_step ((if_neg (by omega)).trans (with_2 h))
theorem int_22 (h0 : 1 ≤ n ∧ n ≤ 10000) (h : k < 3) (h2 : ¬ (kd ≤ 3 ∧ 1 ≤ l ∧ l ≤ 100000)) : step (some s) (.interval k kd l n) = (some s, single (-22)) := q_step ((if_neg (by omega)).trans (with_22 h h2))
theorem int_33 (h0 : 1 ≤ n ∧ n ≤ 10000) (h : k < 3) (h2 : kd ≤ 3 ∧ 1 ≤ l ∧ l ≤ 100000) (h3 : ¬ 2 ≤ s.events.length) : step (some s) (.interval k kd l n) = (some s, single (-33)) := q_step ((if_neg (by omega)).trans (with_33 h h2 h3))
def twoOf (a b : Fraction) : List Int := [a.num, (a.den : Int), b.num, (b.den : Int)]
theorem frs2 (a b : Fraction) : fractionsOf [a, b] = twoOf a b := rfl
theorem mul_swap (a b : Fraction) : mul a b = mul b a := by
  unfold mul
  rw [Int.mul_comm, Nat.mul_comm]
theorem int_ok (h0 : 1 ≤ n ∧ n ≤ 10000) (h : k < 3) (h2 : kd ≤ 3 ∧ 1 ≤ l ∧ l ≤ 100000) (h3 : 2 ≤ s.events.length) :
    step (some s) (.interval k kd l n) = (some s, ⟨0, twoOf (mean (terms s (policyAt s k) ⟨kd, fraction (l : Nat) 100⟩)) (mul (varianceOfMean (terms s (policyAt s k) ⟨kd, fraction (l : Nat) 100⟩)) (ofNat n))⟩) := by
  refine q_step ((if_neg (by omega)).trans ((with_ok h h2 h3).trans ?_))
  show Ans.mk _ _ = _
  rw [mul_swap (ofNat n), frs2]
  rfl
-- compare
theorem cmp_2 (h : ¬ (k < 3 ∧ g < 3)) : step (some s) (.compare k g kd l) = (some s, single (-2)) := by
  refine q_step ?_
  by_cases hg : g < 3
  · exact (if_neg (ne_false (pol_yes hg))).trans (with_2 fun z => h ⟨z, hg⟩)
  · exact if_pos (pol_no hg)
theorem cmp_22 (h : k < 3 ∧ g < 3) (h2 : ¬ (kd ≤ 3 ∧ 1 ≤ l ∧ l ≤ 100000)) : step (some s) (.compare k g kd l) = (some s, single (-22)) := q_step ((if_neg (ne_false (pol_yes h.2))).trans (with_22 h.1 h2))
theorem cmp_33 (h : k < 3 ∧ g < 3) (h2 : kd ≤ 3 ∧ 1 ≤ l ∧ l ≤ 100000) (h3 : ¬ 2 ≤ s.events.length) : step (some s) (.compare k g kd l) = (some s, single (-33)) := q_step ((if_neg (ne_false (pol_yes h.2))).trans (with_33 h.1 h2 h3))
def diffs (s : Study) (p1 p2 : Policy) (x : Estimator) : List Fraction := s.events.map fun e => sub (term s p1 x e) (term s p2 x e)
theorem diffs_is {s : Study} {p1 p2 : Policy} {x : Estimator} : ((terms s p1 x).zip (terms s p2 x) |>.map fun y => sub y.1 y.2) = diffs s p1 p2 x := by
  unfold terms diffs
  generalize s.events = es
  induction es with
  | nil => rfl
  | cons e es ih => rw [List.map_cons, List.map_cons, List.zip_cons_cons, List.map_cons, List.map_cons, ih]
theorem cmp_ok (h : k < 3 ∧ g < 3) (h2 : kd ≤ 3 ∧ 1 ≤ l ∧ l ≤ 100000) (h3 : 2 ≤ s.events.length) :
    step (some s) (.compare k g kd l) = (some s, ⟨0, twoOf (mean (diffs s (policyAt s k) (policyAt s g) ⟨kd, fraction (l : Nat) 100⟩)) (varianceOfMean (diffs s (policyAt s k) (policyAt s g) ⟨kd, fraction (l : Nat) 100⟩))⟩) := by
  refine q_step ((if_neg (ne_false (pol_yes h.2))).trans ((with_ok h.1 h2 h3).trans ?_))
  show Ans.mk _ (fractionsOf [_, _]) = _
  simp only [diffs_is]
  rfl
-- by_context
theorem byc_2 (h : ¬ k < 3) : step (some s) (.byContext k kd l) = (some s, single (-2)) := q_step (with_2 h)
theorem byc_22 (h : k < 3) (h2 : ¬ (kd ≤ 3 ∧ 1 ≤ l ∧ l ≤ 100000)) : step (some s) (.byContext k kd l) = (some s, single (-22)) := q_step (with_22 h h2)
theorem byc_33 (h : k < 3) (h2 : kd ≤ 3 ∧ 1 ≤ l ∧ l ≤ 100000) (h3 : ¬ 1 ≤ s.events.length) : step (some s) (.byContext k kd l) = (some s, single (-33)) := q_step (with_33 h h2 h3)
/-- a context's terms, and what is answered of it -/
def ctxTerms (s : Study) (p : Policy) (x : Estimator) (c : Nat) : List Fraction := (s.events.filter fun e => e.context == c).map (term s p x)
def ctxOut (s : Study) (p : Policy) (x : Estimator) (c : Nat) : List Int := [((ctxTerms s p x c).length : Int), (mean (ctxTerms s p x c)).num, ((mean (ctxTerms s p x c)).den : Int)]
theorem byc_ok (h : k < 3) (h2 : kd ≤ 3 ∧ 1 ≤ l ∧ l ≤ 100000) (h3 : 1 ≤ s.events.length) :
    step (some s) (.byContext k kd l) = (some s, ⟨(s.contexts : Int), (List.range s.contexts).flatMap (ctxOut s (policyAt s k) ⟨kd, fraction (l : Nat) 100⟩)⟩) := q_step (with_ok h h2 h3)
-- greatest_weight
theorem gre_2 (h : ¬ k < 3) : step (some s) (.greatestWeight k) = (some s, single (-2)) := q_step (if_pos (pol_no h))
theorem gre_33 (h : k < 3) (h2 : ¬ 1 ≤ s.events.length) : step (some s) (.greatestWeight k) = (some s, single (-33)) := q_step ((if_neg (ne_false (pol_yes h))).trans (if_pos (by
  rw [List.isEmpty_iff]
  exact List.eq_nil_of_length_eq_zero (by omega))))
def pickG (m x : Fraction) : Fraction := if less m x then x else m
/-- the greatest one, as the program finds it -/
def gmax : List Fraction → Fraction
  | [] => ofNat 0
  | x :: l => (x :: l).foldl pickG x
theorem nrm_zero {x : Fraction} (h : Nrm x) (z : x.num = 0) : x = ofNat 0 := by
  have c := h.cop
  rw [z, Int.natAbs_zero, Nat.gcd_zero_left] at c
  obtain ⟨a, b⟩ := x
  subst z c
  rfl
theorem gmax_is {l : List Fraction} (h : ∀ x ∈ l, Nrm x ∧ 0 ≤ x.num) : gmax l = l.foldl pickG (ofNat 0) := by
  cases l with
  | nil => rfl
  | cons x l =>
    show (x :: l).foldl pickG x = _
    rw [List.foldl_cons, List.foldl_cons]
    have e1 : pickG x x = x := by
      unfold pickG
      split <;> rfl
    have e2 : pickG (ofNat 0) x = x := by
      unfold pickG
      split
      · rfl
      · rename_i q
        obtain ⟨hn, h0⟩ := h x List.mem_cons_self
        refine (nrm_zero hn ?_).symm
        unfold less at q
        rw [decide_eq_true_eq] at q
        have e : (ofNat 0).num = 0 := rfl
        have e' : (ofNat 0).den = 1 := rfl
        rw [e, e'] at q
        omega
    rw [e1, e2]
theorem nrm_over' {x y : Fraction} (hx : 0 < x.den) (hy : 0 < y.num) : Nrm (over x y) := nrm_over hx hy
theorem gre_ok (gs : Good s) (h : k < 3) (h2 : 1 ≤ s.events.length) : step (some s) (.greatestWeight k) = (some s, ⟨0, [(gmax (s.events.map (weight (policyAt s k)))).num, ((gmax (s.events.map (weight (policyAt s k)))).den : Int)]⟩) := by
  refine q_step ((if_neg (ne_false (pol_yes h))).trans ((if_neg (by
    rw [List.isEmpty_iff]
    intro e
    rw [e] at h2
    simp at h2)).trans ?_))
  have gp := pol_at gs h
  rw [gmax_is fun y hy => by
    obtain ⟨e, he, rfl⟩ := List.mem_map.mp hy
    have ge := gs.ev e he
    exact ⟨nrm_over (bd_chance gp ge.ctx).pos ge.pro.pos, nn_weight⟩]
  rfl
-- model_info
theorem mod_2 (h : ¬ c < s.contexts) : step (some s) (.modelInfo c) = (some s, single (-2)) := q_step (if_pos (by omega))
theorem mod_ok (h : c < s.contexts) : step (some s) (.modelInfo c) = (some s, ⟨(s.actions : Int), fractionsOf (s.model.getD c [])⟩) := q_step (if_neg (by omega))
-- true_value
theorem tru_2 (h : ¬ k < 3) : step (some s) (.trueValue k) = (some s, single (-2)) := q_step (by
  show (if isPolicy k = true then _ else _) = _
  exact if_neg (by rw [pol_no h]; decide))
theorem tru_ok (h : k < 3) : step (some s) (.trueValue k) = (some s, fractionResult (trueValue s (policyAt s k))) := q_step (if_pos (pol_yes h))
-- expectation
theorem exp_2 (h : ¬ (g < 3 ∧ k < 3)) : step (some s) (.expectation g k kd l) = (some s, single (-2)) := by
  refine q_step ?_
  by_cases hg : g < 3
  · exact (if_neg (ne_false (pol_yes hg))).trans (with_2 fun z => h ⟨hg, z⟩)
  · exact if_pos (pol_no hg)
theorem exp_22 (h : g < 3 ∧ k < 3) (h2 : ¬ (kd ≤ 3 ∧ 1 ≤ l ∧ l ≤ 100000)) : step (some s) (.expectation g k kd l) = (some s, single (-22)) := q_step ((if_neg (ne_false (pol_yes h.1))).trans (with_22 h.2 h2))
theorem exp_ok (h : g < 3 ∧ k < 3) (h2 : kd ≤ 3 ∧ 1 ≤ l ∧ l ≤ 100000) :
    step (some s) (.expectation g k kd l) = (some s, ⟨0, twoOf (expected s (policyAt s g) (policyAt s k) ⟨kd, fraction (l : Nat) 100⟩) (termVariance s (policyAt s g) (policyAt s k) ⟨kd, fraction (l : Nat) 100⟩)⟩) :=
  q_step ((if_neg (ne_false (pol_yes h.1))).trans (with_ok h.2 h2 (Nat.zero_le _)))
-- unsupported
theorem uns_2 (h : ¬ (g < 3 ∧ k < 3)) : step (some s) (.unsupported g k) = (some s, single (-2)) := q_step (if_pos (by
  by_cases hg : g < 3
  · exact .inr (pol_no fun z => h ⟨hg, z⟩)
  · exact .inl (pol_no hg)))
theorem uns_ok (h : g < 3 ∧ k < 3) : step (some s) (.unsupported g k) = (some s, natResult (unsupported s (policyAt s g) (policyAt s k)).length ((unsupported s (policyAt s g) (policyAt s k)).flatMap fun x => [x.1, x.2])) := q_step (if_neg (by
  rw [pol_yes h.1, pol_yes h.2]
  decide))
-- bootstrap
theorem boo_r (h : ¬ (1 ≤ n ∧ n ≤ 50)) : step (some s) (.bootstrap k kd l n d) = (some s, single (-22)) := q_step (if_pos (by omega))
theorem boo_2 (h0 : 1 ≤ n ∧ n ≤ 50) (h : ¬ k < 3) : step (some s) (.bootstrap k kd l n d) = (some s, single (-2)) := q_step ((if_neg (by omega)).trans (with_2 h))
theorem boo_22 (h0 : 1 ≤ n ∧ n ≤ 50) (h : k < 3) (h2 : ¬ (kd ≤ 3 ∧ 1 ≤ l ∧ l ≤ 100000)) : step (some s) (.bootstrap k kd l n d) = (some s, single (-22)) := q_step ((if_neg (by omega)).trans (with_22 h h2))
theorem boo_33 (h0 : 1 ≤ n ∧ n ≤ 50) (h : k < 3) (h2 : kd ≤ 3 ∧ 1 ≤ l ∧ l ≤ 100000) (h3 : ¬ 1 ≤ s.events.length) : step (some s) (.bootstrap k kd l n d) = (some s, single (-33)) := q_step ((if_neg (by omega)).trans (with_33 h h2 h3))
def threeOf (L : List Fraction) (n : Nat) : List Int := fractionsOf [L.getD 0 (ofNat 0), L.getD ((n - 1) / 2) (ofNat 0), L.getD (n - 1) (ofNat 0)]
theorem boo_ok (h0 : 1 ≤ n ∧ n ≤ 50) (h : k < 3) (h2 : kd ≤ 3 ∧ 1 ≤ l ∧ l ≤ 100000) (h3 : 1 ≤ s.events.length) :
    step (some s) (.bootstrap k kd l n d) = (some s, ⟨0, threeOf (bootstrap (terms s (policyAt s k) ⟨kd, fraction (l : Nat) 100⟩) n d []) n⟩) := q_step ((if_neg (by omega)).trans (with_ok h h2 h3))
-- ranked lists
def lOk (l : List Nat) (lo most : Nat) : Prop := lo ≤ l.length ∧ l.length ≤ 12 ∧ ∀ x ∈ l, x ≤ most
theorem validList_iff {l : List Nat} {m : Nat} : validList l m = true ↔ lOk l 1 m := by
  unfold validList lOk
  simp only [Bool.and_eq_true, decide_eq_true_eq, List.all_eq_true]
  exact ⟨fun h => ⟨h.1.1, h.1.2, h.2⟩, fun h => ⟨⟨h.1, h.2.1⟩, h.2.2⟩⟩
theorem not_true_false {b : Bool} {q : Prop} (e : b = true ↔ q) (h : ¬ q) : b = false := by
  cases b with
  | true => exact absurd (e.mp rfl) h
  | false => rfl
theorem prc_iff {l : List Nat} : (validList l 1 && decide (1 ≤ n) && decide (n ≤ 12)) = true ↔ (1 ≤ n ∧ n ≤ 12) ∧ lOk l 1 1 := by
  simp only [Bool.and_eq_true, decide_eq_true_eq, validList_iff]
  exact ⟨fun h => ⟨⟨h.1.2, h.2⟩, h.1.1⟩, fun h => ⟨⟨h.2, h.1.1⟩, h.1.2⟩⟩
theorem prc_22 {l : List Nat} (h : ¬ ((1 ≤ n ∧ n ≤ 12) ∧ lOk l 1 1)) : step (some s) (.precision n l) = (some s, single (-22)) := q_step (if_pos (not_true_false prc_iff h))
theorem prc_ok {l : List Nat} (h : (1 ≤ n ∧ n ≤ 12) ∧ lOk l 1 1) : step (some s) (.precision n l) = (some s, fractionResult (precision n l)) := q_step (if_neg (ne_false (prc_iff.mpr h)))
theorem rnk_22 {l : List Nat} (h : ¬ lOk l 1 1) : step (some s) (.rankMeasures l) = (some s, single (-22)) := q_step (if_pos (not_true_false validList_iff h))
theorem rnk_ok {l : List Nat} (h : lOk l 1 1) : step (some s) (.rankMeasures l) = (some s, ⟨(hits l : Int), twoOf (averagePrecision l) (reciprocalRank l)⟩) := q_step (if_neg (ne_false (validList_iff.mpr h)))
theorem gai_22 {l : List Nat} (h : ¬ lOk l 1 100) : step (some s) (.gains l) = (some s, single (-22)) := q_step (if_pos (not_true_false validList_iff h))
theorem gai_33 {l : List Nat} (h : lOk l 1 100) (h2 : (ideal l).num = 0) : step (some s) (.gains l) = (some s, single (-33)) := q_step ((if_neg (ne_false (validList_iff.mpr h))).trans (if_pos h2))
theorem gai_ok {l : List Nat} (h : lOk l 1 100) (h2 : ¬ (ideal l).num = 0) : step (some s) (.gains l) = (some s, ⟨0, twoOf (discounted l) (over (discounted l) (ideal l))⟩) := q_step ((if_neg (ne_false (validList_iff.mpr h))).trans (if_neg h2))
theorem ord_iff {l : List Nat} : (validList l 1000 && decide (2 ≤ l.length)) = true ↔ lOk l 2 1000 := by
  simp only [Bool.and_eq_true, decide_eq_true_eq, validList_iff]
  unfold lOk
  exact ⟨fun h => ⟨h.2, h.1.2⟩, fun h => ⟨⟨by omega, h.2⟩, h.1⟩⟩
theorem ord_22 {l : List Nat} (h : ¬ lOk l 2 1000) : step (some s) (.orderMeasure l) = (some s, single (-22)) := q_step (if_pos (not_true_false ord_iff h))
theorem ord_ok {l : List Nat} (h : lOk l 2 1000) : step (some s) (.orderMeasure l) = (some s, ⟨(concordant l : Int), [(discordant l : Int), (fraction ((concordant l : Int) - (discordant l : Int)) (pairsOf l.length).length).num, ((fraction ((concordant l : Int) - (discordant l : Int)) (pairsOf l.length).length).den : Int)]⟩) := q_step (if_neg (ne_false (ord_iff.mpr h)))
-- status
theorem sta_ok : step (some s) .status = (some s, natResult s.contexts [s.actions, s.events.length, (s.events.map Event.reward).sum]) := rfl
end
end LwM
end
/-! LwSums -/
section
set_option Elab.async false
set_option linter.all false
namespace LwM
open Kp432
/-! sums of fractions, and what holds under the assumed truth -/
theorem q_total {l : List Fraction} (h : ∀ x ∈ l, 0 < x.den) : q (total l) = (l.map q).sum := by
  have key : ∀ (l : List Fraction) (z : Fraction), 0 < z.den → (∀ x ∈ l, 0 < x.den) → q (l.foldl add z) = q z + (l.map q).sum := by
    intro l
    induction l with
    | nil => intro z _ _; show q z = q z + 0; grind
    | cons x l ih =>
      intro z hz h
      have hx := h x List.mem_cons_self
      rw [List.foldl_cons, ih _ (nrm_add hz hx).pos (fun y hy => h y (List.mem_cons_of_mem _ hy)), q_add hz hx, List.map_cons, List.sum_cons]
      grind
  unfold total
  rw [key l (ofNat 0) Nat.one_pos h, q_ofNat]
  show ((0 : Nat) : Rat) + _ = _
  have e : ((0 : Nat) : Rat) = 0 := rfl
  rw [e]
  grind
theorem nrm_total {l : List Fraction} (h : ∀ x ∈ l, 0 < x.den) : Nrm (total l) := by
  have key : ∀ (l : List Fraction) (z : Fraction), Nrm z → (∀ x ∈ l, 0 < x.den) → Nrm (l.foldl add z) := by
    intro l
    induction l with
    | nil => intro z hz _; exact hz
    | cons x l ih => intro z hz h; exact ih _ (nrm_add hz.pos (h x List.mem_cons_self)) fun y hy => h y (List.mem_cons_of_mem _ hy)
  exact key l _ (nrm_ofNat 0) h
section
variable {s : Study} {p : Policy}
/-- all decisions of a policy, as the program lists them -/
def possAt (s : Study) (p : Policy) (c a : Nat) : Option Event := if (chance p c a).num = 0 then none else some ⟨c, a, rewardIn s c a, chance p c a⟩
def poss (s : Study) (p : Policy) : List Event := (List.range s.contexts).flatMap fun c => (List.range s.actions).filterMap (possAt s p c)
def evW (s : Study) (e : Event) : Fraction := mul (contextChance s e.context) e.propensity
theorem decisions_is (s : Study) (p : Policy) : decisions s p = (poss s p).map fun e => (evW s e, e) := by
  unfold decisions poss
  rw [List.map_flatMap]
  congr 1
  funext c
  rw [List.map_filterMap]
  congr 1
  funext a
  unfold possAt
  split <;> rfl
theorem poss_mem {e : Event} (h : e ∈ poss s p) : e.context < s.contexts ∧ e.action < s.actions ∧ e.propensity = chance p e.context e.action ∧ ¬ (chance p e.context e.action).num = 0 ∧ e.reward = rewardIn s e.context e.action := by
  obtain ⟨c, hc, h⟩ := List.mem_flatMap.mp h
  obtain ⟨a, ha, h⟩ := List.mem_filterMap.mp h
  unfold possAt at h
  split at h
  · cases h
  · rename_i q
    cases Option.some.inj h
    exact ⟨List.mem_range.mp hc, List.mem_range.mp ha, rfl, q, rfl⟩
theorem reward_le (g : Good s) (c a : Nat) : rewardIn s c a ≤ 100 := by
  unfold rewardIn
  by_cases hc : c < s.truth.length
  · have hm : s.truth.getD c [] ∈ s.truth := getD_mem hc
    by_cases ha : a < (s.truth.getD c []).length
    · exact (g.tr _ hm).2 _ (getD_mem ha)
    · rw [List.getD_eq_getElem?_getD (l := s.truth.getD c []), List.getElem?_eq_none (by omega)]
      simp
  · have e : s.truth.getD c [] = [] := by
      rw [List.getD_eq_getElem?_getD, List.getElem?_eq_none (by omega)]
      rfl
    rw [e]
    simp
theorem poss_good (g : Good s) (gp : GoodPol s.contexts s.actions p) : ∀ e ∈ poss s p, GoodEv s.contexts s.actions e := fun e he => by
  obtain ⟨h1, h2, h3, h4, h5⟩ := poss_mem he
  refine ⟨h1, h2, ?_, ?_⟩
  · rw [h5]
    exact reward_le g _ _
  · rw [h3]
    exact chance_pro gp h1 g.a5 h4
theorem flatMap_len {α β : Type} {f : α → List β} {m : Nat} : ∀ {l : List α}, (∀ x ∈ l, (f x).length ≤ m) → (l.flatMap f).length ≤ l.length * m
  | [], _ => by simp
  | x :: l, h => by
    rw [List.flatMap_cons, List.length_append, List.length_cons]
    have r := flatMap_len (l := l) fun y hy => h y (List.mem_cons_of_mem _ hy)
    have := h x List.mem_cons_self
    have e : (l.length + 1) * m = l.length * m + m := by grind
    omega
theorem poss_len (g : Good s) : (poss s p).length ≤ 30 := by
  have h := flatMap_len (l := List.range s.contexts) (f := fun c => (List.range s.actions).filterMap (possAt s p c)) (m := 5) fun c _ => by
    refine Nat.le_trans (List.length_filterMap_le _ _) ?_
    rw [List.length_range]
    exact g.a5
  rw [List.length_range] at h
  have := g.c6
  unfold poss
  omega
theorem tw_sum_pos (g : Good s) : 0 < s.contextWeights.sum := by
  have h1 : 0 < s.contextWeights.length := by rw [g.twn]; exact g.c1
  have h2 := (g.tw _ (getD_mem (l := s.contextWeights) (i := 0) (d := 0) h1)).1
  have := getD_le_sum s.contextWeights 0
  omega
theorem tw_sum_le (g : Good s) : s.contextWeights.sum ≤ 6000 := by
  have h := sum_le (l := s.contextWeights) (B := 1000) fun x hx => (g.tw x hx).2
  rw [g.twn] at h
  have := g.c6
  omega
theorem bd_ctx (g : Good s) (c : Nat) : Bd s.contextWeights.sum 1 (contextChance s c) := by
  refine bd_fraction (tw_sum_pos g) (Nat.dvd_refl _) ?_
  rw [Int.natAbs_natCast, Nat.one_mul]
  exact getD_le_sum _ _
theorem cc_pos (g : Good s) (c : Nat) : 0 < (contextChance s c).den := (bd_ctx g c).pos
theorem evW_pos (g : Good s) {e : Event} (he : GoodEv s.contexts s.actions e) : 0 < (evW s e).den := (nrm_mul (cc_pos g _) he.pro.dpos).pos
/-- a chance is 0 where the weight is -/
theorem frac_zero {n d : Nat} (h : 0 < d) : (fraction (n : Int) d).num = 0 ↔ n = 0 := by
  have g := gcd_pos_of (n := (n : Int)) h
  rw [fraction_eq h]
  show (n : Int) / ((Nat.gcd (n : Int).natAbs d : Nat) : Int) = 0 ↔ n = 0
  obtain ⟨a, ha⟩ : Nat.gcd (n : Int).natAbs d ∣ n := Nat.gcd_dvd_left _ _
  generalize Nat.gcd (n : Int).natAbs d = m at g ha
  subst ha
  rw [Int.natCast_mul, Int.mul_ediv_cancel_left _ (by omega)]
  constructor
  · intro z
    have : a = 0 := by omega
    rw [this, Nat.mul_zero]
  · intro z
    rcases Nat.mul_eq_zero.mp z with z | z <;> omega
theorem chance_zero {p : Policy} {c x : Nat} (h : 0 < (weightsFor p c).sum) : decide ((0 : Int) < (((weightsFor p c).getD x 0 : Nat) : Int)) = !decide ((chance p c x).num = 0) := by
  have e : (chance p c x).num = 0 ↔ (weightsFor p c).getD x 0 = 0 := frac_zero h
  by_cases z : (weightsFor p c).getD x 0 = 0
  · rw [decide_eq_true (e.mpr z), z]
    rfl
  · rw [decide_eq_false (fun y => z (e.mp y)), decide_eq_true (by omega)]
    rfl
/-! ### sums -/
theorem sum_flatMap {α : Type} (f : α → List Rat) : ∀ l : List α, (l.flatMap f).sum = (l.map fun x => (f x).sum).sum
  | [] => rfl
  | x :: l => by rw [List.flatMap_cons, List.sum_append, List.map_cons, List.sum_cons, sum_flatMap f l]
theorem sum_map_mul {α : Type} (k : Rat) (f : α → Rat) : ∀ l : List α, (l.map fun x => k * f x).sum = k * (l.map f).sum
  | [] => by simp
  | x :: l => by
    rw [List.map_cons, List.map_cons, List.sum_cons, List.sum_cons, sum_map_mul k f l]
    grind
theorem sum_map_add {α : Type} (f g : α → Rat) : ∀ l : List α, (l.map fun x => f x + g x).sum = (l.map f).sum + (l.map g).sum
  | [] => by show (0 : Rat) = 0 + 0; grind
  | x :: l => by
    rw [List.map_cons, List.map_cons, List.map_cons, List.sum_cons, List.sum_cons, List.sum_cons, sum_map_add f g l]
    grind
theorem sum_congr {α : Type} {f g : α → Rat} {l : List α} (h : ∀ x ∈ l, f x = g x) : (l.map f).sum = (l.map g).sum := by
  rw [List.map_congr_left h]
theorem q_zero {x : Fraction} (h : x.num = 0) : q x = 0 := by
  rw [q_div, h]
  have : ((0 : Int) : Rat) = 0 := rfl
  rw [this]
  grind
/-- a sum over all decisions is one over all contexts and actions -/
theorem sum_poss (g : Good s) (f : Event → Rat) (F : Nat → Nat → Rat) (hf : ∀ e ∈ poss s p, f e = F e.context e.action) (hz : ∀ c a, (chance p c a).num = 0 → F c a = 0) :
    ((poss s p).map f).sum = ((List.range s.contexts).map fun c => ((List.range s.actions).map (F c)).sum).sum := by
  have hf : ((poss s p).map f).sum = ((poss s p).map fun e => F e.context e.action).sum := sum_congr hf
  rw [hf]
  unfold poss
  rw [List.map_flatMap, sum_flatMap]
  refine sum_congr fun c _ => ?_
  rw [List.map_filterMap]
  generalize List.range s.actions = l
  induction l with
  | nil => rfl
  | cons a l ih =>
    rw [List.filterMap_cons, List.map_cons, List.sum_cons]
    unfold possAt at ih ⊢
    by_cases z : (chance p c a).num = 0
    · rw [if_pos z, hz c a z]
      simp only [Option.map_none]
      rw [ih]
      grind
    · rw [if_neg z]
      simp only [Option.map_some]
      rw [List.sum_cons, ih]
/-- a policy chooses something -/
theorem rat_ne {n : Nat} (h : 0 < n) : (n : Rat) ≠ 0 := fun e => by
  have : (n : Rat) = ((0 : Nat) : Rat) := e
  have := Rat.natCast_inj.mp this
  omega
theorem sum_getD : ∀ (l : List Nat), ((List.range l.length).map fun i => ((l.getD i 0 : Nat) : Rat)).sum = ((l.sum : Nat) : Rat)
  | [] => rfl
  | x :: l => by
    rw [List.length_cons, List.range_succ_eq_map, List.map_cons, List.map_map, List.sum_cons, List.sum_cons, Rat.natCast_add, ← sum_getD l]
    rfl
theorem q_part {l : List Nat} (h : 0 < l.sum) (i : Nat) : q (fraction ((l.getD i 0 : Nat) : Int) l.sum) = (1 / (l.sum : Rat)) * ((l.getD i 0 : Nat) : Rat) := by
  rw [q_fraction h, Rat.mkRat_eq_div, Rat.intCast_natCast]
  have := rat_ne h
  grind
theorem sum_parts {l : List Nat} {n : Nat} (h : 0 < l.sum) (hn : l.length = n) : ((List.range n).map fun i => q (fraction ((l.getD i 0 : Nat) : Int) l.sum)).sum = 1 := by
  subst hn
  rw [sum_congr (g := fun i => (1 / (l.sum : Rat)) * ((l.getD i 0 : Nat) : Rat)) fun i _ => q_part h i, sum_map_mul, sum_getD]
  have := rat_ne h
  grind
theorem sum_chance (gp : GoodPol s.contexts s.actions p) {c : Nat} (hc : c < s.contexts) : ((List.range s.actions).map fun a => q (chance p c a)).sum = 1 := sum_parts (gp.at_ hc).pos (gp.at_ hc).len
theorem sum_ctx (g : Good s) : ((List.range s.contexts).map fun c => q (contextChance s c)).sum = 1 := sum_parts (tw_sum_pos g) g.twn
/-- all decisions' chances together -/
theorem q_evW (g : Good s) {e : Event} (he : GoodEv s.contexts s.actions e) : q (evW s e) = q (contextChance s e.context) * q e.propensity := q_mul (cc_pos g _) he.pro.dpos
theorem sum_evW (g : Good s) (gp : GoodPol s.contexts s.actions p) : ((poss s p).map fun e => q (evW s e)).sum = 1 := by
  rw [sum_poss g (F := fun c a => q (contextChance s c) * q (chance p c a)) _ (fun e he => by rw [q_evW g (poss_good g gp e he), (poss_mem he).2.2.1]) fun c a z => by rw [q_zero z]; grind]
  rw [sum_congr (g := fun c => q (contextChance s c)) fun c hc => ?_, sum_ctx g]
  rw [sum_map_mul, sum_chance gp (List.mem_range.mp hc)]
  grind
/-! ### the true value -/
def tvParts (s : Study) (p : Policy) : List Fraction := (poss s p).map fun e => mul (evW s e) (ofNat e.reward)
theorem pos_of_mul {x y : Fraction} (hx : 0 < x.den) (hy : 0 < y.den) : 0 < (mul x y).den := (nrm_mul hx hy).pos
theorem tv_pos (g : Good s) (gp : GoodPol s.contexts s.actions p) : ∀ x ∈ tvParts s p, 0 < x.den := fun x hx => by
  obtain ⟨e, he, rfl⟩ := List.mem_map.mp hx
  exact pos_of_mul (evW_pos g (poss_good g gp e he)) Nat.one_pos
theorem true_is (g : Good s) (gp : GoodPol s.contexts s.actions p) : trueValue s p = total (tvParts s p) := by
  have chp : ∀ c, c ∈ List.range s.contexts → ∀ a, 0 < (chance p c a).den := fun c hc a => (bd_chance gp (List.mem_range.mp hc)).pos
  have inner : ∀ c, c ∈ List.range s.contexts → ∀ x ∈ (List.range s.actions).map fun a => mul (chance p c a) (ofNat (rewardIn s c a)), 0 < x.den := fun c hc x hx => by
    obtain ⟨a, _, rfl⟩ := List.mem_map.mp hx
    exact pos_of_mul (chp c hc a) Nat.one_pos
  have outer : ∀ x ∈ (List.range s.contexts).map fun c => mul (contextChance s c) (total ((List.range s.actions).map fun a => mul (chance p c a) (ofNat (rewardIn s c a)))), 0 < x.den := fun x hx => by
    obtain ⟨c, hc, rfl⟩ := List.mem_map.mp hx
    exact pos_of_mul (cc_pos g c) (pos_total (inner c hc))
  refine Nrm.ext (nrm_total outer) (nrm_total (tv_pos g gp)) ?_
  unfold trueValue
  rw [q_total outer, q_total (tv_pos g gp), List.map_map]
  unfold tvParts
  rw [List.map_map]
  rw [sum_poss g (F := fun c a => q (contextChance s c) * (q (chance p c a) * ((rewardIn s c a : Nat) : Rat))) _ (fun e he => ?_) fun c a z => by rw [q_zero z]; grind]
  · refine sum_congr fun c hc => ?_
    show q (mul _ _) = _
    rw [q_mul (cc_pos g c) (pos_total (inner c hc)), q_total (inner c hc), List.map_map, sum_map_mul]
    congr 1
    refine sum_congr fun a _ => ?_
    show q (mul _ _) = _
    rw [q_mul (chp c hc a) Nat.one_pos, q_ofNat]
  · have ge := poss_good g gp e he
    obtain ⟨h1, h2, h3, h4, h5⟩ := poss_mem he
    show q (mul _ _) = _
    rw [q_mul (evW_pos g ge) Nat.one_pos, q_evW g ge, q_ofNat, h3, h5]
    grind
/-! ### the expectation and the variance of a term -/
def exParts (s : Study) (lg p : Policy) (x : Estimator) : List Fraction := (poss s lg).map fun e => mul (evW s e) (term s p x e)
theorem expected_is (s : Study) (lg p : Policy) (x : Estimator) : expected s lg p x = total (exParts s lg p x) := by
  unfold expected exParts
  rw [decisions_is, List.map_map]
  rfl
/-- the squares that the program adds up -/
def vrParts (s : Study) (lg p : Policy) (x : Estimator) : List Fraction := (poss s lg).map fun e => mul (evW s e) (square (sub (term s p x e) (expected s lg p x)))
theorem variance_is {lg : Policy} {x : Estimator} (g : Good s) (gl : GoodPol s.contexts s.actions lg) (tp : ∀ e ∈ poss s lg, 0 < (term s p x e).den) : termVariance s lg p x = total (vrParts s lg p x) := by
  have wp : ∀ e ∈ poss s lg, 0 < (evW s e).den := fun e he => evW_pos g (poss_good g gl e he)
  have ep : ∀ y ∈ exParts s lg p x, 0 < y.den := fun y hy => by
    obtain ⟨e, he, rfl⟩ := List.mem_map.mp hy
    exact pos_of_mul (wp e he) (tp e he)
  have mp : 0 < (expected s lg p x).den := by
    rw [expected_is]
    exact pos_total ep
  have sp : ∀ e ∈ poss s lg, 0 < (square (term s p x e)).den := fun e he => pos_of_mul (tp e he) (tp e he)
  have dp : ∀ e ∈ poss s lg, 0 < (sub (term s p x e) (expected s lg p x)).den := fun e he => (nrm_sub (tp e he) mp).pos
  have vp : ∀ y ∈ vrParts s lg p x, 0 < y.den := fun y hy => by
    obtain ⟨e, he, rfl⟩ := List.mem_map.mp hy
    exact pos_of_mul (wp e he) (pos_of_mul (dp e he) (dp e he))
  have e1 : ((decisions s lg).map fun d => mul d.1 (square (term s p x d.2))) = (poss s lg).map fun e => mul (evW s e) (square (term s p x e)) := by
    rw [decisions_is, List.map_map]
    rfl
  have tp1 : ∀ y ∈ (poss s lg).map fun e => mul (evW s e) (square (term s p x e)), 0 < y.den := fun y hy => by
    obtain ⟨e, he, rfl⟩ := List.mem_map.mp hy
    exact pos_of_mul (wp e he) (sp e he)
  unfold termVariance
  rw [e1]
  refine Nrm.ext (nrm_sub (pos_total tp1) (pos_of_mul mp mp)) (nrm_total vp) ?_
  have qs : ∀ z : Fraction, 0 < z.den → q (square z) = q z * q z := fun z h => q_mul h h
  have mp2 : 0 < (square (expected s lg p x)).den := pos_of_mul mp mp
  rw [q_sub (pos_total tp1) mp2, qs _ mp, q_total tp1, q_total vp]
  have mu : q (expected s lg p x) = ((poss s lg).map fun e => q (evW s e) * q (term s p x e)).sum := by
    rw [expected_is, q_total ep]
    unfold exParts
    rw [List.map_map]
    exact sum_congr fun e he => q_mul (wp e he) (tp e he)
  have m2 : (((poss s lg).map fun e => mul (evW s e) (square (term s p x e))).map q).sum = ((poss s lg).map fun e => q (evW s e) * (q (term s p x e) * q (term s p x e))).sum := by
    rw [List.map_map]
    refine sum_congr fun e he => ?_
    show q (mul _ _) = _
    rw [q_mul (wp e he) (sp e he), qs _ (tp e he)]
  have m3 : ((vrParts s lg p x).map q).sum = ((poss s lg).map fun e => q (evW s e) * (q (term s p x e) * q (term s p x e)) + ((-2 * q (expected s lg p x)) * (q (evW s e) * q (term s p x e)) + (q (expected s lg p x) * q (expected s lg p x)) * q (evW s e))).sum := by
    unfold vrParts
    rw [List.map_map]
    refine sum_congr fun e he => ?_
    have dp2 : 0 < (square (sub (term s p x e) (expected s lg p x))).den := pos_of_mul (dp e he) (dp e he)
    show q (mul _ _) = _
    rw [q_mul (wp e he) dp2, qs _ (dp e he), q_sub (tp e he) mp]
    grind
  rw [m2, m3, sum_map_add, sum_map_add, sum_map_mul, sum_map_mul, ← mu, sum_evW g gl]
  grind
end
end LwM
end
/-! LwDraw -/
section
set_option Elab.async false
set_option linter.all false
namespace LwM
open Kp432
/-! resampling: whole numbers over one bottom -/
theorem lcm_form (r d : Nat) : r / Nat.gcd r d * d = Nat.lcm r d := Nat.div_mul_right_comm (Nat.gcd_dvd_left r d) d
def botStep (r : Nat) (x : Fraction) : Nat := r / Nat.gcd r x.den * x.den
/-- the bottoms' least multiple, as the program finds it -/
def botOf (l : List Fraction) : Nat := l.foldl botStep 1
theorem botStep_is (r : Nat) (x : Fraction) : botStep r x = Nat.lcm r x.den := lcm_form _ _
theorem bot_dvd_from {D : Nat} : ∀ (l : List Fraction) (r : Nat), r ∣ D → (∀ x ∈ l, x.den ∣ D) → l.foldl botStep r ∣ D
  | [], r, h, _ => h
  | x :: l, r, h, k => bot_dvd_from l _ (by rw [botStep_is]; exact Nat.lcm_dvd h (k x List.mem_cons_self)) fun y hy => k y (List.mem_cons_of_mem _ hy)
theorem bot_mul_from : ∀ (l : List Fraction) (r : Nat), r ∣ l.foldl botStep r ∧ ∀ x ∈ l, x.den ∣ l.foldl botStep r
  | [], r => ⟨Nat.dvd_refl _, fun x h => by cases h⟩
  | x :: l, r => by
    obtain ⟨h1, h2⟩ := bot_mul_from l (botStep r x)
    rw [List.foldl_cons]
    have e := botStep_is r x
    refine ⟨Nat.dvd_trans (by rw [e]; exact Nat.dvd_lcm_left _ _) h1, fun y hy => ?_⟩
    rcases List.mem_cons.mp hy with rfl | hy
    · exact Nat.dvd_trans (by rw [e]; exact Nat.dvd_lcm_right _ _) h1
    · exact h2 y hy
theorem bot_dvd {D : Nat} {l : List Fraction} (h : ∀ x ∈ l, x.den ∣ D) : botOf l ∣ D := bot_dvd_from l 1 (Nat.one_dvd _) h
theorem den_dvd_bot {l : List Fraction} {x : Fraction} (h : x ∈ l) : x.den ∣ botOf l := (bot_mul_from l 1).2 x h
theorem bot_pos {D : Nat} {l : List Fraction} (d0 : 0 < D) (h : ∀ x ∈ l, x.den ∣ D) : 0 < botOf l := Nat.pos_of_dvd_of_pos (bot_dvd h) d0
def topOver (B : Nat) (x : Fraction) : Int := x.num * ((B / x.den : Nat) : Int)
theorem q_top {B : Nat} {x : Fraction} (b0 : 0 < B) (hx : 0 < x.den) (h : x.den ∣ B) : q x = ((topOver B x : Int) : Rat) / (B : Rat) := by
  obtain ⟨k, rfl⟩ := h
  have e : x.den * k / x.den = k := Nat.mul_div_cancel_left _ hx
  have kp : 0 < k := Nat.pos_of_mul_pos_left b0
  unfold topOver
  rw [e, q_div, Rat.intCast_mul, Rat.natCast_mul, Rat.intCast_natCast]
  have h1 := qd_ne hx
  have h2 := rat_ne kp
  grind
/-! ### the seeds -/
/-- the seed behind m draws -/
def sdn : Nat → Nat → Nat
  | 0, s => s
  | m + 1, s => nextSeed (sdn m s)
theorem sdn_next : ∀ (m s : Nat), sdn m (nextSeed s) = sdn (m + 1) s
  | 0, s => rfl
  | m + 1, s => by
    show nextSeed (sdn m (nextSeed s)) = _
    rw [sdn_next m s]
    rfl
theorem sdn_add : ∀ (a b s : Nat), sdn a (sdn b s) = sdn (b + a) s
  | 0, b, s => rfl
  | a + 1, b, s => by
    show nextSeed (sdn a (sdn b s)) = _
    rw [sdn_add a b s]
    rfl
/-- the place that the m-th draw takes -/
def place (n s m : Nat) : Nat := sdn (m + 1) s / 65536 % n
theorem resample_is (n : Nat) : ∀ (c s : Nat), resample n c s = ((List.range c).map (place n s), sdn c s)
  | 0, s => rfl
  | c + 1, s => by
    show (nextSeed s / 65536 % n :: (resample n c (nextSeed s)).1, (resample n c (nextSeed s)).2) = _
    rw [resample_is n c (nextSeed s), List.range_succ_eq_map, List.map_cons, List.map_map]
    show (_ :: _, sdn c (nextSeed s)) = _
    rw [sdn_next]
    refine congrArg (fun z => (_ :: z, sdn (c + 1) s)) ?_
    refine List.map_congr_left fun m _ => ?_
    show sdn (m + 1) (nextSeed s) / 65536 % n = sdn (m + 1 + 1) s / 65536 % n
    rw [sdn_next]
/-- the sum that one round draws -/
def roundSum (tops : List Int) (n s : Nat) : Int := ((List.range n).map fun m => tops.getD (place n s m) 0).sum
def sumsOf (tops : List Int) (n s rounds : Nat) : List Int := (List.range rounds).map fun i => roundSum tops n (sdn (i * n) s)
/-! ### means -/
def overB (B n : Nat) (S : Int) : Fraction := fraction S (B * n)
theorem sum_int_cast : ∀ l : List Int, ((l.sum : Int) : Rat) = (l.map fun z : Int => (z : Rat)).sum
  | [] => rfl
  | z :: l => by rw [List.sum_cons, List.map_cons, List.sum_cons, Rat.intCast_add, sum_int_cast l]
theorem mean_is {ts : List Fraction} {B : Nat} (b0 : 0 < B) (hp : ∀ x ∈ ts, Nrm x ∧ x.den ∣ B) (is : List Nat) (hi : ∀ i ∈ is, i < ts.length) (n0 : 0 < is.length) :
    mean (is.map fun i => ts.getD i (ofNat 0)) = overB B is.length ((is.map fun i => (ts.map (topOver B)).getD i 0).sum) := by
  have hm : ∀ i ∈ is, ts.getD i (ofNat 0) ∈ ts := fun i h => getD_mem (hi i h)
  have hpos : ∀ x ∈ is.map (fun i => ts.getD i (ofNat 0)), 0 < x.den := fun x hx => by
    obtain ⟨i, h, rfl⟩ := List.mem_map.mp hx
    exact (hp _ (hm i h)).1.pos
  have l0 : 0 < (is.map fun i => ts.getD i (ofNat 0)).length := by rw [List.length_map]; exact n0
  have bn : 0 < B * is.length := Nat.mul_pos b0 n0
  rw [← pmean_eq l0]
  unfold pmean overB
  rw [List.length_map]
  refine Nrm.ext (nrm_over (pos_total hpos) (by rw [ofNat_num]; omega)) (fraction_nrm bn) ?_
  rw [q_over (pos_total hpos) Nat.one_pos (by rw [ofNat_num]; omega), q_ofNat, q_total hpos, q_fraction bn, Rat.mkRat_eq_div, sum_int_cast, Rat.natCast_mul, List.map_map, List.map_map]
  have e : (is.map (q ∘ fun i => ts.getD i (ofNat 0))).sum = (is.map fun i => (1 / (B : Rat)) * (((ts.map (topOver B)).getD i 0 : Int) : Rat)).sum := by
    refine sum_congr fun i h => ?_
    show q _ = _
    have hx := hp _ (hm i h)
    rw [q_top b0 hx.1.pos hx.2]
    have e2 : (ts.map (topOver B)).getD i 0 = topOver B (ts.getD i (ofNat 0)) := by
      have := hi i h
      rw [List.getD_eq_getElem?_getD, List.getD_eq_getElem?_getD, List.getElem?_map, List.getElem?_eq_getElem this]
      rfl
    rw [e2]
    have := rat_ne b0
    grind
  rw [e, sum_map_mul]
  have h1 := rat_ne b0
  have h2 := rat_ne n0
  have e3 : (is.map ((fun z : Int => (z : Rat)) ∘ fun i => (ts.map (topOver B)).getD i 0)).sum = (is.map fun i => (((ts.map (topOver B)).getD i 0 : Int) : Rat)).sum := rfl
  rw [e3]
  grind
theorem place_lt {n s m : Nat} (h : 0 < n) : place n s m < n := Nat.mod_lt _ h
/-! ### the sorted list -/
def insI (x : Int) : List Int → List Int
  | [] => [x]
  | y :: r => if x < y then x :: y :: r else y :: insI x r
theorem rat_lt {a b : Int} {n : Nat} (h : 0 < n) : (fraction a n).num * ((fraction b n).den : Int) < (fraction b n).num * ((fraction a n).den : Int) ↔ a < b := by
  have ga := gcd_pos_of (n := a) h
  have gb := gcd_pos_of (n := b) h
  rw [fraction_eq h, fraction_eq h]
  show a / ((Nat.gcd a.natAbs n : Nat) : Int) * ((n / Nat.gcd b.natAbs n : Nat) : Int) < b / ((Nat.gcd b.natAbs n : Nat) : Int) * ((n / Nat.gcd a.natAbs n : Nat) : Int) ↔ a < b
  obtain ⟨a', ha⟩ : ((Nat.gcd a.natAbs n : Nat) : Int) ∣ a := Int.ofNat_dvd_left.mpr (Nat.gcd_dvd_left _ _)
  obtain ⟨b', hb⟩ : ((Nat.gcd b.natAbs n : Nat) : Int) ∣ b := Int.ofNat_dvd_left.mpr (Nat.gcd_dvd_left _ _)
  obtain ⟨u, hu⟩ := Nat.gcd_dvd_right a.natAbs n
  obtain ⟨v, hv⟩ := Nat.gcd_dvd_right b.natAbs n
  generalize Nat.gcd a.natAbs n = g1 at *
  generalize Nat.gcd b.natAbs n = g2 at *
  have e1 : a / (g1 : Int) = a' := by rw [ha]; exact Int.mul_ediv_cancel_left _ (by omega)
  have e2 : b / (g2 : Int) = b' := by rw [hb]; exact Int.mul_ediv_cancel_left _ (by omega)
  have e3 : n / g1 = u := by conv => lhs; lhs; rw [hu]
                             exact Nat.mul_div_cancel_left _ ga
  have e4 : n / g2 = v := by conv => lhs; lhs; rw [hv]
                             exact Nat.mul_div_cancel_left _ gb
  rw [e1, e2, e3, e4]
  -- a' v < b' u, both sides times g1 g2: a n < b n
  have nz : (n : Int) = g1 * u := by rw [hu, Int.natCast_mul]
  have nz2 : (n : Int) = g2 * v := by rw [hv, Int.natCast_mul]
  have gg : (0 : Int) < g1 * g2 := Int.mul_pos (by omega) (by omega)
  have l1 : a' * v * (g1 * g2) = a * n := by
    have : a * (n : Int) = (g1 * a') * (g2 * v) := by rw [← ha, ← nz2]
    grind
  have l2 : b' * u * (g1 * g2) = b * n := by
    have : b * (n : Int) = (g2 * b') * (g1 * u) := by rw [← hb, ← nz]
    grind
  have np : (0 : Int) < n := by omega
  constructor
  · intro z
    have := Int.mul_lt_mul_of_pos_right z gg
    rw [l1, l2] at this
    exact Int.lt_of_mul_lt_mul_right this (Int.le_of_lt np)
  · intro z
    have := Int.mul_lt_mul_of_pos_right z np
    rw [← l1, ← l2] at this
    exact Int.lt_of_mul_lt_mul_right this (Int.le_of_lt gg)
theorem less_overB {B n : Nat} (h : 0 < B * n) (a b : Int) : less (overB B n a) (overB B n b) = decide (a < b) := decide_eq_decide.mpr (rat_lt h)
theorem insertUp_is {B n : Nat} (h : 0 < B * n) (x : Int) : ∀ l : List Int, insertUp (overB B n x) (l.map (overB B n)) = (insI x l).map (overB B n)
  | [] => rfl
  | y :: r => by
    rw [List.map_cons]
    unfold insertUp insI
    rw [less_overB h]
    by_cases z : x < y
    · rw [if_pos (decide_eq_true z), if_pos z]
      rfl
    · rw [if_neg (by rw [decide_eq_false z]; decide), if_neg z, insertUp_is h x r]
      rfl
theorem boot_from {ts : List Fraction} {B : Nat} (b0 : 0 < B) (hp : ∀ x ∈ ts, Nrm x ∧ x.den ∣ B) (n0 : 0 < ts.length) : ∀ (k s : Nat) (acc : List Int),
    bootstrap ts k s (acc.map (overB B ts.length)) = (((List.range k).map fun i => roundSum (ts.map (topOver B)) ts.length (sdn (i * ts.length) s)).foldl (fun m x => insI x m) acc).map (overB B ts.length)
  | 0, s, acc => rfl
  | k + 1, s, acc => by
    have bn : 0 < B * ts.length := Nat.mul_pos b0 n0
    unfold bootstrap
    simp only
    rw [resample_is]
    simp only
    rw [mean_is b0 hp _ (fun i hi => by
      obtain ⟨m, _, rfl⟩ := List.mem_map.mp hi
      exact place_lt n0) (by rw [List.length_map, List.length_range]; exact n0)]
    rw [List.length_map, List.length_range, insertUp_is bn, boot_from b0 hp n0 k, List.map_map, List.range_succ_eq_map, List.map_cons, List.foldl_cons]
    have e1 : ((List.map (place ts.length s) (List.range ts.length)).map fun i => (ts.map (topOver B)).getD i 0).sum = roundSum (ts.map (topOver B)) ts.length (sdn (0 * ts.length) s) := by
      rw [Nat.zero_mul]
      unfold roundSum
      rw [List.map_map]
      rfl
    have e2 : ((List.range k).map fun i => roundSum (ts.map (topOver B)) ts.length (sdn (i * ts.length) (sdn ts.length s))) = (List.range k).map ((fun i => roundSum (ts.map (topOver B)) ts.length (sdn (i * ts.length) s)) ∘ Nat.succ) := by
      refine List.map_congr_left fun i _ => ?_
      have e : ts.length + i * ts.length = (i + 1) * ts.length := by rw [Nat.add_mul, Nat.one_mul, Nat.add_comm]
      show roundSum _ _ (sdn (i * ts.length) (sdn ts.length s)) = roundSum _ _ (sdn ((i + 1) * ts.length) s)
      rw [sdn_add, e]
    rw [List.map_map] at e1
    rw [e1, e2, List.map_map]
theorem insI_perm (x : Int) : ∀ l : List Int, (insI x l).Perm (x :: l)
  | [] => List.Perm.refl _
  | y :: r => by
    unfold insI
    split
    · exact List.Perm.refl _
    · exact ((insI_perm x r).cons y).trans (List.Perm.swap x y r)
theorem insI_sorted (x : Int) : ∀ {l : List Int}, l.Pairwise (· ≤ ·) → (insI x l).Pairwise (· ≤ ·)
  | [], _ => by unfold insI; simp
  | y :: r, h => by
    obtain ⟨h1, h2⟩ := List.pairwise_cons.mp h
    unfold insI
    split
    · rename_i z
      refine List.pairwise_cons.mpr ⟨fun w hw => ?_, h⟩
      rcases List.mem_cons.mp hw with rfl | hw
      · omega
      · have := h1 w hw
        omega
    · rename_i z
      refine List.pairwise_cons.mpr ⟨fun w hw => ?_, insI_sorted x h2⟩
      rcases List.mem_cons.mp ((insI_perm x r).mem_iff.mp hw) with rfl | hw
      · omega
      · exact h1 w hw
theorem insAll : ∀ (l acc : List Int), acc.Pairwise (· ≤ ·) → ((l.foldl (fun m x => insI x m) acc).Perm (l ++ acc) ∧ (l.foldl (fun m x => insI x m) acc).Pairwise (· ≤ ·))
  | [], acc, h => ⟨List.Perm.refl _, h⟩
  | x :: l, acc, h => by
    rw [List.foldl_cons]
    obtain ⟨h1, h2⟩ := insAll l (insI x acc) (insI_sorted x h)
    exact ⟨h1.trans (((insI_perm x acc).append_left l).trans List.perm_middle), h2⟩
/-- what bootstrap tells, from the sorted sums -/
theorem boot_is {ts : List Fraction} {B : Nat} (b0 : 0 < B) (hp : ∀ x ∈ ts, Nrm x ∧ x.den ∣ B) (n0 : 0 < ts.length) {k s : Nat} {ss : List Int} (h1 : ss.Perm (sumsOf (ts.map (topOver B)) ts.length s k)) (h2 : ss.Pairwise (· ≤ ·)) :
    bootstrap ts k s [] = ss.map (overB B ts.length) := by
  have e := boot_from b0 hp n0 k s []
  rw [List.map_nil] at e
  rw [e]
  congr 1
  obtain ⟨q1, q2⟩ := insAll ((List.range k).map fun i => roundSum (ts.map (topOver B)) ts.length (sdn (i * ts.length) s)) [] List.Pairwise.nil
  rw [List.append_nil] at q1
  exact List.Perm.eq_of_pairwise (le := (· ≤ ·)) (fun a b _ _ x y => Int.le_antisymm x y) q2 h2 (q1.trans h1.symm)
end LwM
end
/-! LwRankM -/
section
set_option Elab.async false
set_option linter.all false
namespace LwM
open Kp432
/-! ranked lists -/
theorem hits_sum : ∀ {l : List Nat}, (∀ x ∈ l, x ≤ 1) → hits l = l.sum
  | [], _ => rfl
  | x :: l, h => by
    have ih := hits_sum (l := l) fun y hy => h y (List.mem_cons_of_mem _ hy)
    have hx := h x List.mem_cons_self
    unfold hits at ih ⊢
    rw [List.countP_cons, List.sum_cons, ih]
    rcases (by omega : x = 0 ∨ x = 1) with rfl | rfl
    · simp
    · simp
      omega
theorem hits_len (l : List Nat) : hits l ≤ l.length := List.countP_le_length
/-- counted by places -/
theorem count_range {p : Nat → Bool} : ∀ l : List Nat, (List.range l.length).countP (fun i => p (l.getD i 0)) = l.countP p
  | [] => rfl
  | x :: l => by
    rw [List.length_cons, List.range_succ_eq_map, List.countP_cons, List.countP_cons, List.countP_map, ← count_range l]
    rfl
def isOne (l : List Nat) (i : Nat) : Bool := l.getD i 0 == 1
/-- the ranks of all relevant ones -/
def ranksOf (l : List Nat) : List Nat := ((List.range l.length).filter (isOne l)).map (· + 1)
theorem one_iff {l : List Nat} (h : ∀ x ∈ l, x ≤ 1) (i : Nat) : isOne l i = (l.getD i 0 != 0) := by
  unfold isOne
  by_cases hi : i < l.length
  · have := h _ (getD_mem (d := 0) hi)
    rcases (by omega : l.getD i 0 = 0 ∨ l.getD i 0 = 1) with e | e <;> rw [e] <;> rfl
  · rw [List.getD_eq_getElem?_getD, List.getElem?_eq_none (by omega)]
    rfl
theorem ranks_len {l : List Nat} (h : ∀ x ∈ l, x ≤ 1) : (ranksOf l).length = hits l := by
  unfold ranksOf
  rw [List.length_map, ← List.countP_eq_length_filter]
  have e : isOne l = fun i => (fun x => x != 0) (l.getD i 0) := by
    funext i
    exact one_iff h i
  rw [e]
  exact count_range (p := fun x => x != 0) l
theorem ranks_mem {l : List Nat} {r : Nat} (h : r ∈ ranksOf l) : 1 ≤ r ∧ r ≤ l.length := by
  obtain ⟨i, hi, rfl⟩ := List.mem_map.mp h
  have := List.mem_range.mp (List.mem_filter.mp hi).1
  omega
theorem average_is {l : List Nat} (h : ∀ x ∈ l, x ≤ 1) : averagePrecision l = mean ((ranksOf l).map fun r => precision r l) := by
  have e0 : ((List.range l.length).filter fun i => l.getD i 0 != 0) = (List.range l.length).filter (isOne l) := by
    congr 1
    funext i
    exact (one_iff h i).symm
  have e1 : (((List.range l.length).filter fun i => l.getD i 0 != 0).map fun i => precision (i + 1) l) = (ranksOf l).map fun r => precision r l := by
    rw [e0]
    unfold ranksOf
    rw [List.map_map]
    rfl
  unfold averagePrecision mean
  rw [e1, ← ranks_len h, List.length_map]
  by_cases z : (ranksOf l).length = 0
  · rw [if_pos z, if_pos (by rw [List.isEmpty_iff]; exact List.eq_nil_of_length_eq_zero (by rw [List.length_map]; exact z))]
  · rw [if_neg z, if_neg (by
      rw [List.isEmpty_iff]
      intro e
      have := congrArg List.length e
      rw [List.length_map] at this
      exact z this)]
def firstOf (rs : List Nat) : Fraction := match rs with
  | [] => ofNat 0
  | r :: _ => fraction 1 r
theorem recip_is {l : List Nat} (h : ∀ x ∈ l, x ≤ 1) : reciprocalRank l = firstOf (ranksOf l) := by
  have key : l.findIdx? (fun x => x != 0) = (List.range l.length).find? (isOne l) := by
    cases e : (List.range l.length).find? (isOne l) with
    | none =>
      rw [List.findIdx?_eq_none_iff]
      intro x hx
      obtain ⟨i, hi, rfl⟩ := List.getElem_of_mem hx
      have := List.find?_eq_none.mp e i (List.mem_range.mpr hi)
      rw [one_iff h, List.getD_eq_getElem?_getD, List.getElem?_eq_getElem hi] at this
      simpa using this
    | some i =>
      obtain ⟨h1, h2, h3⟩ := List.find?_range_eq_some.mp e
      have hi := List.mem_range.mp h2
      rw [List.findIdx?_eq_some_iff_getElem]
      refine ⟨hi, ?_, fun j hj => ?_⟩
      · rw [one_iff h, List.getD_eq_getElem?_getD, List.getElem?_eq_getElem hi] at h1
        exact h1
      · have := h3 j hj
        rw [one_iff h, List.getD_eq_getElem?_getD, List.getElem?_eq_getElem (by omega)] at this
        simpa using this
  unfold reciprocalRank
  rw [key]
  unfold ranksOf firstOf
  rw [← List.head?_filter]
  cases (List.range l.length).filter (isOne l) with
  | nil => rfl
  | cons i r => rfl
/-! ### sizes -/
def f12 : Nat := 479001600
theorem dvd12 {r : Nat} (h1 : 1 ≤ r) (h2 : r ≤ 12) : r ∣ f12 := by
  have all : ∀ r : Fin 13, 1 ≤ r.val → r.val ∣ f12 := by decide +kernel
  exact all ⟨r, by omega⟩ h1
theorem bd_prec {r : Nat} {l : List Nat} (h1 : 1 ≤ r) (h2 : r ≤ 12) : Bd f12 1 (precision r l) := by
  refine bd_fraction h1 (dvd12 h1 h2) ?_
  have := hits_len (l.take r)
  rw [List.length_take] at this
  rw [Int.natAbs_natCast]
  omega
def gparts (l : List Nat) : List Fraction := (List.range l.length).map fun i => fraction (l.getD i 0 : Nat) (i + 1)
theorem disc_is (l : List Nat) : discounted l = total (gparts l) := rfl
theorem bd_gparts {l : List Nat} (hl : l.length ≤ 12) (h : ∀ x ∈ l, x ≤ 100) : ∀ y ∈ gparts l, Bd f12 100 y := fun y hy => by
  obtain ⟨i, hi, rfl⟩ := List.mem_map.mp hy
  have hi := List.mem_range.mp hi
  refine bd_fraction (by omega) (dvd12 (by omega) (by omega)) ?_
  have := h _ (getD_mem (d := 0) hi)
  rw [Int.natAbs_natCast]
  have : 100 * 1 ≤ 100 * (i + 1) := Nat.mul_le_mul_left _ (by omega)
  omega
theorem gparts_len (l : List Nat) : (gparts l).length = l.length := by
  unfold gparts
  rw [List.length_map, List.length_range]
theorem bd_disc {l : List Nat} (hl : l.length ≤ 12) (h : ∀ x ∈ l, x ≤ 100) : Bd f12 1200 (discounted l) := by
  rw [disc_is]
  exact (bd_total (n := 12) (bd_gparts hl h) (by rw [gparts_len]; exact hl)).mono (Nat.dvd_refl _) (by decide)
/-! ### a sum is 0 where all parts are -/
theorem add_zero_iff {x y : Fraction} (hx : 0 < x.den) (hy : 0 < y.den) (nx : 0 ≤ x.num) (ny : 0 ≤ y.num) : (add x y).num = 0 ↔ x.num = 0 ∧ y.num = 0 := by
  have e : (add x y).num = 0 ↔ x.num * (y.den : Int) + y.num * (x.den : Int) = 0 := by
    unfold add
    have nn : 0 ≤ x.num * (y.den : Int) + y.num * (x.den : Int) := Int.add_nonneg (Int.mul_nonneg nx (by omega)) (Int.mul_nonneg ny (by omega))
    generalize x.num * (y.den : Int) + y.num * (x.den : Int) = z at nn
    obtain ⟨m, rfl⟩ := Int.eq_ofNat_of_zero_le nn
    rw [frac_zero (Nat.mul_pos hx hy)]
    omega
  rw [e]
  have a := Int.mul_nonneg nx (show (0 : Int) ≤ (y.den : Int) by omega)
  have b := Int.mul_nonneg ny (show (0 : Int) ≤ (x.den : Int) by omega)
  constructor
  · intro z
    have z1 : x.num * (y.den : Int) = 0 := by omega
    have z2 : y.num * (x.den : Int) = 0 := by omega
    rcases Int.mul_eq_zero.mp z1 with z1 | z1
    · rcases Int.mul_eq_zero.mp z2 with z2 | z2
      · exact ⟨z1, z2⟩
      · omega
    · omega
  · rintro ⟨h1, h2⟩
    rw [h1, h2]
    simp
theorem total_zero_iff {l : List Fraction} (h : ∀ x ∈ l, 0 < x.den ∧ 0 ≤ x.num) : (total l).num = 0 ↔ ∀ x ∈ l, x.num = 0 := by
  have key : ∀ (l : List Fraction) (z : Fraction), 0 < z.den → 0 ≤ z.num → (∀ x ∈ l, 0 < x.den ∧ 0 ≤ x.num) → ((l.foldl add z).num = 0 ↔ z.num = 0 ∧ ∀ x ∈ l, x.num = 0) := by
    intro l
    induction l with
    | nil => intro z _ _ _; exact ⟨fun h => ⟨h, fun x hx => by cases hx⟩, fun h => h.1⟩
    | cons x l ih =>
      intro z hz nz h
      obtain ⟨hx, nx⟩ := h x List.mem_cons_self
      rw [List.foldl_cons, ih _ (nrm_add hz hx).pos (nn_add nz nx) fun y hy => h y (List.mem_cons_of_mem _ hy), add_zero_iff hz hx nz nx]
      constructor
      · rintro ⟨⟨h1, h2⟩, h3⟩
        exact ⟨h1, fun y hy => by
          rcases List.mem_cons.mp hy with rfl | hy
          · exact h2
          · exact h3 y hy⟩
      · rintro ⟨h1, h2⟩
        exact ⟨⟨h1, h2 x List.mem_cons_self⟩, fun y hy => h2 y (List.mem_cons_of_mem _ hy)⟩
  unfold total
  rw [key l (ofNat 0) Nat.one_pos (Int.le_refl 0) h]
  exact ⟨fun h => h.2, fun h => ⟨rfl, h⟩⟩
theorem gparts_nn (l : List Nat) : ∀ y ∈ gparts l, 0 < y.den ∧ 0 ≤ y.num := fun y hy => by
  obtain ⟨i, hi, rfl⟩ := List.mem_map.mp hy
  exact ⟨(fraction_nrm (by omega)).pos, nn_fraction (by omega)⟩
theorem disc_nn (l : List Nat) : 0 ≤ (discounted l).num := nn_total fun y hy => (gparts_nn l y hy).2
theorem disc_zero_iff (l : List Nat) : (discounted l).num = 0 ↔ ∀ x ∈ l, x = 0 := by
  rw [disc_is, total_zero_iff (gparts_nn l)]
  constructor
  · intro h x hx
    obtain ⟨i, hi, rfl⟩ := List.getElem_of_mem hx
    have := h (fraction (l.getD i 0 : Nat) (i + 1)) (List.mem_map.mpr ⟨i, List.mem_range.mpr hi, rfl⟩)
    rw [frac_zero (by omega), List.getD_eq_getElem?_getD, List.getElem?_eq_getElem hi] at this
    exact this
  · intro h y hy
    obtain ⟨i, hi, rfl⟩ := List.mem_map.mp hy
    rw [frac_zero (by omega)]
    exact h _ (getD_mem (List.mem_range.mp hi))
/-! ### the ideal list -/
def downOf (l : List Nat) : List Nat := l.foldl (fun (m : List Nat) (x : Nat) => insertDown x m) []
theorem ideal_is (l : List Nat) : ideal l = discounted (downOf l) := rfl
theorem insD_perm (x : Nat) : ∀ l : List Nat, (insertDown x l).Perm (x :: l)
  | [] => List.Perm.refl _
  | y :: r => by
    unfold insertDown
    split
    · exact List.Perm.refl _
    · exact ((insD_perm x r).cons y).trans (List.Perm.swap x y r)
theorem insD_sorted (x : Nat) : ∀ {l : List Nat}, l.Pairwise (· ≥ ·) → (insertDown x l).Pairwise (· ≥ ·)
  | [], _ => by unfold insertDown; simp
  | y :: r, h => by
    obtain ⟨h1, h2⟩ := List.pairwise_cons.mp h
    unfold insertDown
    split
    · rename_i z
      refine List.pairwise_cons.mpr ⟨fun w hw => ?_, h⟩
      rcases List.mem_cons.mp hw with rfl | hw
      · omega
      · have := h1 w hw
        omega
    · rename_i z
      refine List.pairwise_cons.mpr ⟨fun w hw => ?_, insD_sorted x h2⟩
      rcases List.mem_cons.mp ((insD_perm x r).mem_iff.mp hw) with rfl | hw
      · omega
      · exact h1 w hw
theorem insDAll : ∀ (l acc : List Nat), acc.Pairwise (· ≥ ·) → ((l.foldl (fun (m : List Nat) (x : Nat) => insertDown x m) acc).Perm (l ++ acc) ∧ (l.foldl (fun (m : List Nat) (x : Nat) => insertDown x m) acc).Pairwise (· ≥ ·))
  | [], acc, h => ⟨List.Perm.refl _, h⟩
  | x :: l, acc, h => by
    rw [List.foldl_cons]
    obtain ⟨h1, h2⟩ := insDAll l (insertDown x acc) (insD_sorted x h)
    exact ⟨h1.trans (((insD_perm x acc).append_left l).trans List.perm_middle), h2⟩
theorem down_perm (l : List Nat) : (downOf l).Perm l := by
  have h := (insDAll l [] List.Pairwise.nil).1
  rw [List.append_nil] at h
  exact h
theorem down_sorted (l : List Nat) : (downOf l).Pairwise (· ≥ ·) := (insDAll l [] List.Pairwise.nil).2
/-- what sorted by reverse hands over -/
theorem down_is {l : List Nat} {ns : List Int} (h1 : ns.Perm (l.map fun n : Nat => (n : Int))) (h2 : ns.Pairwise (· ≥ ·)) : ns = (downOf l).map fun n : Nat => (n : Int) := by
  refine List.Perm.eq_of_pairwise (le := (· ≥ ·)) (fun a b _ _ x y => Int.le_antisymm y x) h2 ?_ (h1.trans ((down_perm l).map _).symm)
  rw [List.pairwise_map]
  exact (down_sorted l).imp fun {a b} h => by
    show (b : Int) ≤ (a : Int)
    have : b ≤ a := h
    omega
theorem down_mem {l : List Nat} {x : Nat} : x ∈ downOf l ↔ x ∈ l := (down_perm l).mem_iff
theorem down_len (l : List Nat) : (downOf l).length = l.length := (down_perm l).length_eq
theorem ideal_zero_iff (l : List Nat) : (ideal l).num = 0 ↔ (discounted l).num = 0 := by
  rw [ideal_is, disc_zero_iff, disc_zero_iff]
  exact ⟨fun h x hx => h x (down_mem.mpr hx), fun h x hx => h x (down_mem.mp hx)⟩
/-! ### pairs of positions -/
def upAt (l : List Nat) (i : Nat) : Nat := (l.drop (i + 1)).countP fun x => decide (l.getD i 0 < x)
def downAt (l : List Nat) (i : Nat) : Nat := (l.drop (i + 1)).countP fun x => decide (x < l.getD i 0)
theorem after_range {p : Nat → Bool} (l : List Nat) : ∀ i : Nat, ((List.range l.length).countP fun j => p (l.getD j 0) && decide (i < j)) = (l.drop (i + 1)).countP p := by
  intro i
  induction l generalizing i with
  | nil => simp
  | cons x l ih =>
    rw [List.length_cons, List.range_succ_eq_map, List.countP_cons, List.countP_map]
    have e0 : (if (p ((x :: l).getD 0 0) && decide (i < 0)) = true then 1 else 0) = 0 := by
      rw [if_neg]
      simp
    rw [e0, Nat.add_zero, List.drop_succ_cons]
    cases i with
    | zero =>
      rw [List.drop_zero, ← count_range l]
      refine List.countP_congr fun j _ => ?_
      simp
    | succ i =>
      rw [← ih i]
      refine List.countP_congr fun j _ => ?_
      simp
theorem pairs_count (l : List Nat) (p : Nat → Nat → Bool) : (pairsOf l.length).countP (fun x => p (l.getD x.1 0) (l.getD x.2 0)) = ((List.range l.length).map fun i => (l.drop (i + 1)).countP (p (l.getD i 0))).sum := by
  unfold pairsOf
  rw [List.countP_flatMap]
  congr 1
  refine List.map_congr_left fun i _ => ?_
  show List.countP _ (List.map _ _) = _
  rw [List.countP_map, List.countP_filter, ← after_range l i]
  rfl
theorem conc_is (l : List Nat) : concordant l = ((List.range l.length).map (upAt l)).sum := pairs_count l fun a b => decide (a < b)
theorem disc_pairs_is (l : List Nat) : discordant l = ((List.range l.length).map (downAt l)).sum := pairs_count l fun a b => decide (b < a)
theorem pairs_len (n : Nat) : (pairsOf n).length = n * (n - 1) / 2 := by
  have key : ∀ n, (pairsOf n).length = ((List.range n).map fun i => n - 1 - i).sum := fun n => by
    unfold pairsOf
    rw [List.length_flatMap]
    congr 1
    refine List.map_congr_left fun i hi => ?_
    rw [List.length_map, ← List.countP_eq_length_filter]
    have h := after_range (p := fun _ => true) (List.replicate n 0) i
    rw [List.length_replicate] at h
    simp only [Bool.true_and] at h
    rw [h, List.countP_true, List.length_drop, List.length_replicate]
    omega
  have tri : ∀ n, ((List.range n).map fun i => n - 1 - i).sum * 2 = n * (n - 1) := by
    intro n
    induction n with
    | zero => rfl
    | succ n ih =>
      rw [List.range_succ_eq_map, List.map_cons, List.map_map, List.sum_cons]
      have e : ((List.range n).map ((fun i => n + 1 - 1 - i) ∘ Nat.succ)) = (List.range n).map fun i => n - 1 - i := by
        refine List.map_congr_left fun i _ => ?_
        show n + 1 - 1 - (i + 1) = n - 1 - i
        omega
      rw [e, Nat.add_mul, ih]
      cases n with
      | zero => rfl
      | succ n =>
        simp only [Nat.add_sub_cancel, Nat.sub_zero]
        grind
  have := tri n
  rw [key]
  omega
end LwM
end
/-! LwPlaces -/
section
set_option Elab.async false
set_option linter.all false
namespace LwM
open Kp432
/-! the events of a context, by their places -/
def placeAt (es : List Event) (c i : Nat) : Option Nat := match es[i]? with
  | some e => if e.context == c then some i else none
  | none => none
def placesOf (es : List Event) (c : Nat) : List Nat := (List.range es.length).filterMap (placeAt es c)
theorem places_mem {es : List Event} {c i : Nat} (h : i ∈ placesOf es c) : i < es.length := by
  obtain ⟨j, hj, e⟩ := List.mem_filterMap.mp h
  unfold placeAt at e
  split at e
  · split at e
    · cases Option.some.inj e
      exact List.mem_range.mp hj
    · cases e
  · cases e
theorem placeAt_succ (e : Event) (es : List Event) (c i : Nat) : placeAt (e :: es) c (i + 1) = (placeAt es c i).map (· + 1) := by
  unfold placeAt
  rw [List.getElem?_cons_succ]
  split
  · split <;> rfl
  · rfl
theorem places_cons (e : Event) (es : List Event) (c : Nat) : placesOf (e :: es) c = (if e.context == c then [0] else []) ++ (placesOf es c).map (· + 1) := by
  unfold placesOf
  rw [List.length_cons, List.range_succ_eq_map, List.filterMap_cons, List.filterMap_map, List.map_filterMap]
  have e1 : (placeAt (e :: es) c ∘ Nat.succ) = fun i => (placeAt es c i).map (· + 1) := by
    funext i
    exact placeAt_succ e es c i
  rw [e1]
  have e2 : placeAt (e :: es) c 0 = if e.context == c then some 0 else none := rfl
  rw [e2]
  by_cases z : (e.context == c) = true
  · rw [if_pos z, if_pos z]
    rfl
  · rw [if_neg z, if_neg z]
    rfl
theorem places_is {α : Type} (f : Event → α) (d : α) (c : Nat) : ∀ es : List Event, ((placesOf es c).map fun i => (es.map f).getD i d) = (es.filter fun e => e.context == c).map f
  | [] => rfl
  | e :: es => by
    rw [places_cons, List.map_append, List.map_map]
    have ih := places_is f d c es
    have e1 : ((placesOf es c).map ((fun i => ((e :: es).map f).getD i d) ∘ (· + 1))) = (placesOf es c).map fun i => (es.map f).getD i d := by
      refine List.map_congr_left fun i _ => ?_
      show ((e :: es).map f).getD (i + 1) d = _
      rw [List.map_cons, List.getD_cons_succ]
    rw [e1, ih]
    by_cases z : (e.context == c) = true
    · rw [if_pos z, List.filter_cons_of_pos (p := fun e : Event => e.context == c) z]
      rfl
    · rw [if_neg z, List.filter_cons_of_neg (p := fun e : Event => e.context == c) z]
      rfl
theorem places_len (es : List Event) (c : Nat) : (placesOf es c).length = (es.filter fun e => e.context == c).length := by
  have h := congrArg List.length (places_is (fun e => e) ⟨0, 0, 0, ofNat 0⟩ c es)
  rw [List.length_map, List.length_map] at h
  exact h
/-! terms are in lowest terms -/
theorem nrm_term {s : Study} {p : Policy} {e : Event} {x : Estimator} {l : Nat} (h : Good s) (hp : GoodPol s.contexts s.actions p) (he : GoodEv s.contexts s.actions e) (hl : l ≤ 100000) (hx : x.limit = fraction (l : Nat) 100) : Nrm (term s p x e) := by
  have ms : e.propensity ∈ [e.propensity] := List.mem_singleton.mpr rfl
  have wp := (bd_weight (e := e) hp he).pos
  have dp := (bd_direct (ps := []) h hp he.ctx).pos
  have cp := (bd_corr (ps := [e.propensity]) h hp he ms).pos
  have kp := (bd_clipped (s := s) (ps := [e.propensity]) hl hp he ms).pos
  unfold term
  split
  · exact nrm_total fun y hy => (bd_dparts (ps := []) h hp he.ctx y hy).pos
  · exact nrm_mul wp Nat.one_pos
  · rw [hx]
    exact nrm_mul kp Nat.one_pos
  · exact nrm_add dp cp
end LwM
end
/-! LwExp -/
section
set_option Elab.async false
set_option linter.all false
namespace LwM
open Kp432
/-! sizes under the assumed truth -/
section
variable {s : Study} {lg p : Policy} {kd l : Nat}
def ewD (s : Study) (lg : Policy) : Nat := s.contextWeights.sum * prod (lg.map List.sum)
def trD (s : Study) (lg p : Policy) : Nat := ewD s lg * bigD s p ((poss s lg).map (·.propensity))
theorem ewD_pos (g : Good s) (gl : GoodPol s.contexts s.actions lg) : 0 < ewD s lg := Nat.mul_pos (tw_sum_pos g) (prod_pos fun x hx => by
  obtain ⟨r, hr, rfl⟩ := List.mem_map.mp hx
  exact (gl.row r hr).pos)
theorem ewD_lt (g : Good s) (gl : GoodPol s.contexts s.actions lg) : ewD s lg < 2 ^ 90 := by
  have h1 : prod (lg.map List.sum) ≤ 5000 ^ 6 := by
    refine prod_le (by decide) (fun x hx => ?_) (by rw [List.length_map, gl.len]; exact g.c6)
    obtain ⟨r, hr, rfl⟩ := List.mem_map.mp hx
    have gr := gl.row r hr
    have := sum_le gr.le
    rw [gr.len] at this
    have := g.a5
    omega
  exact Nat.lt_of_le_of_lt (Nat.mul_le_mul (tw_sum_le g) h1) (by decide)
theorem pp_pro (g : Good s) (gl : GoodPol s.contexts s.actions lg) : ∀ x ∈ (poss s lg).map (·.propensity), Pro x := fun x hx => by
  obtain ⟨e, he, rfl⟩ := List.mem_map.mp hx
  exact (poss_good g gl e he).pro
theorem pp_len (g : Good s) : ((poss s lg).map (·.propensity)).length ≤ 40 := by
  rw [List.length_map]
  have := poss_len (p := lg) g
  omega
theorem trD_pos (g : Good s) (gl : GoodPol s.contexts s.actions lg) (gp : GoodPol s.contexts s.actions p) : 0 < trD s lg p := Nat.mul_pos (ewD_pos g gl) (bigD_pos g gp (pp_pro g gl))
theorem trD_lt (g : Good s) (gl : GoodPol s.contexts s.actions lg) (gp : GoodPol s.contexts s.actions p) : trD s lg p < 2 ^ 740 := by
  have h := Nat.mul_lt_mul'' (ewD_lt g gl) (bigD_lt g gp (pp_pro g gl) (pp_len g))
  rw [← Nat.pow_add] at h
  exact h
theorem bd_evW (g : Good s) (gl : GoodPol s.contexts s.actions lg) {e : Event} (he : e ∈ poss s lg) : Bd (ewD s lg) 1 (evW s e) := by
  obtain ⟨h1, h2, h3, _⟩ := poss_mem he
  unfold evW
  rw [h3]
  exact (bd_mul (bd_ctx g e.context) (bd_chance (a := e.action) gl h1)).mono (Nat.mul_dvd_mul (Nat.dvd_refl _) (sum_dvd gl h1)) (Nat.le_refl _)
theorem bd_pterm (g : Good s) (gl : GoodPol s.contexts s.actions lg) (gp : GoodPol s.contexts s.actions p) (hl : l ≤ 100000) {e : Event} (he : e ∈ poss s lg) : Bd (bigD s p ((poss s lg).map (·.propensity))) 1048576 (term s p ⟨kd, fraction (l : Nat) 100⟩ e) :=
  bd_term g gp (poss_good g gl e he) (List.mem_map.mpr ⟨e, he, rfl⟩) hl rfl
theorem bd_exParts (g : Good s) (gl : GoodPol s.contexts s.actions lg) (gp : GoodPol s.contexts s.actions p) (hl : l ≤ 100000) : ∀ y ∈ exParts s lg p ⟨kd, fraction (l : Nat) 100⟩, Bd (trD s lg p) 1048576 y := fun y hy => by
  obtain ⟨e, he, rfl⟩ := List.mem_map.mp hy
  have r := bd_mul (bd_evW g gl he) (bd_pterm (kd := kd) g gl gp hl he)
  rw [Nat.one_mul] at r
  exact r
theorem exParts_len (g : Good s) {x : Estimator} : (exParts s lg p x).length ≤ 30 := by
  unfold exParts
  rw [List.length_map]
  exact poss_len g
theorem bd_expected (g : Good s) (gl : GoodPol s.contexts s.actions lg) (gp : GoodPol s.contexts s.actions p) (hl : l ≤ 100000) : Bd (trD s lg p) 31457280 (expected s lg p ⟨kd, fraction (l : Nat) 100⟩) := by
  rw [expected_is]
  exact bd_total (n := 30) (bd_exParts g gl gp hl) (exParts_len g)
/-- a difference from the expectation -/
theorem bd_dev (g : Good s) (gl : GoodPol s.contexts s.actions lg) (gp : GoodPol s.contexts s.actions p) (hl : l ≤ 100000) {e : Event} (he : e ∈ poss s lg) : Bd (trD s lg p) 32505856 (sub (term s p ⟨kd, fraction (l : Nat) 100⟩ e) (expected s lg p ⟨kd, fraction (l : Nat) 100⟩)) :=
  (bd_sub ((bd_pterm (kd := kd) g gl gp hl he).mono (Nat.dvd_mul_left _ _) (Nat.le_refl _)) (bd_expected (kd := kd) g gl gp hl)).mono (Nat.dvd_refl _) (by decide)
theorem bd_vrParts (g : Good s) (gl : GoodPol s.contexts s.actions lg) (gp : GoodPol s.contexts s.actions p) (hl : l ≤ 100000) : ∀ y ∈ vrParts s lg p ⟨kd, fraction (l : Nat) 100⟩, Bd (ewD s lg * (trD s lg p * trD s lg p)) (32505856 * 32505856) y := fun y hy => by
  obtain ⟨e, he, rfl⟩ := List.mem_map.mp hy
  have r := bd_mul (bd_evW g gl he) (bd_square (bd_dev (kd := kd) g gl gp hl he))
  rw [Nat.one_mul] at r
  exact r
theorem vrD_lt (g : Good s) (gl : GoodPol s.contexts s.actions lg) (gp : GoodPol s.contexts s.actions p) : ewD s lg * (trD s lg p * trD s lg p) < 2 ^ 1570 := by
  have a := trD_lt g gl gp
  have b := Nat.mul_lt_mul'' a a
  rw [← Nat.pow_add] at b
  have c := Nat.mul_lt_mul'' (ewD_lt g gl) b
  rw [← Nat.pow_add] at c
  exact c
theorem vrParts_len (g : Good s) {x : Estimator} : (vrParts s lg p x).length ≤ 30 := by
  unfold vrParts
  rw [List.length_map]
  exact poss_len g
theorem bd_tvParts (g : Good s) (gp : GoodPol s.contexts s.actions p) : ∀ y ∈ tvParts s p, Bd (ewD s p) 100 y := fun y hy => by
  obtain ⟨e, he, rfl⟩ := List.mem_map.mp hy
  have r := bd_mul (bd_evW g gp he) (bd_reward (poss_good g gp e he).rew)
  rw [Nat.mul_one, Nat.one_mul] at r
  exact r
theorem tvParts_len (g : Good s) : (tvParts s p).length ≤ 30 := by
  unfold tvParts
  rw [List.length_map]
  exact poss_len g
end
/-! what a policy chooses and another doesn't -/
def unsAt (p lg : Policy) (c a : Nat) : List Int := if (chance p c a).num ≠ 0 ∧ (chance lg c a).num = 0 then [(c : Int), (a : Int)] else []
def unsRow (p lg : Policy) (c n : Nat) : List Int := (List.range n).flatMap (unsAt p lg c)
def unsAll (p lg : Policy) (m n : Nat) : List Int := (List.range m).flatMap fun c => unsRow p lg c n
theorem unsRow_is (p lg : Policy) (c : Nat) : ∀ is : List Nat, ((is.filter fun a => (chance p c a).num != 0 && (chance lg c a).num == 0).map fun a => (c, a)).flatMap (fun x : Nat × Nat => [(x.1 : Int), (x.2 : Int)]) = is.flatMap (unsAt p lg c)
  | [] => rfl
  | a :: is => by
    rw [List.flatMap_cons, ← unsRow_is p lg c is]
    unfold unsAt
    by_cases z : (chance p c a).num ≠ 0 ∧ (chance lg c a).num = 0
    · have z1 : ((chance p c a).num != 0) = true := by rw [bne_iff_ne]; exact z.1
      have z2 : ((chance lg c a).num == 0) = true := by rw [beq_iff_eq]; exact z.2
      have e : ((chance p c a).num != 0 && (chance lg c a).num == 0) = true := by rw [z1, z2]; rfl
      rw [if_pos z, List.filter_cons_of_pos (p := fun a => (chance p c a).num != 0 && (chance lg c a).num == 0) e, List.map_cons, List.flatMap_cons]
    · have e : ¬ ((chance p c a).num != 0 && (chance lg c a).num == 0) = true := by
        rw [Bool.and_eq_true, bne_iff_ne, beq_iff_eq]
        exact z
      rw [if_neg z, List.filter_cons_of_neg (p := fun a => (chance p c a).num != 0 && (chance lg c a).num == 0) e, List.nil_append]
theorem uns_is (s : Study) (lg p : Policy) : ((unsupported s lg p).flatMap fun x : Nat × Nat => [(x.1 : Int), (x.2 : Int)]) = unsAll p lg s.contexts s.actions := by
  unfold unsupported unsAll
  rw [List.flatMap_assoc]
  congr 1
  funext c
  exact unsRow_is p lg c _
theorem uns_twice (s : Study) (lg p : Policy) : (unsAll p lg s.contexts s.actions).length = (unsupported s lg p).length * 2 := by
  rw [← uns_is]
  generalize unsupported s lg p = l
  induction l with
  | nil => rfl
  | cons x l ih =>
    rw [List.flatMap_cons, List.length_append, ih]
    simp only [List.length_cons, List.length_nil]
    omega
theorem uns_ans {s : Study} {g k : Nat} (h : g < 3 ∧ k < 3) : step (some s) (.unsupported g k) = (some s, ⟨((unsupported s (policyAt s g) (policyAt s k)).length : Int), unsAll (policyAt s k) (policyAt s g) s.contexts s.actions⟩) := by
  rw [uns_ok h, ← uns_is]
  unfold natResult
  rw [List.map_flatMap]
  rfl
theorem unsRow_len (p lg : Policy) (c n : Nat) : (unsRow p lg c n).length ≤ n * 2 := by
  have e := flatMap_len (f := unsAt p lg c) (m := 2) (l := List.range n) fun a _ => by
    unfold unsAt
    split
    · exact Nat.le_refl 2
    · exact Nat.zero_le 2
  rw [List.length_range] at e
  exact e
theorem unsAll_len (p lg : Policy) (m n : Nat) : (unsAll p lg m n).length ≤ m * (n * 2) := by
  have e := flatMap_len (f := fun c => unsRow p lg c n) (m := n * 2) (l := List.range m) fun c _ => unsRow_len p lg c n
  rw [List.length_range] at e
  exact e
end LwM
end
/-! LwCalls -/
section
set_option Elab.async false
set_option linter.all false
set_option maxRecDepth 100000
set_option maxHeartbeats 4000000
/-! the calls, as they lie in the list that is handed in -/
namespace Lw
open Kp432 (State)
/-- a call as it is handed in: its place, its numbers, its rows -/
def cArgs : Kp432.Call → Nat × List Nat × List (List Nat)
  | .create a0 a1 => (0, [a0, a1], [])
  | .addEvent a0 a1 a2 a3 a4 => (1, [a0, a1, a2, a3, a4], [])
  | .removeLast  => (2, [], [])
  | .logEvent a0 a1 a2 a3 => (3, [a0, a1, a2, a3], [])
  | .setPolicy a0 a1 l => (4, [a0, a1], [l])
  | .copyPolicy a0 a1 => (5, [a0, a1], [])
  | .setModel a0 l => (6, [a0], [l])
  | .fitModel  => (7, [], [])
  | .setTruth a0 a1 l => (8, [a0, a1], [l])
  | .propensity a0 a1 a2 => (9, [a0, a1, a2], [])
  | .estimate a0 a1 a2 => (10, [a0, a1, a2], [])
  | .normalized a0 => (11, [a0], [])
  | .replay a0 => (12, [a0], [])
  | .effectiveSize a0 => (13, [a0], [])
  | .variance a0 a1 a2 => (14, [a0, a1, a2], [])
  | .interval a0 a1 a2 a3 => (15, [a0, a1, a2, a3], [])
  | .compare a0 a1 a2 a3 => (16, [a0, a1, a2, a3], [])
  | .byContext a0 a1 a2 => (17, [a0, a1, a2], [])
  | .greatestWeight a0 => (18, [a0], [])
  | .modelInfo a0 => (19, [a0], [])
  | .trueValue a0 => (20, [a0], [])
  | .expectation a0 a1 a2 a3 => (21, [a0, a1, a2, a3], [])
  | .unsupported a0 a1 => (22, [a0, a1], [])
  | .bootstrap a0 a1 a2 a3 a4 => (23, [a0, a1, a2, a3, a4], [])
  | .precision a0 l => (24, [a0], [l])
  | .rankMeasures l => (25, [], [l])
  | .gains l => (26, [], [l])
  | .orderMeasure l => (27, [], [l])
  | .status  => (28, [], [])
/-- the numbers that may be handed in -/
def U32 (n : Nat) : Prop := n < 4294967296
def InU (l : List Nat) : Prop := ∀ n ∈ l, U32 n
def Rows12 (rs : List (List Nat)) : Prop := ∀ r ∈ rs, r.length ≤ 12 ∧ InU r
theorem InU.nil : InU [] := fun _ h => nomatch h
theorem InU.cons {a : Nat} {l : List Nat} (h : U32 a) (t : InU l) : InU (a :: l) := fun n hn => by
  rcases List.mem_cons.mp hn with e | hn
  · rw [e]
    exact h
  · exact t n hn
theorem Rows12.nil : Rows12 [] := fun _ h => nomatch h
theorem Rows12.one {l : List Nat} (h : l.length ≤ 12) (t : InU l) : Rows12 [l] := fun r hr => by
  rw [List.mem_singleton.mp hr]
  exact ⟨h, t⟩
structure CallOk (c : Kp432.Call) : Prop where
  nums : InU (cArgs c).2.1
  rows : Rows12 (cArgs c).2.2
/-- rows, each with its length ahead -/
def flatRows (rows : List (List Nat)) : List Nat := rows.flatMap fun r => r.length :: r
def flatC (c : Kp432.Call) : List Nat := (cArgs c).1 :: ((cArgs c).2.1 ++ flatRows (cArgs c).2.2)
def flats (cs : List Kp432.Call) : List Nat := cs.flatMap flatC
def outs : State → List Kp432.Call → List Int
  | _, [] => []
  | st, c :: cs => (((Kp432.step st c).2.nums.length + 1 : Nat) : Int) :: ((Kp432.step st c).2.num :: (Kp432.step st c).2.nums) ++ outs (Kp432.step st c).1 cs
/-! how the specification takes the list apart -/
def up (l : List Nat) : List Int := l.map fun (n : Nat) => (n : Int)
def rawOf (c : Kp432.Call) : List (List Int) := (((cArgs c).1 : Int) :: up (cArgs c).2.1) :: (cArgs c).2.2.map up
def flatRow (r : List Int) : List Int := (r.length : Int) :: r
/-- a call of the right shape, as it lies in the list -/
inductive Shaped : List (List Int) → List Int → Prop
  | mk (p : Int) (xs : List Int) (rows : List (List Int)) (h : PyKp432.shape p = some (xs.length, rows.length)) : Shaped ((p :: xs) :: rows) (p :: (xs ++ rows.flatMap flatRow))
theorem row_ok {l x t : List Int} (h : PyFlat.row l = some (x, t)) : l = flatRow x ++ t := by
  unfold PyFlat.row at h
  split at h
  · cases h
  · rename_i n r
    split at h
    · rename_i q
      obtain ⟨h1, h2⟩ := Prod.mk.inj (Option.some.inj h)
      subst h1 h2
      unfold flatRow
      rw [List.cons_append, List.take_append_drop, List.length_take]
      congr 1
      omega
    · cases h
theorem rows_ok : ∀ (k : Nat) {l t : List Int} {xs : List (List Int)}, PyFlat.rows k l = some (xs, t) → l = xs.flatMap flatRow ++ t ∧ xs.length = k
  | 0, l, t, xs, h => by
    unfold PyFlat.rows at h
    obtain ⟨h1, h2⟩ := Prod.mk.inj (Option.some.inj h)
    subst h1 h2
    exact ⟨rfl, rfl⟩
  | k + 1, l, t, xs, h => by
    unfold PyFlat.rows at h
    split at h
    · cases h
    · rename_i x s e
      split at h
      · cases h
      · rename_i ys u e2
        obtain ⟨h1, h2⟩ := Prod.mk.inj (Option.some.inj h)
        subst h1 h2
        obtain ⟨q1, q2⟩ := rows_ok k e2
        refine ⟨?_, by rw [List.length_cons, q2]⟩
        rw [row_ok e, q1, List.flatMap_cons, List.append_assoc]
theorem call_ok {l t : List Int} {c : List (List Int)} (h : PyFlat.call PyKp432.shape l = some (c, t)) : ∃ f, Shaped c f ∧ l = f ++ t := by
  unfold PyFlat.call at h
  split at h
  · cases h
  · rename_i p r
    split at h
    · cases h
    · rename_i n k e
      split at h
      · cases h
      · rename_i q
        split at h
        · cases h
        · rename_i xs u e2
          obtain ⟨h1, h2⟩ := Prod.mk.inj (Option.some.inj h)
          subst h1 h2
          obtain ⟨q1, q2⟩ := rows_ok k e2
          have len : (r.take n).length = n := by
            rw [List.length_take]
            omega
          refine ⟨_, .mk p (r.take n) xs (by rw [len, q2]; exact e), ?_⟩
          rw [List.cons_append, List.append_assoc, ← q1, List.take_append_drop]
/-- all calls, one behind another -/
inductive Raws : List (List (List Int)) → List Int → Prop
  | nil : Raws [] []
  | cons {c : List (List Int)} {f : List Int} {cs : List (List (List Int))} {l : List Int} : Shaped c f → Raws cs l → Raws (c :: cs) (f ++ l)
theorem calls_ok : ∀ (n : Nat) {l : List Int} {cs : List (List (List Int))}, PyFlat.calls PyKp432.shape n l = some cs → Raws cs l
  | n, [], cs, h => by
    have e : cs = [] := by
      cases n <;> exact (Option.some.inj h).symm
    subst e
    exact .nil
  | 0, p :: r, cs, h => by cases h
  | n + 1, p :: r, cs, h => by
    unfold PyFlat.calls at h
    split at h
    · cases h
    · rename_i c t e
      split at h
      · cases h
      · rename_i ds e2
        have h := Option.some.inj h
        subst h
        obtain ⟨f, s, q⟩ := call_ok e
        rw [q]
        exact .cons s (calls_ok n e2)
theorem nat_of {z : Int} (h : Kp432Neutral.natural z = true) : ∃ n : Nat, z = (n : Int) ∧ U32 n := by
  unfold Kp432Neutral.natural at h
  simp only [Bool.and_eq_true, decide_eq_true_eq] at h
  exact ⟨z.toNat, by omega, by show z.toNat < 4294967296; omega⟩
theorem row_of {r : List Int} (h : (r.all Kp432Neutral.natural && decide (r.length ≤ 12)) = true) : ∃ l : List Nat, r = up l ∧ l.length ≤ 12 ∧ InU l := by
  simp only [Bool.and_eq_true, decide_eq_true_eq, List.all_eq_true] at h
  obtain ⟨h1, h2⟩ := h
  refine ⟨r.map Int.toNat, ?_, by rw [List.length_map]; exact h2, fun n hn => ?_⟩
  · unfold up
    rw [List.map_map]
    refine (List.map_id _).symm.trans (List.map_congr_left fun z hz => ?_)
    obtain ⟨n, e, _⟩ := nat_of (h1 z hz)
    subst e
    rfl
  · obtain ⟨z, hz, e⟩ := List.mem_map.mp hn
    obtain ⟨m, e2, hm⟩ := nat_of (h1 z hz)
    subst e2
    rw [← e]
    exact hm
theorem up_down (l : List Nat) : (up l).map Int.toNat = l := by
  unfold up
  rw [List.map_map]
  exact (List.map_congr_left fun z hz => rfl).trans (List.map_id _)
theorem len0 {α : Type} {l : List α} (h : 0 = l.length) : l = [] := List.length_eq_zero_iff.mp h.symm
theorem len1 {α : Type} {l : List α} (h : 1 = l.length) : ∃ a, l = [a] := match l, h with
  | [a], _ => ⟨a, rfl⟩
theorem len2 {α : Type} {l : List α} (h : 2 = l.length) : ∃ a b, l = [a, b] := match l, h with
  | [a, b], _ => ⟨a, b, rfl⟩
theorem len3 {α : Type} {l : List α} (h : 3 = l.length) : ∃ a b c, l = [a, b, c] := match l, h with
  | [a, b, c], _ => ⟨a, b, c, rfl⟩
theorem len4 {α : Type} {l : List α} (h : 4 = l.length) : ∃ a b c d, l = [a, b, c, d] := match l, h with
  | [a, b, c, d], _ => ⟨a, b, c, d, rfl⟩
theorem len5 {α : Type} {l : List α} (h : 5 = l.length) : ∃ a b c d e, l = [a, b, c, d, e] := match l, h with
  | [a, b, c, d, e], _ => ⟨a, b, c, d, e, rfl⟩
theorem and2 {a b : Bool} (h : (a && b) = true) : a = true ∧ b = true := Bool.and_eq_true_iff.mp h
/-- a call that is asked: which one it is -/
structure Which (raw : List (List Int)) (c : Kp432.Call) : Prop where
  eq : raw = rawOf c
  call : Kp432Neutral.callOf (PyKp432.whole raw) = some c
  ok : CallOk c
theorem no_mem {α : Type} {p : α → Prop} : ∀ x ∈ ([] : List α), p x := fun _ h => nomatch h
theorem which0 {xs : List Int} {rows : List (List Int)} (h1 : 2 = xs.length) (h2 : 0 = rows.length) (h : Kp432Neutral.asked1 (PyKp432.whole ((0 :: xs) :: rows)) = true) : ∃ c, Which ((0 :: xs) :: rows) c := by
  obtain ⟨x0, x1, rfl⟩ := len2 h1
  have e2 := len0 h2
  subst e2
  replace h : (Kp432Neutral.natural x0 && Kp432Neutral.natural x1) = true := h
  clear h1 h2
  obtain ⟨g0, t0⟩ := and2 h
  clear h
  obtain ⟨n0, e, b0⟩ := nat_of g0
  subst e
  obtain ⟨n1, e, b1⟩ := nat_of t0
  subst e
  exact ⟨.create n0 n1, rfl, rfl, (InU.cons b0 (InU.cons b1 InU.nil)), Rows12.nil⟩
theorem which1 {xs : List Int} {rows : List (List Int)} (h1 : 5 = xs.length) (h2 : 0 = rows.length) (h : Kp432Neutral.asked1 (PyKp432.whole ((1 :: xs) :: rows)) = true) : ∃ c, Which ((1 :: xs) :: rows) c := by
  obtain ⟨x0, x1, x2, x3, x4, rfl⟩ := len5 h1
  have e2 := len0 h2
  subst e2
  replace h : (Kp432Neutral.natural x0 && (Kp432Neutral.natural x1 && (Kp432Neutral.natural x2 && (Kp432Neutral.natural x3 && Kp432Neutral.natural x4)))) = true := h
  clear h1 h2
  obtain ⟨g0, t0⟩ := and2 h
  clear h
  obtain ⟨g1, t1⟩ := and2 t0
  clear t0
  obtain ⟨g2, t2⟩ := and2 t1
  clear t1
  obtain ⟨g3, t3⟩ := and2 t2
  clear t2
  obtain ⟨n0, e, b0⟩ := nat_of g0
  subst e
  obtain ⟨n1, e, b1⟩ := nat_of g1
  subst e
  obtain ⟨n2, e, b2⟩ := nat_of g2
  subst e
  obtain ⟨n3, e, b3⟩ := nat_of g3
  subst e
  obtain ⟨n4, e, b4⟩ := nat_of t3
  subst e
  exact ⟨.addEvent n0 n1 n2 n3 n4, rfl, rfl, (InU.cons b0 (InU.cons b1 (InU.cons b2 (InU.cons b3 (InU.cons b4 InU.nil))))), Rows12.nil⟩
theorem which2 {xs : List Int} {rows : List (List Int)} (h1 : 0 = xs.length) (h2 : 0 = rows.length) (h : Kp432Neutral.asked1 (PyKp432.whole ((2 :: xs) :: rows)) = true) : ∃ c, Which ((2 :: xs) :: rows) c := by
  have e1 := len0 h1
  subst e1
  have e2 := len0 h2
  subst e2
  exact ⟨.removeLast , rfl, rfl, InU.nil, Rows12.nil⟩
theorem which3 {xs : List Int} {rows : List (List Int)} (h1 : 4 = xs.length) (h2 : 0 = rows.length) (h : Kp432Neutral.asked1 (PyKp432.whole ((3 :: xs) :: rows)) = true) : ∃ c, Which ((3 :: xs) :: rows) c := by
  obtain ⟨x0, x1, x2, x3, rfl⟩ := len4 h1
  have e2 := len0 h2
  subst e2
  replace h : (Kp432Neutral.natural x0 && (Kp432Neutral.natural x1 && (Kp432Neutral.natural x2 && Kp432Neutral.natural x3))) = true := h
  clear h1 h2
  obtain ⟨g0, t0⟩ := and2 h
  clear h
  obtain ⟨g1, t1⟩ := and2 t0
  clear t0
  obtain ⟨g2, t2⟩ := and2 t1
  clear t1
  obtain ⟨n0, e, b0⟩ := nat_of g0
  subst e
  obtain ⟨n1, e, b1⟩ := nat_of g1
  subst e
  obtain ⟨n2, e, b2⟩ := nat_of g2
  subst e
  obtain ⟨n3, e, b3⟩ := nat_of t2
  subst e
  exact ⟨.logEvent n0 n1 n2 n3, rfl, rfl, (InU.cons b0 (InU.cons b1 (InU.cons b2 (InU.cons b3 InU.nil)))), Rows12.nil⟩
theorem which4 {xs : List Int} {rows : List (List Int)} (h1 : 2 = xs.length) (h2 : 1 = rows.length) (h : Kp432Neutral.asked1 (PyKp432.whole ((4 :: xs) :: rows)) = true) : ∃ c, Which ((4 :: xs) :: rows) c := by
  obtain ⟨x0, x1, rfl⟩ := len2 h1
  obtain ⟨r0, rfl⟩ := len1 h2
  replace h : (Kp432Neutral.natural x0 && (Kp432Neutral.natural x1 && (r0.all Kp432Neutral.natural && decide (r0.length ≤ 12)))) = true := h
  clear h1 h2
  obtain ⟨g0, t0⟩ := and2 h
  clear h
  obtain ⟨g1, t1⟩ := and2 t0
  clear t0
  obtain ⟨n0, e, b0⟩ := nat_of g0
  subst e
  obtain ⟨n1, e, b1⟩ := nat_of g1
  subst e
  obtain ⟨l, e, hl, hb⟩ := row_of t1
  subst e
  exact ⟨.setPolicy n0 n1 l, rfl, congrArg (fun z => some (Kp432.Call.setPolicy n0 n1 z)) (up_down l), (InU.cons b0 (InU.cons b1 InU.nil)), Rows12.one hl hb⟩
theorem which5 {xs : List Int} {rows : List (List Int)} (h1 : 2 = xs.length) (h2 : 0 = rows.length) (h : Kp432Neutral.asked1 (PyKp432.whole ((5 :: xs) :: rows)) = true) : ∃ c, Which ((5 :: xs) :: rows) c := by
  obtain ⟨x0, x1, rfl⟩ := len2 h1
  have e2 := len0 h2
  subst e2
  replace h : (Kp432Neutral.natural x0 && Kp432Neutral.natural x1) = true := h
  clear h1 h2
  obtain ⟨g0, t0⟩ := and2 h
  clear h
  obtain ⟨n0, e, b0⟩ := nat_of g0
  subst e
  obtain ⟨n1, e, b1⟩ := nat_of t0
  subst e
  exact ⟨.copyPolicy n0 n1, rfl, rfl, (InU.cons b0 (InU.cons b1 InU.nil)), Rows12.nil⟩
theorem which6 {xs : List Int} {rows : List (List Int)} (h1 : 1 = xs.length) (h2 : 1 = rows.length) (h : Kp432Neutral.asked1 (PyKp432.whole ((6 :: xs) :: rows)) = true) : ∃ c, Which ((6 :: xs) :: rows) c := by
  obtain ⟨x0, rfl⟩ := len1 h1
  obtain ⟨r0, rfl⟩ := len1 h2
  replace h : (Kp432Neutral.natural x0 && (r0.all Kp432Neutral.natural && decide (r0.length ≤ 12))) = true := h
  clear h1 h2
  obtain ⟨g0, t0⟩ := and2 h
  clear h
  obtain ⟨n0, e, b0⟩ := nat_of g0
  subst e
  obtain ⟨l, e, hl, hb⟩ := row_of t0
  subst e
  exact ⟨.setModel n0 l, rfl, congrArg (fun z => some (Kp432.Call.setModel n0 z)) (up_down l), (InU.cons b0 InU.nil), Rows12.one hl hb⟩
theorem which7 {xs : List Int} {rows : List (List Int)} (h1 : 0 = xs.length) (h2 : 0 = rows.length) (h : Kp432Neutral.asked1 (PyKp432.whole ((7 :: xs) :: rows)) = true) : ∃ c, Which ((7 :: xs) :: rows) c := by
  have e1 := len0 h1
  subst e1
  have e2 := len0 h2
  subst e2
  exact ⟨.fitModel , rfl, rfl, InU.nil, Rows12.nil⟩
theorem which8 {xs : List Int} {rows : List (List Int)} (h1 : 2 = xs.length) (h2 : 1 = rows.length) (h : Kp432Neutral.asked1 (PyKp432.whole ((8 :: xs) :: rows)) = true) : ∃ c, Which ((8 :: xs) :: rows) c := by
  obtain ⟨x0, x1, rfl⟩ := len2 h1
  obtain ⟨r0, rfl⟩ := len1 h2
  replace h : (Kp432Neutral.natural x0 && (Kp432Neutral.natural x1 && (r0.all Kp432Neutral.natural && decide (r0.length ≤ 12)))) = true := h
  clear h1 h2
  obtain ⟨g0, t0⟩ := and2 h
  clear h
  obtain ⟨g1, t1⟩ := and2 t0
  clear t0
  obtain ⟨n0, e, b0⟩ := nat_of g0
  subst e
  obtain ⟨n1, e, b1⟩ := nat_of g1
  subst e
  obtain ⟨l, e, hl, hb⟩ := row_of t1
  subst e
  exact ⟨.setTruth n0 n1 l, rfl, congrArg (fun z => some (Kp432.Call.setTruth n0 n1 z)) (up_down l), (InU.cons b0 (InU.cons b1 InU.nil)), Rows12.one hl hb⟩
theorem which9 {xs : List Int} {rows : List (List Int)} (h1 : 3 = xs.length) (h2 : 0 = rows.length) (h : Kp432Neutral.asked1 (PyKp432.whole ((9 :: xs) :: rows)) = true) : ∃ c, Which ((9 :: xs) :: rows) c := by
  obtain ⟨x0, x1, x2, rfl⟩ := len3 h1
  have e2 := len0 h2
  subst e2
  replace h : (Kp432Neutral.natural x0 && (Kp432Neutral.natural x1 && Kp432Neutral.natural x2)) = true := h
  clear h1 h2
  obtain ⟨g0, t0⟩ := and2 h
  clear h
  obtain ⟨g1, t1⟩ := and2 t0
  clear t0
  obtain ⟨n0, e, b0⟩ := nat_of g0
  subst e
  obtain ⟨n1, e, b1⟩ := nat_of g1
  subst e
  obtain ⟨n2, e, b2⟩ := nat_of t1
  subst e
  exact ⟨.propensity n0 n1 n2, rfl, rfl, (InU.cons b0 (InU.cons b1 (InU.cons b2 InU.nil))), Rows12.nil⟩
theorem which10 {xs : List Int} {rows : List (List Int)} (h1 : 3 = xs.length) (h2 : 0 = rows.length) (h : Kp432Neutral.asked1 (PyKp432.whole ((10 :: xs) :: rows)) = true) : ∃ c, Which ((10 :: xs) :: rows) c := by
  obtain ⟨x0, x1, x2, rfl⟩ := len3 h1
  have e2 := len0 h2
  subst e2
  replace h : (Kp432Neutral.natural x0 && (Kp432Neutral.natural x1 && Kp432Neutral.natural x2)) = true := h
  clear h1 h2
  obtain ⟨g0, t0⟩ := and2 h
  clear h
  obtain ⟨g1, t1⟩ := and2 t0
  clear t0
  obtain ⟨n0, e, b0⟩ := nat_of g0
  subst e
  obtain ⟨n1, e, b1⟩ := nat_of g1
  subst e
  obtain ⟨n2, e, b2⟩ := nat_of t1
  subst e
  exact ⟨.estimate n0 n1 n2, rfl, rfl, (InU.cons b0 (InU.cons b1 (InU.cons b2 InU.nil))), Rows12.nil⟩
theorem which11 {xs : List Int} {rows : List (List Int)} (h1 : 1 = xs.length) (h2 : 0 = rows.length) (h : Kp432Neutral.asked1 (PyKp432.whole ((11 :: xs) :: rows)) = true) : ∃ c, Which ((11 :: xs) :: rows) c := by
  obtain ⟨x0, rfl⟩ := len1 h1
  have e2 := len0 h2
  subst e2
  replace h : Kp432Neutral.natural x0 = true := h
  clear h1 h2
  obtain ⟨n0, e, b0⟩ := nat_of h
  subst e
  exact ⟨.normalized n0, rfl, rfl, (InU.cons b0 InU.nil), Rows12.nil⟩
theorem which12 {xs : List Int} {rows : List (List Int)} (h1 : 1 = xs.length) (h2 : 0 = rows.length) (h : Kp432Neutral.asked1 (PyKp432.whole ((12 :: xs) :: rows)) = true) : ∃ c, Which ((12 :: xs) :: rows) c := by
  obtain ⟨x0, rfl⟩ := len1 h1
  have e2 := len0 h2
  subst e2
  replace h : Kp432Neutral.natural x0 = true := h
  clear h1 h2
  obtain ⟨n0, e, b0⟩ := nat_of h
  subst e
  exact ⟨.replay n0, rfl, rfl, (InU.cons b0 InU.nil), Rows12.nil⟩
theorem which13 {xs : List Int} {rows : List (List Int)} (h1 : 1 = xs.length) (h2 : 0 = rows.length) (h : Kp432Neutral.asked1 (PyKp432.whole ((13 :: xs) :: rows)) = true) : ∃ c, Which ((13 :: xs) :: rows) c := by
  obtain ⟨x0, rfl⟩ := len1 h1
  have e2 := len0 h2
  subst e2
  replace h : Kp432Neutral.natural x0 = true := h
  clear h1 h2
  obtain ⟨n0, e, b0⟩ := nat_of h
  subst e
  exact ⟨.effectiveSize n0, rfl, rfl, (InU.cons b0 InU.nil), Rows12.nil⟩
theorem which14 {xs : List Int} {rows : List (List Int)} (h1 : 3 = xs.length) (h2 : 0 = rows.length) (h : Kp432Neutral.asked1 (PyKp432.whole ((14 :: xs) :: rows)) = true) : ∃ c, Which ((14 :: xs) :: rows) c := by
  obtain ⟨x0, x1, x2, rfl⟩ := len3 h1
  have e2 := len0 h2
  subst e2
  replace h : (Kp432Neutral.natural x0 && (Kp432Neutral.natural x1 && Kp432Neutral.natural x2)) = true := h
  clear h1 h2
  obtain ⟨g0, t0⟩ := and2 h
  clear h
  obtain ⟨g1, t1⟩ := and2 t0
  clear t0
  obtain ⟨n0, e, b0⟩ := nat_of g0
  subst e
  obtain ⟨n1, e, b1⟩ := nat_of g1
  subst e
  obtain ⟨n2, e, b2⟩ := nat_of t1
  subst e
  exact ⟨.variance n0 n1 n2, rfl, rfl, (InU.cons b0 (InU.cons b1 (InU.cons b2 InU.nil))), Rows12.nil⟩
theorem which15 {xs : List Int} {rows : List (List Int)} (h1 : 4 = xs.length) (h2 : 0 = rows.length) (h : Kp432Neutral.asked1 (PyKp432.whole ((15 :: xs) :: rows)) = true) : ∃ c, Which ((15 :: xs) :: rows) c := by
  obtain ⟨x0, x1, x2, x3, rfl⟩ := len4 h1
  have e2 := len0 h2
  subst e2
  replace h : (Kp432Neutral.natural x0 && (Kp432Neutral.natural x1 && (Kp432Neutral.natural x2 && Kp432Neutral.natural x3))) = true := h
  clear h1 h2
  obtain ⟨g0, t0⟩ := and2 h
  clear h
  obtain ⟨g1, t1⟩ := and2 t0
  clear t0
  obtain ⟨g2, t2⟩ := and2 t1
  clear t1
  obtain ⟨n0, e, b0⟩ := nat_of g0
  subst e
  obtain ⟨n1, e, b1⟩ := nat_of g1
  subst e
  obtain ⟨n2, e, b2⟩ := nat_of g2
  subst e
  obtain ⟨n3, e, b3⟩ := nat_of t2
  subst e
  exact ⟨.interval n0 n1 n2 n3, rfl, rfl, (InU.cons b0 (InU.cons b1 (InU.cons b2 (InU.cons b3 InU.nil)))), Rows12.nil⟩
theorem which16 {xs : List Int} {rows : List (List Int)} (h1 : 4 = xs.length) (h2 : 0 = rows.length) (h : Kp432Neutral.asked1 (PyKp432.whole ((16 :: xs) :: rows)) = true) : ∃ c, Which ((16 :: xs) :: rows) c := by
  obtain ⟨x0, x1, x2, x3, rfl⟩ := len4 h1
  have e2 := len0 h2
  subst e2
  replace h : (Kp432Neutral.natural x0 && (Kp432Neutral.natural x1 && (Kp432Neutral.natural x2 && Kp432Neutral.natural x3))) = true := h
  clear h1 h2
  obtain ⟨g0, t0⟩ := and2 h
  clear h
  obtain ⟨g1, t1⟩ := and2 t0
  clear t0
  obtain ⟨g2, t2⟩ := and2 t1
  clear t1
  obtain ⟨n0, e, b0⟩ := nat_of g0
  subst e
  obtain ⟨n1, e, b1⟩ := nat_of g1
  subst e
  obtain ⟨n2, e, b2⟩ := nat_of g2
  subst e
  obtain ⟨n3, e, b3⟩ := nat_of t2
  subst e
  exact ⟨.compare n0 n1 n2 n3, rfl, rfl, (InU.cons b0 (InU.cons b1 (InU.cons b2 (InU.cons b3 InU.nil)))), Rows12.nil⟩
theorem which17 {xs : List Int} {rows : List (List Int)} (h1 : 3 = xs.length) (h2 : 0 = rows.length) (h : Kp432Neutral.asked1 (PyKp432.whole ((17 :: xs) :: rows)) = true) : ∃ c, Which ((17 :: xs) :: rows) c := by
  obtain ⟨x0, x1, x2, rfl⟩ := len3 h1
  have e2 := len0 h2
  subst e2
  replace h : (Kp432Neutral.natural x0 && (Kp432Neutral.natural x1 && Kp432Neutral.natural x2)) = true := h
  clear h1 h2
  obtain ⟨g0, t0⟩ := and2 h
  clear h
  obtain ⟨g1, t1⟩ := and2 t0
  clear t0
  obtain ⟨n0, e, b0⟩ := nat_of g0
  subst e
  obtain ⟨n1, e, b1⟩ := nat_of g1
  subst e
  obtain ⟨n2, e, b2⟩ := nat_of t1
  subst e
  exact ⟨.byContext n0 n1 n2, rfl, rfl, (InU.cons b0 (InU.cons b1 (InU.cons b2 InU.nil))), Rows12.nil⟩
theorem which18 {xs : List Int} {rows : List (List Int)} (h1 : 1 = xs.length) (h2 : 0 = rows.length) (h : Kp432Neutral.asked1 (PyKp432.whole ((18 :: xs) :: rows)) = true) : ∃ c, Which ((18 :: xs) :: rows) c := by
  obtain ⟨x0, rfl⟩ := len1 h1
  have e2 := len0 h2
  subst e2
  replace h : Kp432Neutral.natural x0 = true := h
  clear h1 h2
  obtain ⟨n0, e, b0⟩ := nat_of h
  subst e
  exact ⟨.greatestWeight n0, rfl, rfl, (InU.cons b0 InU.nil), Rows12.nil⟩
theorem which19 {xs : List Int} {rows : List (List Int)} (h1 : 1 = xs.length) (h2 : 0 = rows.length) (h : Kp432Neutral.asked1 (PyKp432.whole ((19 :: xs) :: rows)) = true) : ∃ c, Which ((19 :: xs) :: rows) c := by
  obtain ⟨x0, rfl⟩ := len1 h1
  have e2 := len0 h2
  subst e2
  replace h : Kp432Neutral.natural x0 = true := h
  clear h1 h2
  obtain ⟨n0, e, b0⟩ := nat_of h
  subst e
  exact ⟨.modelInfo n0, rfl, rfl, (InU.cons b0 InU.nil), Rows12.nil⟩
theorem which20 {xs : List Int} {rows : List (List Int)} (h1 : 1 = xs.length) (h2 : 0 = rows.length) (h : Kp432Neutral.asked1 (PyKp432.whole ((20 :: xs) :: rows)) = true) : ∃ c, Which ((20 :: xs) :: rows) c := by
  obtain ⟨x0, rfl⟩ := len1 h1
  have e2 := len0 h2
  subst e2
  replace h : Kp432Neutral.natural x0 = true := h
  clear h1 h2
  obtain ⟨n0, e, b0⟩ := nat_of h
  subst e
  exact ⟨.trueValue n0, rfl, rfl, (InU.cons b0 InU.nil), Rows12.nil⟩
theorem which21 {xs : List Int} {rows : List (List Int)} (h1 : 4 = xs.length) (h2 : 0 = rows.length) (h : Kp432Neutral.asked1 (PyKp432.whole ((21 :: xs) :: rows)) = true) : ∃ c, Which ((21 :: xs) :: rows) c := by
  obtain ⟨x0, x1, x2, x3, rfl⟩ := len4 h1
  have e2 := len0 h2
  subst e2
  replace h : (Kp432Neutral.natural x0 && (Kp432Neutral.natural x1 && (Kp432Neutral.natural x2 && Kp432Neutral.natural x3))) = true := h
  clear h1 h2
  obtain ⟨g0, t0⟩ := and2 h
  clear h
  obtain ⟨g1, t1⟩ := and2 t0
  clear t0
  obtain ⟨g2, t2⟩ := and2 t1
  clear t1
  obtain ⟨n0, e, b0⟩ := nat_of g0
  subst e
  obtain ⟨n1, e, b1⟩ := nat_of g1
  subst e
  obtain ⟨n2, e, b2⟩ := nat_of g2
  subst e
  obtain ⟨n3, e, b3⟩ := nat_of t2
  subst e
  exact ⟨.expectation n0 n1 n2 n3, rfl, rfl, (InU.cons b0 (InU.cons b1 (InU.cons b2 (InU.cons b3 InU.nil)))), Rows12.nil⟩
theorem which22 {xs : List Int} {rows : List (List Int)} (h1 : 2 = xs.length) (h2 : 0 = rows.length) (h : Kp432Neutral.asked1 (PyKp432.whole ((22 :: xs) :: rows)) = true) : ∃ c, Which ((22 :: xs) :: rows) c := by
  obtain ⟨x0, x1, rfl⟩ := len2 h1
  have e2 := len0 h2
  subst e2
  replace h : (Kp432Neutral.natural x0 && Kp432Neutral.natural x1) = true := h
  clear h1 h2
  obtain ⟨g0, t0⟩ := and2 h
  clear h
  obtain ⟨n0, e, b0⟩ := nat_of g0
  subst e
  obtain ⟨n1, e, b1⟩ := nat_of t0
  subst e
  exact ⟨.unsupported n0 n1, rfl, rfl, (InU.cons b0 (InU.cons b1 InU.nil)), Rows12.nil⟩
theorem which23 {xs : List Int} {rows : List (List Int)} (h1 : 5 = xs.length) (h2 : 0 = rows.length) (h : Kp432Neutral.asked1 (PyKp432.whole ((23 :: xs) :: rows)) = true) : ∃ c, Which ((23 :: xs) :: rows) c := by
  obtain ⟨x0, x1, x2, x3, x4, rfl⟩ := len5 h1
  have e2 := len0 h2
  subst e2
  replace h : (Kp432Neutral.natural x0 && (Kp432Neutral.natural x1 && (Kp432Neutral.natural x2 && (Kp432Neutral.natural x3 && Kp432Neutral.natural x4)))) = true := h
  clear h1 h2
  obtain ⟨g0, t0⟩ := and2 h
  clear h
  obtain ⟨g1, t1⟩ := and2 t0
  clear t0
  obtain ⟨g2, t2⟩ := and2 t1
  clear t1
  obtain ⟨g3, t3⟩ := and2 t2
  clear t2
  obtain ⟨n0, e, b0⟩ := nat_of g0
  subst e
  obtain ⟨n1, e, b1⟩ := nat_of g1
  subst e
  obtain ⟨n2, e, b2⟩ := nat_of g2
  subst e
  obtain ⟨n3, e, b3⟩ := nat_of g3
  subst e
  obtain ⟨n4, e, b4⟩ := nat_of t3
  subst e
  exact ⟨.bootstrap n0 n1 n2 n3 n4, rfl, rfl, (InU.cons b0 (InU.cons b1 (InU.cons b2 (InU.cons b3 (InU.cons b4 InU.nil))))), Rows12.nil⟩
theorem which24 {xs : List Int} {rows : List (List Int)} (h1 : 1 = xs.length) (h2 : 1 = rows.length) (h : Kp432Neutral.asked1 (PyKp432.whole ((24 :: xs) :: rows)) = true) : ∃ c, Which ((24 :: xs) :: rows) c := by
  obtain ⟨x0, rfl⟩ := len1 h1
  obtain ⟨r0, rfl⟩ := len1 h2
  replace h : (Kp432Neutral.natural x0 && (r0.all Kp432Neutral.natural && decide (r0.length ≤ 12))) = true := h
  clear h1 h2
  obtain ⟨g0, t0⟩ := and2 h
  clear h
  obtain ⟨n0, e, b0⟩ := nat_of g0
  subst e
  obtain ⟨l, e, hl, hb⟩ := row_of t0
  subst e
  exact ⟨.precision n0 l, rfl, congrArg (fun z => some (Kp432.Call.precision n0 z)) (up_down l), (InU.cons b0 InU.nil), Rows12.one hl hb⟩
theorem which25 {xs : List Int} {rows : List (List Int)} (h1 : 0 = xs.length) (h2 : 1 = rows.length) (h : Kp432Neutral.asked1 (PyKp432.whole ((25 :: xs) :: rows)) = true) : ∃ c, Which ((25 :: xs) :: rows) c := by
  have e1 := len0 h1
  subst e1
  obtain ⟨r0, rfl⟩ := len1 h2
  replace h : (r0.all Kp432Neutral.natural && decide (r0.length ≤ 12)) = true := h
  clear h1 h2
  obtain ⟨l, e, hl, hb⟩ := row_of h
  subst e
  exact ⟨.rankMeasures l, rfl, congrArg (fun z => some (Kp432.Call.rankMeasures z)) (up_down l), InU.nil, Rows12.one hl hb⟩
theorem which26 {xs : List Int} {rows : List (List Int)} (h1 : 0 = xs.length) (h2 : 1 = rows.length) (h : Kp432Neutral.asked1 (PyKp432.whole ((26 :: xs) :: rows)) = true) : ∃ c, Which ((26 :: xs) :: rows) c := by
  have e1 := len0 h1
  subst e1
  obtain ⟨r0, rfl⟩ := len1 h2
  replace h : (r0.all Kp432Neutral.natural && decide (r0.length ≤ 12)) = true := h
  clear h1 h2
  obtain ⟨l, e, hl, hb⟩ := row_of h
  subst e
  exact ⟨.gains l, rfl, congrArg (fun z => some (Kp432.Call.gains z)) (up_down l), InU.nil, Rows12.one hl hb⟩
theorem which27 {xs : List Int} {rows : List (List Int)} (h1 : 0 = xs.length) (h2 : 1 = rows.length) (h : Kp432Neutral.asked1 (PyKp432.whole ((27 :: xs) :: rows)) = true) : ∃ c, Which ((27 :: xs) :: rows) c := by
  have e1 := len0 h1
  subst e1
  obtain ⟨r0, rfl⟩ := len1 h2
  replace h : (r0.all Kp432Neutral.natural && decide (r0.length ≤ 12)) = true := h
  clear h1 h2
  obtain ⟨l, e, hl, hb⟩ := row_of h
  subst e
  exact ⟨.orderMeasure l, rfl, congrArg (fun z => some (Kp432.Call.orderMeasure z)) (up_down l), InU.nil, Rows12.one hl hb⟩
theorem which28 {xs : List Int} {rows : List (List Int)} (h1 : 0 = xs.length) (h2 : 0 = rows.length) (h : Kp432Neutral.asked1 (PyKp432.whole ((28 :: xs) :: rows)) = true) : ∃ c, Which ((28 :: xs) :: rows) c := by
  have e1 := len0 h1
  subst e1
  have e2 := len0 h2
  subst e2
  exact ⟨.status , rfl, rfl, InU.nil, Rows12.nil⟩
theorem which {raw : List (List Int)} {f : List Int} (s : Shaped raw f) (h : Kp432Neutral.asked1 (PyKp432.whole raw) = true) : ∃ c, Which raw c := by
  obtain ⟨p, xs, rows, e⟩ := s
  unfold PyKp432.shape at e
  by_cases c0 : p = 0
  · subst c0
    have e := Prod.mk.inj (Option.some.inj (e : some (2, 0) = _))
    exact which0 e.1 e.2 h
  rw [if_neg c0] at e
  by_cases c1 : p = 1
  · subst c1
    have e := Prod.mk.inj (Option.some.inj (e : some (5, 0) = _))
    exact which1 e.1 e.2 h
  rw [if_neg c1] at e
  by_cases c2 : p = 2
  · subst c2
    have e := Prod.mk.inj (Option.some.inj (e : some (0, 0) = _))
    exact which2 e.1 e.2 h
  rw [if_neg c2] at e
  by_cases c3 : p = 3
  · subst c3
    have e := Prod.mk.inj (Option.some.inj (e : some (4, 0) = _))
    exact which3 e.1 e.2 h
  rw [if_neg c3] at e
  by_cases c4 : p = 4
  · subst c4
    have e := Prod.mk.inj (Option.some.inj (e : some (2, 1) = _))
    exact which4 e.1 e.2 h
  rw [if_neg c4] at e
  by_cases c5 : p = 5
  · subst c5
    have e := Prod.mk.inj (Option.some.inj (e : some (2, 0) = _))
    exact which5 e.1 e.2 h
  rw [if_neg c5] at e
  by_cases c6 : p = 6
  · subst c6
    have e := Prod.mk.inj (Option.some.inj (e : some (1, 1) = _))
    exact which6 e.1 e.2 h
  rw [if_neg c6] at e
  by_cases c7 : p = 7
  · subst c7
    have e := Prod.mk.inj (Option.some.inj (e : some (0, 0) = _))
    exact which7 e.1 e.2 h
  rw [if_neg c7] at e
  by_cases c8 : p = 8
  · subst c8
    have e := Prod.mk.inj (Option.some.inj (e : some (2, 1) = _))
    exact which8 e.1 e.2 h
  rw [if_neg c8] at e
  by_cases c9 : p = 9
  · subst c9
    have e := Prod.mk.inj (Option.some.inj (e : some (3, 0) = _))
    exact which9 e.1 e.2 h
  rw [if_neg c9] at e
  by_cases c10 : p = 10
  · subst c10
    have e := Prod.mk.inj (Option.some.inj (e : some (3, 0) = _))
    exact which10 e.1 e.2 h
  rw [if_neg c10] at e
  by_cases c11 : p = 11
  · subst c11
    have e := Prod.mk.inj (Option.some.inj (e : some (1, 0) = _))
    exact which11 e.1 e.2 h
  rw [if_neg c11] at e
  by_cases c12 : p = 12
  · subst c12
    have e := Prod.mk.inj (Option.some.inj (e : some (1, 0) = _))
    exact which12 e.1 e.2 h
  rw [if_neg c12] at e
  by_cases c13 : p = 13
  · subst c13
    have e := Prod.mk.inj (Option.some.inj (e : some (1, 0) = _))
    exact which13 e.1 e.2 h
  rw [if_neg c13] at e
  by_cases c14 : p = 14
  · subst c14
    have e := Prod.mk.inj (Option.some.inj (e : some (3, 0) = _))
    exact which14 e.1 e.2 h
  rw [if_neg c14] at e
  by_cases c15 : p = 15
  · subst c15
    have e := Prod.mk.inj (Option.some.inj (e : some (4, 0) = _))
    exact which15 e.1 e.2 h
  rw [if_neg c15] at e
  by_cases c16 : p = 16
  · subst c16
    have e := Prod.mk.inj (Option.some.inj (e : some (4, 0) = _))
    exact which16 e.1 e.2 h
  rw [if_neg c16] at e
  by_cases c17 : p = 17
  · subst c17
    have e := Prod.mk.inj (Option.some.inj (e : some (3, 0) = _))
    exact which17 e.1 e.2 h
  rw [if_neg c17] at e
  by_cases c18 : p = 18
  · subst c18
    have e := Prod.mk.inj (Option.some.inj (e : some (1, 0) = _))
    exact which18 e.1 e.2 h
  rw [if_neg c18] at e
  by_cases c19 : p = 19
  · subst c19
    have e := Prod.mk.inj (Option.some.inj (e : some (1, 0) = _))
    exact which19 e.1 e.2 h
  rw [if_neg c19] at e
  by_cases c20 : p = 20
  · subst c20
    have e := Prod.mk.inj (Option.some.inj (e : some (1, 0) = _))
    exact which20 e.1 e.2 h
  rw [if_neg c20] at e
  by_cases c21 : p = 21
  · subst c21
    have e := Prod.mk.inj (Option.some.inj (e : some (4, 0) = _))
    exact which21 e.1 e.2 h
  rw [if_neg c21] at e
  by_cases c22 : p = 22
  · subst c22
    have e := Prod.mk.inj (Option.some.inj (e : some (2, 0) = _))
    exact which22 e.1 e.2 h
  rw [if_neg c22] at e
  by_cases c23 : p = 23
  · subst c23
    have e := Prod.mk.inj (Option.some.inj (e : some (5, 0) = _))
    exact which23 e.1 e.2 h
  rw [if_neg c23] at e
  by_cases c24 : p = 24
  · subst c24
    have e := Prod.mk.inj (Option.some.inj (e : some (1, 1) = _))
    exact which24 e.1 e.2 h
  rw [if_neg c24] at e
  by_cases c25 : p = 25
  · subst c25
    have e := Prod.mk.inj (Option.some.inj (e : some (0, 1) = _))
    exact which25 e.1 e.2 h
  rw [if_neg c25] at e
  by_cases c26 : p = 26
  · subst c26
    have e := Prod.mk.inj (Option.some.inj (e : some (0, 1) = _))
    exact which26 e.1 e.2 h
  rw [if_neg c26] at e
  by_cases c27 : p = 27
  · subst c27
    have e := Prod.mk.inj (Option.some.inj (e : some (0, 1) = _))
    exact which27 e.1 e.2 h
  rw [if_neg c27] at e
  by_cases c28 : p = 28
  · subst c28
    have e := Prod.mk.inj (Option.some.inj (e : some (0, 0) = _))
    exact which28 e.1 e.2 h
  rw [if_neg c28] at e
  cases e
theorem flat_of {raw : List (List Int)} {f : List Int} (s : Shaped raw f) {c : Kp432.Call} (w : Which raw c) : f = up (flatC c) := by
  obtain ⟨p, xs, rows, _⟩ := s
  have e := w.eq
  unfold rawOf at e
  injection e with e1 e2
  injection e1 with e3 e4
  rw [e2, e3, e4]
  unfold flatC flatRows up
  rw [List.map_cons, List.map_append]
  congr 2
  generalize (cArgs c).2.2 = rs
  induction rs with
  | nil => rfl
  | cons r rs ih =>
    rw [List.map_cons, List.flatMap_cons, List.flatMap_cons, List.map_append, ih]
    congr 1
    unfold flatRow
    rw [List.length_map]
    rfl
theorem raws_of {raw : List (List (List Int))} {l : List Int} (s : Raws raw l) (h : ∀ c ∈ raw, Kp432Neutral.asked1 (PyKp432.whole c) = true) :
    ∃ cs : List Kp432.Call, l = up (flats cs) ∧ cs.length = raw.length ∧ (∀ c ∈ cs, CallOk c) ∧ ∀ st, PyFlat.told (PyFlat.played Kp432Neutral.step st (raw.map PyKp432.whole)) = outs st cs := by
  induction s with
  | nil => exact ⟨[], rfl, rfl, no_mem, fun st => rfl⟩
  | @cons raw0 f0 cs0 l0 s r ih =>
    obtain ⟨c, w⟩ := which s (h _ List.mem_cons_self)
    obtain ⟨cs, h1, h2, h3, h4⟩ := ih fun c hc => h c (List.mem_cons_of_mem _ hc)
    refine ⟨c :: cs, ?_, by rw [List.length_cons, List.length_cons, h2], fun d hd => ?_, fun st => ?_⟩
    rotate_left
    · rcases List.mem_cons.mp hd with e | hd
      · rw [e]
        exact w.ok
      · exact h3 d hd
    rotate_left
    · rw [flat_of s w, h1]
      unfold flats up
      rw [List.flatMap_cons, List.map_append]
    · rw [List.map_cons]
      have e : Kp432Neutral.step st (PyKp432.whole raw0) = ((Kp432.step st c).1, (Kp432.step st c).2.num :: (Kp432.step st c).2.nums) := by
        unfold Kp432Neutral.step
        rw [w.call]
      unfold PyFlat.played
      rw [e]
      unfold outs PyFlat.told
      rw [List.flatMap_cons, ← h4]
      rfl
theorem decode {l : List Int} (h : PyKp432.answers_asked l = true) : ∃ cs : List Kp432.Call, l = up (flats cs) ∧ PyKp432.answers l = outs none cs ∧ cs.length ≤ 60 ∧ (∀ c ∈ cs, CallOk c) ∧ (outs none cs).length ≤ 10000000 := by
  unfold PyKp432.answers_asked at h
  split at h
  · cases h
  · rename_i raw e
    obtain ⟨h, h5⟩ := and2 h
    obtain ⟨h, h4⟩ := and2 h
    obtain ⟨h, h3⟩ := and2 h
    obtain ⟨h1, h2⟩ := and2 h
    unfold Kp432Neutral.asked at h4
    obtain ⟨_, h4⟩ := and2 h4
    obtain ⟨_, h4⟩ := and2 h4
    obtain ⟨cs, q1, q2, q3, q4⟩ := raws_of (calls_ok _ e) fun c hc => List.all_eq_true.mp h4 _ (List.mem_map.mpr ⟨c, hc, rfl⟩)
    have ea : PyKp432.answers l = outs none cs := by
      unfold PyKp432.answers PyKp432.calls
      rw [e]
      exact q4 none
    refine ⟨cs, q1, ea, ?_, q3, ?_⟩
    · rw [q2]
      exact of_decide_eq_true h2
    · rw [← ea]
      exact of_decide_eq_true h5
end Lw
end
/-! LwExc -/
section
set_option Elab.async false
set_option linter.all false
set_option maxRecDepth 100000
set_option maxHeartbeats 4000000
/-! own errors that stand under Exception, one above the other, each with an __init__ of its own -/
namespace LwX
open PySem PySem.W PySem.Calls PyProof.Rows PySem.HandSPX
/-- own classes, then what Exception itself stands under -/
def overE : List Value → Bool
  | .ref _ :: rest => overE rest
  | tail => tail == PySem.ESX.exTail
theorem overE_split : ∀ l : List Value, overE l = true → (∃ a rest, l = .ref a :: rest ∧ overE rest = true) ∨ l = PySem.ESX.exTail
  | [], h => .inr (beq_iff_eq.mp h)
  | .ref a :: rest, h => .inl ⟨a, rest, rfl, h⟩
  | .none :: _, h => .inr (beq_iff_eq.mp h)
  | .ellipsis :: _, h => .inr (beq_iff_eq.mp h)
  | .notImplemented :: _, h => .inr (beq_iff_eq.mp h)
  | .bool _ :: _, h => .inr (beq_iff_eq.mp h)
  | .int _ _ :: _, h => .inr (beq_iff_eq.mp h)
  | .float _ _ :: _, h => .inr (beq_iff_eq.mp h)
  | .str _ _ :: _, h => .inr (beq_iff_eq.mp h)
  | .bytes _ _ :: _, h => .inr (beq_iff_eq.mp h)
  | .type _ :: _, h => .inr (beq_iff_eq.mp h)
  | .builtin _ :: _, h => .inr (beq_iff_eq.mp h)
theorem overE_refuse (who : Value) : ∀ l : List Value, overE l = true → refuseLoop who "__setattr__" l = pure ()
  | [], h => absurd h (by decide)
  | b :: t, h => by
    rcases overE_split (b :: t) h with ⟨a, rest, eq, hr⟩ | eq
    · obtain ⟨rfl, rfl⟩ := List.cons.inj eq
      rw [refuseLoop_ref]
      exact overE_refuse who t hr
    · rw [eq]
      exact F.store_Exception.passes who
theorem overE_has (T : String) : ∀ l : List Value, overE l = true → l.contains (.type T) = PySem.ESX.exTail.contains (.type T)
  | [], h => absurd h (by decide)
  | b :: t, h => by
    rcases overE_split (b :: t) h with ⟨a, rest, eq, hr⟩ | eq
    · obtain ⟨rfl, rfl⟩ := List.cons.inj eq
      rw [List.contains_cons, overE_has T t hr]
      rfl
    · rw [eq]
theorem overE_some {l : List Value} (h : overE l = true) : l.isEmpty = false := by
  cases l with
  | nil => exact absurd h (by decide)
  | cons _ _ => rfl
section
open Builtin Builtin.ObjectAttr
variable {prog : Program} {w : World} {A : Around} {R : Result → Shared → Prop} {h0 : Heap} {g : Array GenState} {dr : Drawn} {t : Nat} {os : OsState}
/-- self.name = v where the error has no dict as yet -/
theorem first_store {K : W.Frag} {name : Str} {tk : Tok} {v : Value} {x C : Addr} {fv : Array Value} {cd : ClassData}
    (kin : K.In h0) (at_ : h0.get? x = some { cls := .ref C, data := .fields fv }) (cls : W.clsIn K C = some cd) (mro : overE cd.mro = true) (hasD : cd.hasDict = true) (free : W.findIn K (.ref C) name = some none)
    (fin : ∀ h1 tk1 dx, (∀ b o, b ≠ x → h0.get? b = some o → h1.get? b = some o) → h0.objs.size ≤ dx → dx ≠ x → h1.get? x = some { cls := .ref C, dict := some dx, data := .fields fv } →
      h1.Ns1 dx (fun y => if y = name then some v else none) → R (.ok (.ret .none)) ⟨h1, g, dr, tk1, os⟩) :
    codeAny (model prog w) A (.call (.builtin "object.__setattr__") ⟨[.ref x, .str name tk, v], []⟩) R ⟨h0, g, dr, t, os⟩ := by
  have inst : W.InstAt h0 x { cls := .ref C, data := .fields fv } C none := ⟨at_, rfl, rfl, trivial⟩
  have facts := F.store_object
  have isObj : cd.mro.contains (.type "object") = true := (overE_has "object" _ mro).trans (by decide +kernel)
  have apart : x ≠ h0.objs.size := Nat.ne_of_lt (Heap.lt_size at_)
  have under : W.Looks (model prog w) h0 (isInstance (.ref x) (.type "object")) true := inst.type.andThen (W.looks_mroIn kin (by
    unfold W.mroIn
    rw [cls, Option.bind_some, if_neg (by rw [overE_some mro]; decide), isObj]))
  refine codeAny_call_builtin facts.slot.plain facts.entry (@W.check_slot (model prog w) _ _ ⟨h0, g, dr, t, os⟩ "object.__setattr__" "object" "__setattr__" (.ref x)
    [.str name tk, v] [] _ facts.kind facts.split under (facts.args (.ref x) (.str name tk) v) ?_)
  have order : W.Looks (model prog w) h0 (mroOf (.ref C)) cd.mro := (W.looks_clsIn kin cls).andThen .now
  have none_ : W.Looks (model prog w) h0 (storeTaker? none) none := .now
  have data : W.Looks (model prog w) h0 (classData C) cd := W.looks_clsIn kin cls
  rw [W.osa_eq, refuse_eq]
  refine wpAny_bind (wpAny_bind (inst.type.at (wpAny_bind (order.at ?_))))
  rw [overE_refuse _ _ mro]
  refine wpAny_pure (wpAny_bind (inst.type.at (wpAny_bind ((W.looks_findIn kin free).at (wpAny_bind (none_.at ?_))))))
  show wpAny _ _ (storeInOwnDict (.ref x) (.ref C) (.str name tk) name v false) _ _ _
  obtain ⟨c1, c2, c3, c4, c5, c6, c7, c8, c9, c10, c11⟩ := cd
  dsimp only at hasD
  subst hasD
  unfold storeInOwnDict ownDictForStores
  repeat (first | with_reducible refine HandSPX.store_in_new ?_ ?_ | with_reducible refine wpAny_loadPart_at at_ ?_ | with_reducible refine data.at ?_ | wp_step)
  · exact ⟨_, #[], _, (Heap.get?_update_ne _ _ _ _ apart.symm).trans (Heap.get?_push_at rfl rfl), rfl, fun e he => absurd he (by simp), fun _ => rfl⟩
  · intro h1 tk1 names same
    have old : (h0.push { cls := .type "dict", data := .dict #[] }).get? x = some { cls := .ref C, data := .fields fv } := Heap.get?_push_of_some _ at_
    refine fin h1 tk1 h0.objs.size (fun b o hb ho => ?_) (Nat.le_refl _) apart.symm ?_ names
    · exact (same.2 b (Nat.ne_of_lt (Heap.lt_size ho))).trans ((Heap.get?_update_ne _ _ _ _ hb).trans (Heap.get?_push_of_some _ ho))
    · exact (same.2 x apart).trans (Heap.get?_update_self _ old rfl)
end
theorem type_Exception : typeOf (.type "Exception") = pure (.type "type") := by kernel_rfl
theorem init_Exception {K : Frag} : findCls K (.type "Exception") (.type "type") "__init__" = some (.val (.builtin "Exception.__init__")) := by kernel_rfl
end LwX
end
/-! LwExc2 -/
section
set_option Elab.async false
set_option linter.all false
set_option maxRecDepth 100000
set_option maxHeartbeats 4000000
namespace L2
open PySem PySem.Spec PyProof.Rows
/-- what the written part says of an own error's class at C -/
structure ErrC (K : PySem.W.Frag) (C : Addr) : Prop where
  shape : ∃ c1 c2 c3 c4 c5 c6 c7 c8 c9 d1 d2 d3 d4 d5 d6, K.lookup C = some (excClassObj c1 c2 C c3 c4 c5 true c6 c7 c8 c9 d1 d2 d3 d4 d5 d6 "Exception.__new__") ∧ LwX.overE c5 = true
  store : PySem.W.findIn K (.ref C) "__setattr__" = some (some (.builtin "object.__setattr__"))
  above : PySem.W.subIn K (.ref C) (.type "BaseException") = some true
  kind : PySem.W.typeIn K (.ref C) = some (.type "type")
  kept : PySem.W.keepIn K (.ref C) = true
  noCode : PySem.W.findIn K (.ref C) "code" = some none
section
variable {X : Cx} {pins : List (Addr × Obj)} {σ : St} {H : Hp} {s : Shared} {a C : Addr} {y : V} {u : Value} {Q : Unit → Shared → Prop} {E : Value → Shared → Prop} {A : Around}
/-- self.code = y -/
theorem err_store (T : ErrC X.K C) (I : Inv X pins σ H s) (e : H a = some (exo a C none)) (ry : RelV y u)
    (h : ∀ dx s', H dx = none → dx ≠ a → Inv X pins σ (upd (upd H dx (exd dx [("code", y)])) a (exo a C (some dx))) s' → Q () s') :
    wpAny (model X.prog X.w) A (setAttr (.ref a) "code" u) Q E s := by
  obtain ⟨c1, c2, c3, c4, c5, c6, c7, c8, c9, d1, d2, d3, d4, d5, d6, look, mro⟩ := T.shape
  have data : PySem.W.clsIn X.K C = some { name := c1, bases := c4, mro := .ref C :: c5, ns := c3, qualname := c2, hasDict := true, slotNames := c6, subclasses := c7, abstract := c8, collection := c9, hasDel := false } := by
    unfold PySem.W.clsIn
    rw [look] <;> rfl
  obtain ⟨t1, at_⟩ := exo_at I.hok e
  obtain ⟨hp, g, d, t, os⟩ := s
  refine PySem.W.set_plain I.kIn (ox := { cls := .ref C, dict := none, data := .fields #[.ref t1, .none, .none, .none, .bool false, .none] }) (od := none) ⟨at_, rfl, rfl, trivial⟩ T.store ?_
  refine LwX.first_store I.kIn at_ data (show LwX.overE (.ref C :: c5) = true from mro) rfl T.noCode (fun h' tk' dx k dn dne hx hn => ?_)
  have fresh : H dx = none := I.hok.fresh dn
  have below : ∀ {b : Addr} {o : Obj}, hp.get? b = some o → b ≠ dx := fun {b o} q => Nat.ne_of_lt (Nat.lt_of_lt_of_le (Heap.lt_size q) dn)
  have other : ∀ {b : Addr}, H b = none → b ≠ a := fun {b} n z => by
    rw [z, e] at n
    cases n
  have un : Un X.fs [] H (upd (upd H dx (exd dx [("code", y)])) a (exo a C (some dx))) hp h' := {
    keep := fun b o q n _ _ => k b o (other n) q
    slot := fun b o q n _ _ => ⟨o.slots, k b o (other n) q⟩
    free := fun b o q n _ => by
      rw [upd_ne (other n), upd_ne (below q)]
      exact n
    there := fun b o q _ => by
      by_cases hb : b = a
      · rw [hb]
        exact ⟨_, hx⟩
      · exact ⟨o, k b o hb q⟩
    tups := fun b xs q => by
      rw [upd_ne (at_ne e q exo_tup), upd_ne (ne_of_none q fresh)]
      exact q
    frzs := fun b o v q => by
      rw [upd_ne (at_ne e q exo_frz), upd_ne (ne_of_none q fresh)]
      exact q
    tbls := fun b ps q => by
      refine ⟨#[], ?_⟩
      rw [upd_ne (at_ne e q exo_tbl), upd_ne (ne_of_none q fresh), q]
      simp }
  refine h dx _ fresh dne (I.un (t' := tk') un fun b o q => ?_)
  by_cases hb : b = a
  · subst hb
    rw [upd_same] at q
    cases q
    exact exo_ok hx
  · rw [upd_ne hb] at q
    by_cases hd : b = dx
    · subst hd
      rw [upd_same] at q
      cases q
      exact exd_ok hn (relO_put (fs := []) ry fun g => True.intro)
    · rw [upd_ne hd] at q
      refine (I.hok b o q).stay (fun c v hc z => k c v ?_ z) (fun c hc => ?_) (fun c xs hc => ?_)
      · rcases hc with hc | hc
        · rw [hc]
          exact hb
        · exact at_ne e hc exo_own
      · rw [upd_ne (at_ne e hc exo_own), upd_ne (ne_of_none hc fresh)]
        exact hc
      · rw [upd_ne (at_ne e hc exo_tup), upd_ne (ne_of_none hc fresh)]
        exact hc
/-- Exception.__init__(self): nothing of it is told -/
theorem err_base {us : List Value} {Q : Value → Shared → Prop} (T : ErrC X.K C) (I : Inv X pins σ H s) (e : H a = some (exo a C none)) (hl : us.length ≤ sizeLine) (h : ∀ s', Inv X pins σ H s' → Q .none s') :
    wpAny (model X.prog X.w) A (call (.builtin "Exception.__init__") (.ref a :: us)) Q E s := by
  obtain ⟨c1, c2, c3, c4, c5, c6, c7, c8, c9, d1, d2, d3, d4, d5, d6, look, mro⟩ := T.shape
  obtain ⟨t1, at_⟩ := exo_at I.hok e
  obtain ⟨hp, g, d, t, os⟩ := s
  refine wpAny_call (PySem.HandSPX.init_base F.excBase_Exception (fun Y => LwX.overE_has Y c5 mro) (I.kIn _ _ look) at_ hl fun h' t2 k hx => ?_)
  have J := I.write (t' := t) (x := a) (e := a) (o := exo a C none) (by rw [e]; exact True.intro) (.inl rfl) k ⟨_, hx⟩ (exo_ok hx)
  have eu : upd H a (exo a C none) = H := by
    funext b
    by_cases hb : b = a
    · rw [hb, upd_same, e]
    · rw [upd_ne hb]
  rw [eu] at J
  exact h _ J
end
/-- Exception.__init__(self, ..) -/
def tErrBase (K : PySem.W.Frag) (ta : TA) : TE := fun σ H Q => ta σ H fun vs H1 => ∃ (a C : Addr) (ws : List V), vs = .ref a :: ws ∧ ws.length ≤ 1000 ∧ ErrC K C ∧ H1 a = some (exo a C none) ∧ Q .non H1
/-- self.code = e -/
def tErrCode (K : PySem.W.Frag) (to te : TE) : TS := fun D σ H => te σ H fun y H1 => to σ H1 fun x H2 => ∃ a C : Addr, x = .ref a ∧ ErrC K C ∧
  H2 a = some (exo a C none) ∧ ∀ dx, H2 dx = none → dx ≠ a → D.nx σ (upd (upd H2 dx (exd dx [("code", y)])) a (exo a C (some dx)))
/-- B.f(e, ..), B a class of the text and f a def of it: a plain call -/
def tOfCls (sp : Sp) (E : XK) (ta : TA) : TE := fun σ H Q => ta σ H fun vs H1 => sp vs H1 Q E
/-- C(..), C's own __init__ keeping sp -/
def tErrNew (C : Addr) (sp : Sp) (ta : TA) : St → Hp → XK → Prop := fun σ H Q => ta σ H fun vs H1 => vs.length ≤ 1000 ∧ ∀ a, H1 a = none → sp (.ref a :: vs) (upd H1 a (exo a C none))
  (fun v H2 => v = .non ∧ ∃ (d : Addr) (fs : List (Str × V)), H2 a = some (exo a C (some d)) ∧ H2 d = some (exd d fs) ∧ H1 d = none ∧ Q (.ref C) (some d) (upd (del H2 a) d (.xd fs))) (fun _ _ _ => False)
section
variable {X : Cx} {o e : Expr} {es : List Expr} {to te : TE} {ta : TA} {p p' p1 p2 pos : Pos}
theorem pe_errbase {pl : Sem Bool} (hg : Gl X "Exception") (hm : X.mg "Exception" = none) (ha : PA X (e :: es) ta)
    (hc : eval (.Call (.Attribute (.Name "Exception" p1) "__init__" p2) (e :: es) [] pos) X.env = (do
      let ov ← eval (.Name "Exception" p1) X.env
      standAt p2.atName
      let (f, first) ← holding [ov] (getMethod ov "__init__" pl)
      callWith pos f first (backTo pos (starEach (e :: es) X.env)) (backToKw pos (keywordEach [] X.env))) := by rfl)
    (he : starEach (e :: es) X.env = (false, eval e X.env) :: starEach es X.env := by rfl) (hpl : (backTo pos (starEach es X.env)).any (·.1) = false := by rfl) :
    PE X (.Call (.Attribute (.Name "Exception" p1) "__init__" p2) (e :: es) [] pos) (tErrBase X.K ta) := by
  refine ⟨fun pins s σ H Q I h => ?_⟩
  refine PySem.W.methodCall_KW (ld_blt I hg hm PyProof.Rows.Boot.«Exception» ?_ (by decide) (by decide)) hc
  obtain ⟨m, fr⟩ := I.fr
  refine PySem.W.method_type fr I.ok.mod.kin LwX.type_Exception (by decide +kernel) LwX.init_Exception (by decide +kernel) ?_
  show wpAny _ _ (callWith pos (Value.builtin "Exception.__init__") [] (backTo pos (starEach (e :: es) X.env)) []) _ _ _
  refine PyProof.Rows.callWith_method1 (thn (ha.run pos pins _ σ H _ (I.tok _) h) fun us s1 hh => ?_) he hpl
  obtain ⟨vs, H1, I1, r1, a, C, ws, ev, hl, T, ea, q⟩ := hh
  subst ev
  cases r1 with
  | @cons _ u0 _ ur ra rw' =>
    obtain rfl : u0 = Value.ref a := ra
    have hlen : ur.length ≤ sizeLine := by
      rw [← Paired.length rw', sizeLine_eq]
      omega
    exact err_base T I1 ea hlen fun s' J => ⟨.non, H1, J, rfl, q⟩
theorem ps_errcode (ho : PE X o to) (he : PE X e te) (hs : swapsWith e (some (.Attribute o "code" p')) pos.line X.env = pure false := by rfl) : PS X (.Assign [.Attribute o "code" p'] e pos) (tErrCode X.K to te) := by
  refine ⟨fun pins s σ H D I h => ?_⟩
  refine plainObj_wpAny_Assign_Attribute (thn (he.run pins s σ H _ I h) fun v s1 h1 => ?_) hs
  obtain ⟨y, H1, I1, r1, q1⟩ := h1
  refine thn (ho.run pins s1 σ H1 _ I1 q1) fun u s2 h2 => ?_
  obtain ⟨x, H2, I2, r2, a, C, ex, T, ea, q⟩ := h2
  subst ex
  obtain rfl : u = Value.ref a := r2
  exact err_store T I2 ea r1 fun dx s' n ne J => ⟨σ, _, J, q dx n ne⟩
/-- what of the text the class must have for its def to be read off it -/
structure OffCls (K : PySem.W.Frag) (C : Addr) (m : Str) (f : Addr) : Prop where
  how : ∃ mc, PySem.W.readsIn K C mc = true ∧ PySem.W.specialIn K (.ref C) "__getattribute__" = some (some (.builtin "type.__getattribute__")) ∧ PySem.W.findCls K (.ref C) mc m = some (.val (.ref f))
  kept : PySem.W.keepIn K (.ref f) = true
theorem pe_offcls {CX : CXT} {k : Nat} {x m : Str} {C f : Addr} {fd : FuncData} {ps : List Str} {sp : Sp} {E : XK} {pl : Sem Bool} (O : OffCls X.K C m f) (Fn : FnOk X.prog X.w X.K X.mg X.base CX k f fd ps sp) (hr : Room k X.A) (hg : Gl X x) (hm : X.mg x = some (.ref C))
    (hb : Binds X.K fd ps []) (hx : Passes CX X E) (ha : PA X (e :: es) ta)
    (hc : eval (.Call (.Attribute (.Name x p1) m p2) (e :: es) [] pos) X.env = (do
      let ov ← eval (.Name x p1) X.env
      standAt p2.atName
      let (f, first) ← holding [ov] (getMethod ov m pl)
      callWith pos f first (backTo pos (starEach (e :: es) X.env)) (backToKw pos (keywordEach [] X.env))) := by rfl) (hdb : (x == ("__debug__" : Str)) = false := by decide)
    (he : starEach (e :: es) X.env = (false, eval e X.env) :: starEach es X.env := by rfl) (hpl : (backTo pos (starEach es X.env)).any (·.1) = false := by rfl) :
    PE X (.Call (.Attribute (.Name x p1) m p2) (e :: es) [] pos) (tOfCls sp E ta) := by
  refine ⟨fun pins s σ H Q I h => ?_⟩
  obtain ⟨mc, rd, ga, fc⟩ := O.how
  refine PySem.W.methodCall_KW (ld_glob I hg hm ?_ hdb) hc
  refine PySem.W.method_cls I.kIn ga (PySem.W.cls_value I.kIn rd fc rfl ?_)
  refine PySem.W.callWith_K (h₀ := X.base) I.ok.mod.kin O.kept (thn (ha.run pos pins _ σ H _ (I.tok _) h) fun us s1 hh => ?_) he hpl
  obtain ⟨vs, H1, I1, r, q⟩ := hh
  refine ⟨I1.kIn, ?_⟩
  show wpAny _ _ (call (.ref f) us) _ _ _
  exact run_fn (dvs := []) Fn hr hb .nil hx I1 r (by rw [List.append_nil]; exact q)
end
end L2
end
/-! LwExc3 -/
section
set_option Elab.async false
set_option linter.all false
set_option maxRecDepth 100000
set_option maxHeartbeats 4000000
namespace L2
open PySem PySem.Spec PyProof.Rows
/-- C(), C's own __init__ keeping sp -/
def tErrNew0 (C : Addr) (sp : Sp) : St → Hp → XK → Prop := fun _ H Q => ∀ a, H a = none → sp [.ref a] (upd H a (exo a C none))
  (fun v H2 => v = .non ∧ ∃ (d : Addr) (fs : List (Str × V)), H2 a = some (exo a C (some d)) ∧ H2 d = some (exd d fs) ∧ H d = none ∧ Q (.ref C) (some d) (upd (del H2 a) d (.xd fs))) (fun _ _ _ => False)
theorem pmk_err0 {X : Cx} {p pos : Pos} {CX : CXT} {x : Str} {C fI : Addr} {k : Nat} {fd : FuncData} {ps : List Str} {sp : Sp} (T : ErrC X.K C)
    (own : PySem.W.findIn X.K (.ref C) "__init__" = some (some (.ref fI))) (isF : PySem.W.typeIn X.K (.ref fI) = some (.type "function"))
    (Fn : FnOk X.prog X.w X.K X.mg X.base CX k fI fd ps sp) (hr : Room (k + 1) X.A) (hb : Binds X.K fd ps []) (hx : Passes CX X (fun _ _ _ => False)) (hg : Gl X x) (hm : X.mg x = some (.ref C))
    (hdb : (x == ("__debug__" : Str)) = false := by decide) : PMk X (.Call (.Name x p) [] [] pos) (tErrNew0 C sp) := by
  intro pins s σ H Q I h
  obtain ⟨c1, c2, c3, c4, c5, c6, c7, c8, c9, d1, d2, d3, d4, d5, d6, look, mro⟩ := T.shape
  refine wpAny_Call_Name_kw (ld_glob I hg hm ?_ hdb)
  refine PySem.W.callWith_K0 I.kIn T.kept ?_
  show wpAny _ _ (call (.ref C) []) _ _ _
  obtain ⟨hp, g, dr, tk, os⟩ := s
  have hsz : hp.objs.size ≤ hp.objs.size + 1 := Nat.le_succ _
  have hn : H (hp.objs.size + 1) = none := I.hok.fresh hsz
  have hq := h (hp.objs.size + 1) hn
  have kk : ∀ b o, hp.get? b = some o → ((hp.push (PySem.W.kdv_tup [])).push (PySem.HandSPX.excO C hp.objs.size)).get? b = some o := fun b o e =>
    Heap.get?_push_of_some _ (Heap.get?_push_of_some _ e)
  have hget : ((hp.push (PySem.W.kdv_tup [])).push (PySem.HandSPX.excO C hp.objs.size)).get? (hp.objs.size + 1) = some (PySem.HandSPX.excO C hp.objs.size) := by
    heap_get
  have I2 : Inv X pins σ (upd H (hp.objs.size + 1) (exo (hp.objs.size + 1) C none)) ⟨(hp.push (PySem.W.kdv_tup [])).push (PySem.HandSPX.excO C hp.objs.size), g, dr, tk, os⟩ :=
    I.laid (a := hp.objs.size + 1) (o := exo (hp.objs.size + 1) C none) (t' := tk) (h' := (hp.push (PySem.W.kdv_tup [])).push (PySem.HandSPX.excO C hp.objs.size)) kk hsz (exo_ok hget)
  have r2 : Vals [V.ref (hp.objs.size + 1)] [Value.ref (hp.objs.size + 1)] := .cons rfl .nil
  have hl : ([Value.ref (hp.objs.size + 1)] ++ []).length = ps.length := by
    have e := r2.length
    rw [Fn.len _ _ _ _ hq] at e
    exact e.symm
  have ran := Fn.run _ X.stack _ _ ⟨[Value.ref (hp.objs.size + 1)], []⟩ [Value.ref (hp.objs.size + 1)] _ _ (fun _ _ _ => False) (hr.make C [] []) (I2.env0.make C [] []) (hb _ [Value.ref (hp.objs.size + 1)] I2.kIn hl) r2 hq
  refine wpAny_call (PySem.HandSPX.call_own F.excBase_Exception (fun Y => LwX.overE_has Y c5 mro) (I.kIn _ _ look) (PySem.W.looks_findIn I.kIn own)
    (fun self => PySem.W.bind_fn I.kIn self isF) (Nat.zero_le _) (codeAny_mono ran fun r s' hq' => ?_))
  cases r with
  | error er => exact hx pins σ _ _ er s' I2 hq'
  | ok fl =>
    cases fl with
    | ret u =>
      obtain ⟨v, H2, os2, bare2, un2, hok2, rv, ev, d, fs, ea, ed, hd1, q2⟩ := hq'
      subst ev
      obtain ⟨h2, g2, d2, t2, os'⟩ := s'
      exact ⟨rv, mk_end (raises_own T.above T.kind) I hsz kk un2 hok2 os2 bare2 ea ed hd1 q2⟩
    | next => exact False.elim hq'
    | brk => exact False.elim hq'
    | cont => exact False.elim hq'
end L2
end
/-! LwBase -/
section
set_option Elab.async false
set_option linter.all false
set_option maxRecDepth 100000
end
/-! LwCall -/
section
set_option Elab.async false
set_option linter.all false
set_option maxRecDepth 100000
set_option maxHeartbeats 4000000
/-! a written table with whole numbers as keys; a local that holds one of several defs; a field of a caught error -/
namespace L2
open PySem PySem.Spec PyProof.Rows
/-- a table's row: the key, the place of what lies there -/
def intRow (e : DictEntry) : Option (Int × Addr) := match e.key, e.val with
  | .int k _, .ref a => if e.hash = hashInt k then some (k, a) else none
  | _, _ => none
def intTab (K : PySem.W.Frag) (d : Addr) : Option (List (Option (Int × Addr))) := match K.lookup d with
  | some ⟨.type c, none, .dict es _, sl⟩ => if c = "dict" ∧ sl.isEmpty = true ∧ (d == sysModules) = false then some (es.toList.map intRow) else none
  | _ => none
structure KInt (K : PySem.W.Frag) (d : Addr) (kvs : List (Int × Addr)) : Prop where
  tab : intTab K d = some (kvs.map some)
theorem intRow_some {e : DictEntry} {k : Int} {a : Addr} (h : intRow e = some (k, a)) : (∃ t, e.key = .int k t) ∧ e.val = .ref a ∧ e.hash = hashInt k := by
  unfold intRow at h
  split at h
  · rename_i k' t a' e1 e2
    by_cases z : e.hash = hashInt k'
    · rw [if_pos z] at h
      obtain ⟨h1, h2⟩ := Prod.mk.inj (Option.some.inj h)
      subst h1 h2
      exact ⟨⟨t, e1⟩, e2, z⟩
    · rw [if_neg z] at h
      cases h
  · cases h
theorem intRows_find {es : List DictEntry} {kvs : List (Int × Addr)} (h : es.map intRow = kvs.map some) (k : Int) : (es.find? fun e => Value.isInt k e.key).map (·.val) = (kvs.lookup k).map Value.ref := by
  induction kvs generalizing es with
  | nil =>
    cases es with
    | nil => rfl
    | cons e es => cases h
  | cons p kvs ih =>
    cases es with
    | nil => cases h
    | cons e es =>
      obtain ⟨k', a⟩ := p
      rw [List.map_cons, List.map_cons] at h
      injection h with h1 h2
      obtain ⟨⟨t, e1⟩, e2, _⟩ := intRow_some h1
      by_cases z : k = k'
      · subst z
        have i1 : Value.isInt k e.key = true := by
          rw [e1]
          simp [Value.isInt]
        rw [List.find?_cons, i1, List.lookup_cons_self]
        exact congrArg some e2
      · have i1 : Value.isInt k e.key = false := by
          rw [e1]
          simp [Value.isInt]
          exact fun q => z q.symm
        rw [List.find?_cons, i1, List.lookup_cons, beq_false_of_ne z]
        exact ih h2
theorem KInt.ok {P : Program} {w : World} {K : PySem.W.Frag} {d : Addr} {kvs : List (Int × Addr)} (T : KInt K d kvs) : (d == sysModules) = false ∧ ∀ h : Heap, K.In h → h.MapOf (intKind P w) d fun k => (kvs.lookup k).map Value.ref := by
  have h := T.tab
  unfold intTab at h
  split at h
  · rename_i c es n sl q
    by_cases z : c = "dict" ∧ sl.isEmpty = true ∧ (d == sysModules) = false
    · rw [if_pos z] at h
      have h := Option.some.inj h
      obtain ⟨z1, z2, z3⟩ := z
      subst z1
      refine ⟨z3, fun hp hk => ⟨_, es, n, hk _ _ q, ⟨rfl, rfl, Array.isEmpty_iff.mp z2⟩, rfl, fun e he => ?_, fun k => ?_⟩⟩
      · have m1 : intRow e ∈ es.toList.map intRow := List.mem_map.mpr ⟨e, Array.mem_toList_iff.mpr he, rfl⟩
        rw [h] at m1
        obtain ⟨⟨k, a⟩, _, e1⟩ := List.mem_map.mp m1
        obtain ⟨⟨t, e2⟩, _, e3⟩ := intRow_some e1.symm
        exact ⟨k, by rw [e2]; exact intKind_is P w k t, e3⟩
      · have f := intRows_find h k
        show findBy Value.isInt es k = _
        unfold findBy
        rw [← Array.find?_toList]
        exact f
    · rw [if_neg z] at h
      cases h
  · cases h
section
variable {X : Cx}
def rInK (K : PySem.W.Frag) : R2 := fun x y H Q => ∃ (z : Int) (d : Addr) (kvs : List (Int × Addr)), x = .int z ∧ y = .ref d ∧ KInt K d kvs ∧ Q (.bl (kvs.lookup z).isSome) H
theorem op_in_kint : OpR X (compareOp .In) (rInK X.K) := by
  intro pins s σ H x y v u Q I rx ry h
  obtain ⟨z, d, kvs, rfl, rfl, T, q⟩ := h
  obtain ⟨t, rfl⟩ := rx
  cases ry
  obtain ⟨low, mp⟩ := T.ok (P := X.prog) (w := X.w)
  refine wpAny_in_of (intKind_is X.prog X.w z t) low (mp _ I.kIn) ?_
  refine ⟨.bl (kvs.lookup z).isSome, H, I.tok _, ?_, q⟩
  show RelV _ (.bool ((kvs.lookup z).map Value.ref).isSome)
  rw [Option.isSome_map]
  rfl
def rIxK (K : PySem.W.Frag) : R2 := fun x y H Q => ∃ (z : Int) (d a : Addr) (kvs : List (Int × Addr)), x = .ref d ∧ y = .int z ∧ KInt K d kvs ∧ kvs.lookup z = some a ∧ Q (.ref a) H
theorem ix_kint : IxR X (rIxK X.K) := by
  intro value slice pins s σ H x y v u Q I rx ry h hs
  obtain ⟨z, d, a, kvs, rfl, rfl, T, hz, q⟩ := h
  cases rx
  obtain ⟨t, rfl⟩ := ry
  obtain ⟨low, mp⟩ := T.ok (P := X.prog) (w := X.w)
  have hm := mp _ I.kIn
  refine tail_any hm.typeIs slot_dict_getitem.lookup (wpAny_getItem_of (intKind_is X.prog X.w z t) hm (v := .ref a) (by rw [hz]; rfl) ?_) hs
  exact ⟨.ref a, H, I.tok _, rfl, q⟩
end
/-- of several defs that the slot may hold, errors among their ends: the promise goes with the address -/
structure HeldX (P : Program) (w : World) (K : PySem.W.Frag) (mg : Str → Option Value) (base : Heap) (k : Nat) (f : Addr) (sp : Sp) : Prop where
  ex : ∃ (fd : FuncData) (ps : List Str), FnOk P w K mg base (L2.CX P w) k f fd ps sp ∧ PySem.W.keepIn K (.ref f) = true ∧ Binds K fd ps []
theorem FnOk.toX {P : Program} {w : World} {K : PySem.W.Frag} {mg : Str → Option Value} {base : Heap} {k : Nat} {f : Addr} {fd : FuncData} {ps : List Str} {sp : Sp} (F : FnOk P w K mg base CX0 k f fd ps sp) : FnOk P w K mg base (L2.CX P w) k f fd ps sp :=
  ⟨F.len, fun A outer s H args us vs Q E hr e0 hb hv hs => codeAny_mono (F.run A outer s H args us vs Q E hr e0 hb hv hs) fun r s' hq => match r, hq with
    | .ok (.ret _), q => q
    | .ok .next, q => q
    | .ok .brk, q => q
    | .ok .cont, q => q
    | .error _, q => q.elim⟩
def tCallX (i : Nat) (Op : Addr → Sp → Prop) (E : XK) (t : TA) : TE := fun σ H Q => ∃ f sp, σ[i]? = some (some (.ref f)) ∧ Op f sp ∧ t σ H fun vs H1 => sp vs H1 Q E
section
variable {X : Cx} {k i : Nat} {Op : Addr → Sp → Prop} {E : XK} {x : Str} {p pos : Pos} {e : Expr} {es : List Expr} {t : TA}
theorem pe_callX (A : ∀ f sp, Op f sp → HeldX X.prog X.w X.K X.mg X.base k f sp) (hr : Room k X.A) (hN : X.N[i]? = some x) (hv : Vis X.env.scope x) (hx : Passes (L2.CX X.prog X.w) X E) (ha : PA X (e :: es) t)
    (hdb : (x == ("__debug__" : Str)) = false := by decide) (hcd : (x == ("__classdict__" : Str)) = false := by decide)
    (he : starEach (e :: es) X.env = (false, eval e X.env) :: starEach es X.env := by rfl) (hpl : (backTo pos (starEach es X.env)).any (·.1) = false := by rfl) : PE X (.Call (.Name x p) (e :: es) [] pos) (tCallX i Op E t) := by
  refine ⟨fun pins s σ H Q I h => ?_⟩
  obtain ⟨f, sp, hs, hS, ht⟩ := h
  obtain ⟨fd, ps, F, hk, hb⟩ := (A f sp hS).ex
  refine (pe_callL (i := i) (f := f) (sp := sp) (dvs := []) (E := E) F hr hN hv hk hb .nil hx ha hdb hcd he hpl).run pins s σ H Q I ⟨hs, ?_⟩
  have e0 : (fun (vs : List V) (H1 : Hp) => sp (vs ++ []) H1 Q E) = fun vs H1 => sp vs H1 Q E := by
    funext vs H1
    rw [List.append_nil]
  rw [e0]
  exact ht
end
/-- a field of the caught error, whatever its class -/
def tXfA (K : PySem.W.Frag) (a : Addr) (cls : Value) (d : Option Addr) (f : Str) (te : TE) : TE := fun σ H Q => ∃ C, cls = .ref C ∧ XfC K C ∧ PySem.W.findIn K (.ref C) f = some none ∧ tXf a cls d C f te σ H Q
theorem pe_xfA {X : Cx} {a : Addr} {oe : Obj} {cls : Value} {d : Option Addr} {pn : List (Addr × Obj)} {e : Expr} {te : TE} {pos : Pos} {n : Str}
    (hz : Zc cls d oe) (hf : ∃ vs, oe.data = .fields vs) (he : PE (X.suite a ((a, oe) :: pn)) e te) (hb : attributeBase e n X.env (eval e X.env) = eval e X.env := by rfl) :
    PE (X.suite a ((a, oe) :: pn)) (.Attribute e n pos) (tXfA X.K a cls d n te) := by
  refine ⟨fun pins s σ H Q I h => ?_⟩
  obtain ⟨C, rfl, T, hno, h⟩ := h
  exact (pe_xf T hno hz hf he hb).run pins s σ H Q I h
theorem takesN {X : Cx} : Takes X (fun _ _ _ _ => False) := fun _ _ x => by
  obtain ⟨_, _, _, _, _, _, _, _, _, _, _, _, _, _, _, _, z⟩ := x
  exact z.elim
/-- a written tuple of pairs of whole numbers -/
def pairRow (K : PySem.W.Frag) (u : Value) : Option (Int × Int) := match u with
  | .ref a => (match K.lookup a with
    | some ⟨.type c, _, .seq its _, _⟩ => (match its.toList with
      | [.int x _, .int y _] => if c = "tuple" then some (x, y) else none
      | _ => none)
    | _ => none)
  | _ => none
def tupTab (K : PySem.W.Frag) (v : Addr) : Option (List (Option (Int × Int))) := match K.lookup v with
  | some ⟨.type c, _, .seq its _, _⟩ => if c = "tuple" ∧ its.size ≤ 1000 then some (its.toList.map (pairRow K)) else none
  | _ => none
structure Pairs (K : PySem.W.Frag) (v : Addr) (rows : List (Int × Int)) : Prop where
  tab : tupTab K v = some (rows.map some)
theorem pairRow_some {K : PySem.W.Frag} {u : Value} {x y : Int} (h : pairRow K u = some (x, y)) : ∃ a, u = .ref a ∧ ∀ H, SqT K H a [.int x, .int y] := by
  unfold pairRow at h
  split at h
  · rename_i a
    split at h
    · rename_i c dd its n sl q
      split at h
      · rename_i x' t y' t' e
        by_cases z : c = "tuple"
        · rw [if_pos z] at h
          obtain ⟨h1, h2⟩ := Prod.mk.inj (Option.some.inj h)
          subst h1 h2 z
          have sz : its.size = 2 := by
            rw [← Array.length_toList, e]
            rfl
          refine ⟨a, rfl, fun H => .inr ⟨_, its, n, q, rfl, rfl, by rw [sz, sizeLine_eq]; omega, ?_⟩⟩
          rw [e]
          exact .cons ⟨t, rfl⟩ (.cons ⟨t', rfl⟩ .nil)
        · rw [if_neg z] at h
          cases h
      · cases h
    · cases h
  · cases h
theorem Pairs.ok {K : PySem.W.Frag} {v : Addr} {rows : List (Int × Int)} (T : Pairs K v rows) : ∃ as : List Addr, as.length = rows.length ∧ (∀ H, SqT K H v (as.map V.ref)) ∧ ∀ (i : Nat) (a : Addr) (r : Int × Int), as[i]? = some a → rows[i]? = some r → ∀ H, SqT K H a [.int r.1, .int r.2] := by
  have h := T.tab
  unfold tupTab at h
  split at h
  · rename_i c dd its n sl q
    by_cases z : c = "tuple" ∧ its.size ≤ 1000
    · rw [if_pos z] at h
      have h := Option.some.inj h
      obtain ⟨z1, z2⟩ := z
      subst z1
      have key : ∀ (l : List Value) (rs : List (Int × Int)), l.map (pairRow K) = rs.map some → ∃ as : List Addr, as.length = rs.length ∧ Vals (as.map V.ref) l ∧ ∀ (i : Nat) (a : Addr) (r : Int × Int), as[i]? = some a → rs[i]? = some r → ∀ H, SqT K H a [.int r.1, .int r.2] := by
        intro l
        induction l with
        | nil =>
          intro rs h
          cases rs with
          | nil => exact ⟨[], rfl, .nil, fun i a r ha => by cases ha⟩
          | cons r rs => cases h
        | cons u l ih =>
          intro rs h
          cases rs with
          | nil => cases h
          | cons r rs =>
            rw [List.map_cons, List.map_cons] at h
            injection h with h1 h2
            obtain ⟨x, y⟩ := r
            obtain ⟨a, rfl, ha⟩ := pairRow_some h1
            obtain ⟨as, l1, l2, l3⟩ := ih rs h2
            refine ⟨a :: as, by rw [List.length_cons, List.length_cons, l1], .cons rfl l2, fun i b r hb hr => ?_⟩
            cases i with
            | zero =>
              cases hb
              cases hr
              exact ha
            | succ i => exact l3 i b r hb hr
      obtain ⟨as, l1, l2, l3⟩ := key _ _ h
      exact ⟨as, l1, fun H => .inr ⟨_, its, n, q, rfl, rfl, by rw [sizeLine_eq]; omega, l2⟩, l3⟩
    · rw [if_neg z] at h
      cases h
  · cases h
end L2
end
/-! LwEnum -/
section
set_option Elab.async false
set_option linter.all false
set_option maxRecDepth 100000
set_option maxHeartbeats 4000000
/-! enumerate(xs, start=k) -/
namespace L2
open PySem PySem.Spec PyProof.Rows
/-- the list at a, each item in a new pair, its number counted from k -/
def ItFrom (K : PySem.W.Frag) (k : Int) (a : Addr) : It where
  go := fun i H => ∃ (ys : List V) (y : V), SqL K H a ys ∧ ys[i]? = some y
  yld := fun i H v H2 => ∃ t y, v = .ref t ∧ H t = none ∧ H2 = upd H t (.tup [.int (k + (i : Int)), y]) ∧ ∀ ys, SqL K H a ys → ys[i]? = some y
  stop := fun i H => ∃ ys : List V, SqL K H a ys ∧ ys.length = i
/-- the two own objects, i items gone through -/
structure TnFrom (k : Int) (a e j : Addr) (i : Nat) (h : Heap) : Prop where
  en : ∃ old, IsEnum h e j (k + (i : Int)) old
  li : h.IsListIter j a i
  ne : e ≠ j
theorem turn_from {P : Program} {w : World} {K : PySem.W.Frag} {k : Int} {elts : List Expr} {m : Nat} {q : Pos} (a e j : Addr) : Turn P w K (.Tuple elts m q) (ItFrom K k a) [e, j] e (TnFrom k a e j) := by
  have two : ∀ b ∈ [e, j], b = e ∨ b = j := fun b hb => by simpa using hb
  constructor
  · simp
  · intro i h t b hb
    obtain ⟨old, he⟩ := t.en
    obtain ⟨o, ho, _, hd⟩ := t.li
    rcases two b hb with rfl | rfl
    · exact ⟨_, he, fun v z => nomatch z⟩
    · exact ⟨o, ho, fun v z => by rw [hd] at z; cases z⟩
  · intro i h h2 t kp
    obtain ⟨old, he⟩ := t.en
    exact ⟨⟨old, kp e (by simp) _ he⟩, t.li.at fun o z => kp j (by simp) o z, t.ne⟩
  · intro X hP hw hK hc i pins s σ H E I hf t hg
    subst hP hw hK
    obtain ⟨old, he⟩ := t.en
    have hit := t.li
    have hne := t.ne
    obtain ⟨ys, y, hq, hy⟩ := hg
    obtain ⟨its, rv, p, hz⟩ := I.list hq
    obtain ⟨u, hu, ru⟩ := rv.get hy
    have le : e < s.heap.objs.size := Heap.lt_size he
    have lj : j < s.heap.objs.size := by
      obtain ⟨_, z, _⟩ := hit
      exact Heap.lt_size z
    obtain ⟨oa, la, _⟩ := p.isList
    have naj : a ≠ j := fun z => by
      obtain ⟨o, ho, hcl, _⟩ := hit
      obtain ⟨o2, ho2, hcl2, _⟩ := p.isList
      rw [z, ho] at ho2
      cases ho2
      rw [hcl] at hcl2
      injection hcl2 with z2
      exact absurd z2 (by decide)
    have nea : e ≠ a := fun z => by
      obtain ⟨o2, ho2, hcl2, _⟩ := p.isList
      rw [← z, he] at ho2
      cases ho2
      injection hcl2 with z2
      exact absurd z2 (by decide)
    have nf : e ∉ [j, a] := by simp [hne, nea]
    refine wpAny_pyNext_enum_itemC (i := i) (Draws.list (A := X.A.in1) (show X.A.in1.handled = none from I.ok.hd hc) j a naj its.toArray) he ⟨hit, p.isList⟩ (by rw [List.size_toArray]; exact (List.getElem?_eq_some_iff.mp hu).1) hne nf fun x h2 tk hP ho hs hT hsz kp => ?_
    have ex : u = x := by
      have hP : its.toArray[i]? = some x := hP
      rw [List.getElem?_toArray, hu] at hP
      exact Option.some.inj hP
    subst ex
    refine ⟨_, rfl, wpAny_letOwnedTupleGo_enum (s := { s with heap := h2, toks := tk + 1 }) ho fun h3 he3 sb => ?_⟩
    have hT3 := (sb.2 _ (Nat.ne_of_gt le)).trans hT
    have new : ObjOk X.prog X.w (upd H s.heap.objs.size (.tup [.int (k + (i : Int)), y])) h3 s.heap.objs.size (.tup [.int (k + (i : Int)), y]) := by
      refine ⟨by show 2 ≤ sizeLine; decide, [.int (k + (i : Int)) tk, u], ?_, ⟨_, hT3, rfl, _, rfl⟩⟩
      exact .cons ⟨_, rfl⟩ (.cons ru .nil)
    have I1 : Inv X pins σ (upd H s.heap.objs.size (.tup [.int (k + (i : Int)), y])) { s with heap := h3, toks := tk + 1 } := by
      refine I.turnedNew (ch := [e, j]) (fun b ob hb z => ?_) hf (Nat.le_refl _) new
      have b1 : b ≠ e := fun z => hb (by simp [z])
      have b2 : b ≠ j := fun z => hb (by simp [z])
      exact (sb.2 b b1).trans (kp b ob b1 b2 z)
    refine ⟨.ref s.heap.objs.size, _, I1, rfl, ⟨_, y, rfl, I.hok.fresh (Nat.le_refl _), rfl, fun zs hzs => by rw [I.list_inj hzs hq]; exact hy⟩, ⟨⟨u, ?_⟩, hs.1.at fun o z => (sb.2 j (Ne.symm hne)).trans z, hne⟩, fun b hb => ?_⟩
    · have e1 : k + ((i + 1 : Nat) : Int) = k + (i : Int) + 1 := by omega
      rw [e1]
      exact he3
    · have lb : b < s.heap.objs.size := by
        rcases two b hb with rfl | rfl
        · exact le
        · exact lj
      rw [upd_ne (Nat.ne_of_lt lb)]
      exact (hf b hb).1
  · intro X hP hw hK hc i pins s σ H E I hf t hg
    subst hP hw hK
    obtain ⟨old, he⟩ := t.en
    have hit := t.li
    obtain ⟨ys, hq, hy⟩ := hg
    obtain ⟨its, rv, p, hz⟩ := I.list hq
    obtain ⟨f0, f1, f2, f3, f4, f5⟩ := hf j (by simp)
    have naj : a ≠ j := fun z => by
      obtain ⟨o, ho, hcl, _⟩ := hit
      obtain ⟨o2, ho2, hcl2, _⟩ := p.isList
      rw [z, ho] at ho2
      cases ho2
      rw [hcl] at hcl2
      injection hcl2 with z2
      exact absurd z2 (by decide)
    have sz : its.toArray.size = i := by
      rw [List.size_toArray, ← rv.length]
      exact hy
    refine wpAny_pyNext_enum_endD (Draws.list (A := X.A.in1) (show X.A.in1.handled = none from I.ok.hd hc) j a naj its.toArray) he ⟨by rw [sz]; exact hit, p.isList⟩ fun h2 eb => ⟨rfl, ?_⟩
    exact I.turned (t' := s.toks) (fun b o hb z => eb b o hb z) f0 f1 f3 f4 f5
  · intro A i s Q E t h
    obtain ⟨_, he⟩ := t.en
    exact wpAny_pyIter_enum he h
def iFrom (K : PySem.W.Frag) (k : Int) (ta : TA) : TI := fun σ H R => ta σ H fun vs H1 => ∃ a ys, vs = [.ref a] ∧ SqL K H1 a ys ∧ R (ItFrom K k a) H1
/-- a built-in class called with one value and keywords: what is called, and with what -/
theorem callKw_ty {M : Model} {A : Around} {E : Value → Shared → Prop} {s : Shared} {pos : Pos} {N : String} {as : List (Bool × Sem Value)} {ks : List (Option Str × Sem Value)} {Q : Value → Shared → Prop} (h1 : as.any (·.1) = false) (h2 : ks.any (·.1.isNone) = false)
    (h : wpAny M A (evalArgs (.type N) true as ks) (fun b t => wpAny M A (call (.type N) b.pos b.kw) Q E t) E s) : wpAny M A (callWith pos (.type N) [] as ks) Q E s := by
  unfold callWith
  have e : (as.any (·.1) || ks.any (·.1.isNone)) = false := by rw [h1, h2]; rfl
  refine wpAny_bind (wpAny_holding (wpAny_mono h (fun b t hb => wpAny_bind (wpAny_standAt ?_)) fun _ _ z => z))
  simp only [h1, h2, Bool.or_false]
  refine wpAny_bind (wpAny_pure ?_)
  refine wpAny_bind (wpAny_mono (?_ : wpAny M A (call (.type N) ([] ++ b.pos) b.kw) Q E t) (fun r t2 hr => wpAny_bind (wpAny_holding (wpAny_point (wpAny_pure hr)))) fun _ _ z => z)
  exact hb
theorem pi_from {X : Cx} {e ke : Expr} {k : Int} {ta : TA} {p pos kp tpos : Pos} {elts : List Expr} {m : Nat} (hg : Gl X "enumerate") (hm : X.mg "enumerate" = none) (ha : PA X [e] ta) (hk : PE X ke (tC (.int k))) (k0 : -(2 ^ 63) ≤ k) (k9 : k < 2 ^ 63)
    (hs : backTo pos (starEach [e] X.env) = (false, eval e X.env) :: backTo pos (starEach [] X.env) := by rfl) (hpl : (backTo pos (starEach [e] X.env)).any (·.1) = false := by rfl) :
    PI X (.Tuple elts m tpos) (.Call (.Name "enumerate" p) [e] [⟨some (Str.ofString "start"), ke, kp⟩] pos) (iFrom X.K k ta) := by
  refine ⟨fun pins s σ H R I h => ?_⟩
  refine PySem.wpAny_Call_Name_kw (ld_blt I hg hm boot_enumerate (callKw_ty hpl (by rfl) ?_))
  rw [hs]
  refine PyProof.Rows.evalArgs_kwB (by rfl) ?_
  rw [← hs]
  refine thn (ha.run pos pins s σ H _ I h) fun us s1 ⟨vs, H1, I1, r1, q1⟩ => PyProof.Rows.kws_cons ?_
  obtain ⟨a, ys, ev, hq, q⟩ := q1
  subst ev
  refine thn (hk.run pins s1 σ H1 (fun v H2 => v = .int k ∧ H2 = H1) I1 ⟨rfl, rfl⟩) fun kv s2 ⟨v, H2, I2, rv, e1, e2⟩ => PyProof.Rows.kws_nil ?_
  subst e1 e2
  obtain ⟨t, rfl⟩ := rv
  cases r1 with
  | cons r rr =>
    cases rr
    cases r
    obtain ⟨its, rv, p', hz⟩ := I2.list hq
    refine enum_begins_start (begins_list a its.toArray) p'.isList k0 k9 fun h2 he hit hsz kp => wpAny_pyIter_enum he ?_
    have I3 : Inv X pins σ H2 { s2 with heap := h2 } := I2.kept (t' := s2.toks) kp
    have e0 : k + ((0 : Nat) : Int) = k := by omega
    refine ⟨s2.heap.objs.size + 1, [s2.heap.objs.size + 1, s2.heap.objs.size], TnFrom k a _ _, _, H2, rfl, I3, turn_from a _ _, ⟨⟨.none, by rw [e0]; exact he⟩, ⟨_, hit, rfl, rfl⟩, Nat.succ_ne_self _⟩, fun b hb => ?_, q⟩
    have le : s2.heap.objs.size ≤ b := by
      have z : b = s2.heap.objs.size + 1 ∨ b = s2.heap.objs.size := by simpa using hb
      rcases z with z | z
      · rw [z]
        exact Nat.le_succ _
      · rw [z]
        exact Nat.le_refl _
    exact I2.fpOk le (I2.hok.fresh le)
theorem walk_from {K : PySem.W.Frag} {a : Addr} {k : Int} {ys : List V} : Walk (ItFrom K k a) ys.length (fun H => SqL K H a ys) (YPair (fun i => some (.int (k + (i : Int)))) (fun i => ys[i]?)) := by
  constructor
  · intro i H hi q
    exact ⟨ys, ys[i], q, by simp [hi]⟩
  · intro H q
    exact ⟨ys, q, rfl⟩
  · intro i H v H2 _ q y
    obtain ⟨t, x, h1, h2, h3, h4⟩ := y
    exact ⟨t, _, x, h1, h2, h3, rfl, h4 ys q⟩
end L2
end
/-! LwText -/
section
set_option Elab.async false
set_option linter.all false
set_option maxRecDepth 100000
set_option maxHeartbeats 4000000
/-! the text by places, and what the top has written of it -/
namespace Lw
open PySem PySem.Spec PyProof.Rows L2
def top (i : Nat) : Stmt := PySem.Challenge.pw_logworth_s01_answers.main.body.getD i (.Pass ⟨0, 0, 0, 0⟩)
abbrev s_common_divisor : Stmt := top 1
abbrev s_Ratio_init : Stmt := inClass (top 2) 0
abbrev s_Ratio_plus : Stmt := inClass (top 2) 1
abbrev s_Ratio_minus : Stmt := inClass (top 2) 2
abbrev s_Ratio_times : Stmt := inClass (top 2) 3
abbrev s_Ratio_over : Stmt := inClass (top 2) 4
abbrev s_Ratio_below : Stmt := inClass (top 2) 5
abbrev s_Ratio_smaller : Stmt := inClass (top 2) 6
abbrev s_Ratio_squared : Stmt := inClass (top 2) 7
abbrev s_Ratio_pair : Stmt := inClass (top 2) 8
abbrev s_whole : Stmt := top 3
abbrev s_total : Stmt := top 4
abbrev s_mean : Stmt := top 5
abbrev s_greatest : Stmt := top 6
abbrev s_common_bottom : Stmt := top 7
abbrev s_tops_over : Stmt := top 8
abbrev s_importance : Stmt := top 13
abbrev s_importances : Stmt := top 14
abbrev s_direct_value : Stmt := top 15
abbrev s_correction : Stmt := top 16
abbrev s_term_of : Stmt := top 17
abbrev s_terms_of : Stmt := top 18
abbrev s_variance_of_mean : Stmt := top 19
abbrev s_mean_reward : Stmt := top 20
abbrev s_fitted_estimate : Stmt := top 21
abbrev s_Refusal_init : Stmt := inClass (top 23) 0
abbrev s_NoStudy_init : Stmt := inClass (top 24) 0
abbrev s_Missing_init : Stmt := inClass (top 25) 0
abbrev s_OutOfLimits_init : Stmt := inClass (top 26) 0
abbrev s_LogFull_init : Stmt := inClass (top 27) 0
abbrev s_NotEnough_init : Stmt := inClass (top 28) 0
abbrev s_Event_init : Stmt := inClass (top 31) 0
abbrev s_Policy_init : Stmt := inClass (top 32) 0
abbrev s_Policy_chance : Stmt := inClass (top 32) 1
abbrev s_Policy_can_choose : Stmt := inClass (top 32) 2
abbrev s_Policy_preferred : Stmt := inClass (top 32) 3
abbrev s_Study_init : Stmt := inClass (top 33) 0
abbrev s_grid : Stmt := top 34
abbrev s_check_place : Stmt := top 49
abbrev s_check_policy : Stmt := top 50
abbrev s_check_context : Stmt := top 51
abbrev s_check_decision : Stmt := top 52
abbrev s_check_range : Stmt := top 53
abbrev s_check_numbers : Stmt := top 54
abbrev s_check_row : Stmt := top 55
abbrev s_check_weights : Stmt := top 56
abbrev s_check_rewards : Stmt := top 57
abbrev s_check_relevance : Stmt := top 58
abbrev s_check_gains : Stmt := top 59
abbrev s_check_ranks : Stmt := top 60
abbrev s_check_reward : Stmt := top 61
abbrev s_check_estimator : Stmt := top 62
abbrev s_check_room : Stmt := top 63
abbrev s_check_events : Stmt := top 64
abbrev s_check_positive : Stmt := top 65
abbrev s_create : Stmt := top 67
abbrev s_keep_event : Stmt := top 68
abbrev s_add_event : Stmt := top 69
abbrev s_remove_last : Stmt := top 70
abbrev s_log_event : Stmt := top 71
abbrev s_set_policy : Stmt := top 72
abbrev s_copy_policy : Stmt := top 73
abbrev s_set_model : Stmt := top 74
abbrev s_fit_model : Stmt := top 75
abbrev s_set_truth : Stmt := top 76
abbrev s_following_seed : Stmt := top 83
abbrev s_resampled_sums : Stmt := top 84
abbrev s_propensity : Stmt := top 86
abbrev s_checked_terms : Stmt := top 87
abbrev s_estimate : Stmt := top 88
abbrev s_normalized : Stmt := top 89
abbrev s_replay : Stmt := top 90
abbrev s_effective_size : Stmt := top 91
abbrev s_variance : Stmt := top 92
abbrev s_interval : Stmt := top 93
abbrev s_compare : Stmt := top 94
abbrev s_by_context : Stmt := top 95
abbrev s_greatest_weight : Stmt := top 96
abbrev s_model_info : Stmt := top 97
abbrev s_bootstrap : Stmt := top 98
abbrev s_status : Stmt := top 99
abbrev s_precision_at : Stmt := top 102
abbrev s_relevant_ranks : Stmt := top 103
abbrev s_reciprocal_rank : Stmt := top 104
abbrev s_discounted_gain : Stmt := top 105
abbrev s_precision : Stmt := top 106
abbrev s_rank_measures : Stmt := top 107
abbrev s_gain_measures : Stmt := top 108
abbrev s_order_measure : Stmt := top 109
abbrev s_Reader_init : Stmt := inClass (top 112) 0
abbrev s_Reader_ended : Stmt := inClass (top 112) 1
abbrev s_Reader_number : Stmt := inClass (top 112) 2
abbrev s_Reader_row : Stmt := inClass (top 112) 3
abbrev s_Reader_arguments : Stmt := inClass (top 112) 4
abbrev s_possible_events : Stmt := top 114
abbrev s_event_chance : Stmt := top 115
abbrev s_expected : Stmt := top 116
abbrev s_true_value : Stmt := top 117
abbrev s_expectation : Stmt := top 118
abbrev s_unsupported : Stmt := top 119
abbrev s_Session_init : Stmt := inClass (top 124) 0
abbrev s_Session_answer : Stmt := inClass (top 124) 1
abbrev s_operation_of : Stmt := top 125
abbrev s_carry_out : Stmt := top 126
abbrev s_answers : Stmt := top 127
/-- where the classes and the defs stand -/
structure Ad where
  c_Ratio : Addr
  c_Refusal : Addr
  c_NoStudy : Addr
  c_Missing : Addr
  c_OutOfLimits : Addr
  c_LogFull : Addr
  c_NotEnough : Addr
  c_Event : Addr
  c_Policy : Addr
  c_Study : Addr
  c_Reader : Addr
  c_Session : Addr
  f_common_divisor : Addr
  d_common_divisor : FuncData
  f_Ratio_init : Addr
  d_Ratio_init : FuncData
  f_Ratio_plus : Addr
  d_Ratio_plus : FuncData
  f_Ratio_minus : Addr
  d_Ratio_minus : FuncData
  f_Ratio_times : Addr
  d_Ratio_times : FuncData
  f_Ratio_over : Addr
  d_Ratio_over : FuncData
  f_Ratio_below : Addr
  d_Ratio_below : FuncData
  f_Ratio_smaller : Addr
  d_Ratio_smaller : FuncData
  f_Ratio_squared : Addr
  d_Ratio_squared : FuncData
  f_Ratio_pair : Addr
  d_Ratio_pair : FuncData
  f_whole : Addr
  d_whole : FuncData
  f_total : Addr
  d_total : FuncData
  f_mean : Addr
  d_mean : FuncData
  f_greatest : Addr
  d_greatest : FuncData
  f_common_bottom : Addr
  d_common_bottom : FuncData
  f_tops_over : Addr
  d_tops_over : FuncData
  f_importance : Addr
  d_importance : FuncData
  f_importances : Addr
  d_importances : FuncData
  f_direct_value : Addr
  d_direct_value : FuncData
  f_correction : Addr
  d_correction : FuncData
  f_term_of : Addr
  d_term_of : FuncData
  f_terms_of : Addr
  d_terms_of : FuncData
  f_variance_of_mean : Addr
  d_variance_of_mean : FuncData
  f_mean_reward : Addr
  d_mean_reward : FuncData
  f_fitted_estimate : Addr
  d_fitted_estimate : FuncData
  f_Refusal_init : Addr
  d_Refusal_init : FuncData
  f_NoStudy_init : Addr
  d_NoStudy_init : FuncData
  f_Missing_init : Addr
  d_Missing_init : FuncData
  f_OutOfLimits_init : Addr
  d_OutOfLimits_init : FuncData
  f_LogFull_init : Addr
  d_LogFull_init : FuncData
  f_NotEnough_init : Addr
  d_NotEnough_init : FuncData
  f_Event_init : Addr
  d_Event_init : FuncData
  f_Policy_init : Addr
  d_Policy_init : FuncData
  f_Policy_chance : Addr
  d_Policy_chance : FuncData
  f_Policy_can_choose : Addr
  d_Policy_can_choose : FuncData
  f_Policy_preferred : Addr
  d_Policy_preferred : FuncData
  f_Study_init : Addr
  d_Study_init : FuncData
  f_grid : Addr
  d_grid : FuncData
  f_check_place : Addr
  d_check_place : FuncData
  f_check_policy : Addr
  d_check_policy : FuncData
  f_check_context : Addr
  d_check_context : FuncData
  f_check_decision : Addr
  d_check_decision : FuncData
  f_check_range : Addr
  d_check_range : FuncData
  f_check_numbers : Addr
  d_check_numbers : FuncData
  f_check_row : Addr
  d_check_row : FuncData
  f_check_weights : Addr
  d_check_weights : FuncData
  f_check_rewards : Addr
  d_check_rewards : FuncData
  f_check_relevance : Addr
  d_check_relevance : FuncData
  f_check_gains : Addr
  d_check_gains : FuncData
  f_check_ranks : Addr
  d_check_ranks : FuncData
  f_check_reward : Addr
  d_check_reward : FuncData
  f_check_estimator : Addr
  d_check_estimator : FuncData
  f_check_room : Addr
  d_check_room : FuncData
  f_check_events : Addr
  d_check_events : FuncData
  f_check_positive : Addr
  d_check_positive : FuncData
  f_create : Addr
  d_create : FuncData
  f_keep_event : Addr
  d_keep_event : FuncData
  f_add_event : Addr
  d_add_event : FuncData
  f_remove_last : Addr
  d_remove_last : FuncData
  f_log_event : Addr
  d_log_event : FuncData
  f_set_policy : Addr
  d_set_policy : FuncData
  f_copy_policy : Addr
  d_copy_policy : FuncData
  f_set_model : Addr
  d_set_model : FuncData
  f_fit_model : Addr
  d_fit_model : FuncData
  f_set_truth : Addr
  d_set_truth : FuncData
  f_following_seed : Addr
  d_following_seed : FuncData
  f_resampled_sums : Addr
  d_resampled_sums : FuncData
  f_propensity : Addr
  d_propensity : FuncData
  f_checked_terms : Addr
  d_checked_terms : FuncData
  f_estimate : Addr
  d_estimate : FuncData
  f_normalized : Addr
  d_normalized : FuncData
  f_replay : Addr
  d_replay : FuncData
  f_effective_size : Addr
  d_effective_size : FuncData
  f_variance : Addr
  d_variance : FuncData
  f_interval : Addr
  d_interval : FuncData
  f_compare : Addr
  d_compare : FuncData
  f_by_context : Addr
  d_by_context : FuncData
  f_greatest_weight : Addr
  d_greatest_weight : FuncData
  f_model_info : Addr
  d_model_info : FuncData
  f_bootstrap : Addr
  d_bootstrap : FuncData
  f_status : Addr
  d_status : FuncData
  f_precision_at : Addr
  d_precision_at : FuncData
  f_relevant_ranks : Addr
  d_relevant_ranks : FuncData
  f_reciprocal_rank : Addr
  d_reciprocal_rank : FuncData
  f_discounted_gain : Addr
  d_discounted_gain : FuncData
  f_precision : Addr
  d_precision : FuncData
  f_rank_measures : Addr
  d_rank_measures : FuncData
  f_gain_measures : Addr
  d_gain_measures : FuncData
  f_order_measure : Addr
  d_order_measure : FuncData
  f_Reader_init : Addr
  d_Reader_init : FuncData
  f_Reader_ended : Addr
  d_Reader_ended : FuncData
  f_Reader_number : Addr
  d_Reader_number : FuncData
  f_Reader_row : Addr
  d_Reader_row : FuncData
  f_Reader_arguments : Addr
  d_Reader_arguments : FuncData
  f_possible_events : Addr
  d_possible_events : FuncData
  f_event_chance : Addr
  d_event_chance : FuncData
  f_expected : Addr
  d_expected : FuncData
  f_true_value : Addr
  d_true_value : FuncData
  f_expectation : Addr
  d_expectation : FuncData
  f_unsupported : Addr
  d_unsupported : FuncData
  f_Session_init : Addr
  d_Session_init : FuncData
  f_Session_answer : Addr
  d_Session_answer : FuncData
  f_operation_of : Addr
  d_operation_of : FuncData
  f_carry_out : Addr
  d_carry_out : FuncData
  f_answers : Addr
  d_answers : FuncData
  v_CHANGES : Addr
  v_QUESTIONS : Addr
  v_RANKED : Addr
  v_TRUTHS : Addr
  v_SHAPES : Addr
structure Txt (K : PySem.W.Frag) (mg : Str → Option Value) (A : Ad) : Prop where
  g_Ratio : mg "Ratio" = some (.ref A.c_Ratio)
  g_Refusal : mg "Refusal" = some (.ref A.c_Refusal)
  g_NoStudy : mg "NoStudy" = some (.ref A.c_NoStudy)
  g_Missing : mg "Missing" = some (.ref A.c_Missing)
  g_OutOfLimits : mg "OutOfLimits" = some (.ref A.c_OutOfLimits)
  g_LogFull : mg "LogFull" = some (.ref A.c_LogFull)
  g_NotEnough : mg "NotEnough" = some (.ref A.c_NotEnough)
  g_Event : mg "Event" = some (.ref A.c_Event)
  g_Policy : mg "Policy" = some (.ref A.c_Policy)
  g_Study : mg "Study" = some (.ref A.c_Study)
  g_Reader : mg "Reader" = some (.ref A.c_Reader)
  g_Session : mg "Session" = some (.ref A.c_Session)
  cl_Ratio : Cls K A.c_Ratio
  mk_Ratio : Mk K A.c_Ratio A.f_Ratio_init
  no_Ratio_top : NoAttr K A.c_Ratio "top"
  no_Ratio_bottom : NoAttr K A.c_Ratio "bottom"
  me_Ratio_plus : Meth K A.c_Ratio "plus" A.f_Ratio_plus
  me_Ratio_minus : Meth K A.c_Ratio "minus" A.f_Ratio_minus
  me_Ratio_times : Meth K A.c_Ratio "times" A.f_Ratio_times
  me_Ratio_over : Meth K A.c_Ratio "over" A.f_Ratio_over
  me_Ratio_below : Meth K A.c_Ratio "below" A.f_Ratio_below
  me_Ratio_smaller : Meth K A.c_Ratio "smaller" A.f_Ratio_smaller
  me_Ratio_squared : Meth K A.c_Ratio "squared" A.f_Ratio_squared
  me_Ratio_pair : Meth K A.c_Ratio "pair" A.f_Ratio_pair
  cl_Event : Cls K A.c_Event
  mk_Event : Mk K A.c_Event A.f_Event_init
  no_Event_context : NoAttr K A.c_Event "context"
  no_Event_action : NoAttr K A.c_Event "action"
  no_Event_reward : NoAttr K A.c_Event "reward"
  no_Event_propensity : NoAttr K A.c_Event "propensity"
  cl_Policy : Cls K A.c_Policy
  mk_Policy : Mk K A.c_Policy A.f_Policy_init
  no_Policy_weights : NoAttr K A.c_Policy "weights"
  me_Policy_chance : Meth K A.c_Policy "chance" A.f_Policy_chance
  me_Policy_can_choose : Meth K A.c_Policy "can_choose" A.f_Policy_can_choose
  me_Policy_preferred : Meth K A.c_Policy "preferred" A.f_Policy_preferred
  cl_Study : Cls K A.c_Study
  mk_Study : Mk K A.c_Study A.f_Study_init
  no_Study_contexts : NoAttr K A.c_Study "contexts"
  no_Study_actions : NoAttr K A.c_Study "actions"
  no_Study_events : NoAttr K A.c_Study "events"
  no_Study_policies : NoAttr K A.c_Study "policies"
  no_Study_model : NoAttr K A.c_Study "model"
  no_Study_truth_weights : NoAttr K A.c_Study "truth_weights"
  no_Study_truth_rewards : NoAttr K A.c_Study "truth_rewards"
  cl_Reader : Cls K A.c_Reader
  mk_Reader : Mk K A.c_Reader A.f_Reader_init
  no_Reader_calls : NoAttr K A.c_Reader "calls"
  no_Reader_place : NoAttr K A.c_Reader "place"
  me_Reader_ended : Meth K A.c_Reader "ended" A.f_Reader_ended
  me_Reader_number : Meth K A.c_Reader "number" A.f_Reader_number
  me_Reader_row : Meth K A.c_Reader "row" A.f_Reader_row
  me_Reader_arguments : Meth K A.c_Reader "arguments" A.f_Reader_arguments
  cl_Session : Cls K A.c_Session
  mk_Session : Mk K A.c_Session A.f_Session_init
  no_Session_study : NoAttr K A.c_Session "study"
  me_Session_answer : Meth K A.c_Session "answer" A.f_Session_answer
  er_Refusal : ErrC K A.c_Refusal
  xf_Refusal : XfC K A.c_Refusal
  oi_Refusal : PySem.W.findIn K (.ref A.c_Refusal) "__init__" = some (some (.ref A.f_Refusal_init))
  of_Refusal : PySem.W.typeIn K (.ref A.f_Refusal_init) = some (.type "function")
  er_NoStudy : ErrC K A.c_NoStudy
  xf_NoStudy : XfC K A.c_NoStudy
  oi_NoStudy : PySem.W.findIn K (.ref A.c_NoStudy) "__init__" = some (some (.ref A.f_NoStudy_init))
  of_NoStudy : PySem.W.typeIn K (.ref A.f_NoStudy_init) = some (.type "function")
  ex_NoStudy : PySem.W.exmOne K (.ref A.c_NoStudy) (.ref A.c_Refusal) = some true
  nc_NoStudy : PySem.W.findIn K (.ref A.c_NoStudy) "code" = some none
  er_Missing : ErrC K A.c_Missing
  xf_Missing : XfC K A.c_Missing
  oi_Missing : PySem.W.findIn K (.ref A.c_Missing) "__init__" = some (some (.ref A.f_Missing_init))
  of_Missing : PySem.W.typeIn K (.ref A.f_Missing_init) = some (.type "function")
  ex_Missing : PySem.W.exmOne K (.ref A.c_Missing) (.ref A.c_Refusal) = some true
  nc_Missing : PySem.W.findIn K (.ref A.c_Missing) "code" = some none
  er_OutOfLimits : ErrC K A.c_OutOfLimits
  xf_OutOfLimits : XfC K A.c_OutOfLimits
  oi_OutOfLimits : PySem.W.findIn K (.ref A.c_OutOfLimits) "__init__" = some (some (.ref A.f_OutOfLimits_init))
  of_OutOfLimits : PySem.W.typeIn K (.ref A.f_OutOfLimits_init) = some (.type "function")
  ex_OutOfLimits : PySem.W.exmOne K (.ref A.c_OutOfLimits) (.ref A.c_Refusal) = some true
  nc_OutOfLimits : PySem.W.findIn K (.ref A.c_OutOfLimits) "code" = some none
  er_LogFull : ErrC K A.c_LogFull
  xf_LogFull : XfC K A.c_LogFull
  oi_LogFull : PySem.W.findIn K (.ref A.c_LogFull) "__init__" = some (some (.ref A.f_LogFull_init))
  of_LogFull : PySem.W.typeIn K (.ref A.f_LogFull_init) = some (.type "function")
  ex_LogFull : PySem.W.exmOne K (.ref A.c_LogFull) (.ref A.c_Refusal) = some true
  nc_LogFull : PySem.W.findIn K (.ref A.c_LogFull) "code" = some none
  er_NotEnough : ErrC K A.c_NotEnough
  xf_NotEnough : XfC K A.c_NotEnough
  oi_NotEnough : PySem.W.findIn K (.ref A.c_NotEnough) "__init__" = some (some (.ref A.f_NotEnough_init))
  of_NotEnough : PySem.W.typeIn K (.ref A.f_NotEnough_init) = some (.type "function")
  ex_NotEnough : PySem.W.exmOne K (.ref A.c_NotEnough) (.ref A.c_Refusal) = some true
  nc_NotEnough : PySem.W.findIn K (.ref A.c_NotEnough) "code" = some none
  off_Refusal : OffCls K A.c_Refusal "__init__" A.f_Refusal_init
  fn_common_divisor : Fun K "common_divisor" "common_divisor" s_common_divisor A.f_common_divisor A.d_common_divisor
  g_common_divisor : mg "common_divisor" = some (.ref A.f_common_divisor)
  fn_Ratio_init : Fun K "__init__" "Ratio.__init__" s_Ratio_init A.f_Ratio_init A.d_Ratio_init
  fn_Ratio_plus : Fun K "plus" "Ratio.plus" s_Ratio_plus A.f_Ratio_plus A.d_Ratio_plus
  fn_Ratio_minus : Fun K "minus" "Ratio.minus" s_Ratio_minus A.f_Ratio_minus A.d_Ratio_minus
  fn_Ratio_times : Fun K "times" "Ratio.times" s_Ratio_times A.f_Ratio_times A.d_Ratio_times
  fn_Ratio_over : Fun K "over" "Ratio.over" s_Ratio_over A.f_Ratio_over A.d_Ratio_over
  fn_Ratio_below : Fun K "below" "Ratio.below" s_Ratio_below A.f_Ratio_below A.d_Ratio_below
  fn_Ratio_smaller : Fun K "smaller" "Ratio.smaller" s_Ratio_smaller A.f_Ratio_smaller A.d_Ratio_smaller
  fn_Ratio_squared : Fun K "squared" "Ratio.squared" s_Ratio_squared A.f_Ratio_squared A.d_Ratio_squared
  fn_Ratio_pair : Fun K "pair" "Ratio.pair" s_Ratio_pair A.f_Ratio_pair A.d_Ratio_pair
  fn_whole : Fun K "whole" "whole" s_whole A.f_whole A.d_whole
  g_whole : mg "whole" = some (.ref A.f_whole)
  fn_total : Fun K "total" "total" s_total A.f_total A.d_total
  g_total : mg "total" = some (.ref A.f_total)
  fn_mean : Fun K "mean" "mean" s_mean A.f_mean A.d_mean
  g_mean : mg "mean" = some (.ref A.f_mean)
  fn_greatest : Fun K "greatest" "greatest" s_greatest A.f_greatest A.d_greatest
  g_greatest : mg "greatest" = some (.ref A.f_greatest)
  fn_common_bottom : Fun K "common_bottom" "common_bottom" s_common_bottom A.f_common_bottom A.d_common_bottom
  g_common_bottom : mg "common_bottom" = some (.ref A.f_common_bottom)
  fn_tops_over : Fun K "tops_over" "tops_over" s_tops_over A.f_tops_over A.d_tops_over
  g_tops_over : mg "tops_over" = some (.ref A.f_tops_over)
  fn_importance : Fun K "importance" "importance" s_importance A.f_importance A.d_importance
  g_importance : mg "importance" = some (.ref A.f_importance)
  fn_importances : Fun K "importances" "importances" s_importances A.f_importances A.d_importances
  g_importances : mg "importances" = some (.ref A.f_importances)
  fn_direct_value : Fun K "direct_value" "direct_value" s_direct_value A.f_direct_value A.d_direct_value
  g_direct_value : mg "direct_value" = some (.ref A.f_direct_value)
  fn_correction : Fun K "correction" "correction" s_correction A.f_correction A.d_correction
  g_correction : mg "correction" = some (.ref A.f_correction)
  fn_term_of : Fun K "term_of" "term_of" s_term_of A.f_term_of A.d_term_of
  g_term_of : mg "term_of" = some (.ref A.f_term_of)
  fn_terms_of : Fun K "terms_of" "terms_of" s_terms_of A.f_terms_of A.d_terms_of
  g_terms_of : mg "terms_of" = some (.ref A.f_terms_of)
  fn_variance_of_mean : Fun K "variance_of_mean" "variance_of_mean" s_variance_of_mean A.f_variance_of_mean A.d_variance_of_mean
  g_variance_of_mean : mg "variance_of_mean" = some (.ref A.f_variance_of_mean)
  fn_mean_reward : Fun K "mean_reward" "mean_reward" s_mean_reward A.f_mean_reward A.d_mean_reward
  g_mean_reward : mg "mean_reward" = some (.ref A.f_mean_reward)
  fn_fitted_estimate : Fun K "fitted_estimate" "fitted_estimate" s_fitted_estimate A.f_fitted_estimate A.d_fitted_estimate
  g_fitted_estimate : mg "fitted_estimate" = some (.ref A.f_fitted_estimate)
  fn_Refusal_init : Fun K "__init__" "Refusal.__init__" s_Refusal_init A.f_Refusal_init A.d_Refusal_init
  fn_NoStudy_init : Fun K "__init__" "NoStudy.__init__" s_NoStudy_init A.f_NoStudy_init A.d_NoStudy_init
  fn_Missing_init : Fun K "__init__" "Missing.__init__" s_Missing_init A.f_Missing_init A.d_Missing_init
  fn_OutOfLimits_init : Fun K "__init__" "OutOfLimits.__init__" s_OutOfLimits_init A.f_OutOfLimits_init A.d_OutOfLimits_init
  fn_LogFull_init : Fun K "__init__" "LogFull.__init__" s_LogFull_init A.f_LogFull_init A.d_LogFull_init
  fn_NotEnough_init : Fun K "__init__" "NotEnough.__init__" s_NotEnough_init A.f_NotEnough_init A.d_NotEnough_init
  fn_Event_init : Fun K "__init__" "Event.__init__" s_Event_init A.f_Event_init A.d_Event_init
  fn_Policy_init : Fun K "__init__" "Policy.__init__" s_Policy_init A.f_Policy_init A.d_Policy_init
  fn_Policy_chance : Fun K "chance" "Policy.chance" s_Policy_chance A.f_Policy_chance A.d_Policy_chance
  fn_Policy_can_choose : Fun K "can_choose" "Policy.can_choose" s_Policy_can_choose A.f_Policy_can_choose A.d_Policy_can_choose
  fn_Policy_preferred : Fun K "preferred" "Policy.preferred" s_Policy_preferred A.f_Policy_preferred A.d_Policy_preferred
  fn_Study_init : Fun K "__init__" "Study.__init__" s_Study_init A.f_Study_init A.d_Study_init
  fn_grid : Fun K "grid" "grid" s_grid A.f_grid A.d_grid
  g_grid : mg "grid" = some (.ref A.f_grid)
  fn_check_place : Fun K "check_place" "check_place" s_check_place A.f_check_place A.d_check_place
  g_check_place : mg "check_place" = some (.ref A.f_check_place)
  fn_check_policy : Fun K "check_policy" "check_policy" s_check_policy A.f_check_policy A.d_check_policy
  g_check_policy : mg "check_policy" = some (.ref A.f_check_policy)
  fn_check_context : Fun K "check_context" "check_context" s_check_context A.f_check_context A.d_check_context
  g_check_context : mg "check_context" = some (.ref A.f_check_context)
  fn_check_decision : Fun K "check_decision" "check_decision" s_check_decision A.f_check_decision A.d_check_decision
  g_check_decision : mg "check_decision" = some (.ref A.f_check_decision)
  fn_check_range : Fun K "check_range" "check_range" s_check_range A.f_check_range A.d_check_range
  g_check_range : mg "check_range" = some (.ref A.f_check_range)
  fn_check_numbers : Fun K "check_numbers" "check_numbers" s_check_numbers A.f_check_numbers A.d_check_numbers
  g_check_numbers : mg "check_numbers" = some (.ref A.f_check_numbers)
  fn_check_row : Fun K "check_row" "check_row" s_check_row A.f_check_row A.d_check_row
  g_check_row : mg "check_row" = some (.ref A.f_check_row)
  fn_check_weights : Fun K "check_weights" "check_weights" s_check_weights A.f_check_weights A.d_check_weights
  g_check_weights : mg "check_weights" = some (.ref A.f_check_weights)
  fn_check_rewards : Fun K "check_rewards" "check_rewards" s_check_rewards A.f_check_rewards A.d_check_rewards
  g_check_rewards : mg "check_rewards" = some (.ref A.f_check_rewards)
  fn_check_relevance : Fun K "check_relevance" "check_relevance" s_check_relevance A.f_check_relevance A.d_check_relevance
  g_check_relevance : mg "check_relevance" = some (.ref A.f_check_relevance)
  fn_check_gains : Fun K "check_gains" "check_gains" s_check_gains A.f_check_gains A.d_check_gains
  g_check_gains : mg "check_gains" = some (.ref A.f_check_gains)
  fn_check_ranks : Fun K "check_ranks" "check_ranks" s_check_ranks A.f_check_ranks A.d_check_ranks
  g_check_ranks : mg "check_ranks" = some (.ref A.f_check_ranks)
  fn_check_reward : Fun K "check_reward" "check_reward" s_check_reward A.f_check_reward A.d_check_reward
  g_check_reward : mg "check_reward" = some (.ref A.f_check_reward)
  fn_check_estimator : Fun K "check_estimator" "check_estimator" s_check_estimator A.f_check_estimator A.d_check_estimator
  g_check_estimator : mg "check_estimator" = some (.ref A.f_check_estimator)
  fn_check_room : Fun K "check_room" "check_room" s_check_room A.f_check_room A.d_check_room
  g_check_room : mg "check_room" = some (.ref A.f_check_room)
  fn_check_events : Fun K "check_events" "check_events" s_check_events A.f_check_events A.d_check_events
  g_check_events : mg "check_events" = some (.ref A.f_check_events)
  fn_check_positive : Fun K "check_positive" "check_positive" s_check_positive A.f_check_positive A.d_check_positive
  g_check_positive : mg "check_positive" = some (.ref A.f_check_positive)
  fn_create : Fun K "create" "create" s_create A.f_create A.d_create
  g_create : mg "create" = some (.ref A.f_create)
  fn_keep_event : Fun K "keep_event" "keep_event" s_keep_event A.f_keep_event A.d_keep_event
  g_keep_event : mg "keep_event" = some (.ref A.f_keep_event)
  fn_add_event : Fun K "add_event" "add_event" s_add_event A.f_add_event A.d_add_event
  g_add_event : mg "add_event" = some (.ref A.f_add_event)
  fn_remove_last : Fun K "remove_last" "remove_last" s_remove_last A.f_remove_last A.d_remove_last
  g_remove_last : mg "remove_last" = some (.ref A.f_remove_last)
  fn_log_event : Fun K "log_event" "log_event" s_log_event A.f_log_event A.d_log_event
  g_log_event : mg "log_event" = some (.ref A.f_log_event)
  fn_set_policy : Fun K "set_policy" "set_policy" s_set_policy A.f_set_policy A.d_set_policy
  g_set_policy : mg "set_policy" = some (.ref A.f_set_policy)
  fn_copy_policy : Fun K "copy_policy" "copy_policy" s_copy_policy A.f_copy_policy A.d_copy_policy
  g_copy_policy : mg "copy_policy" = some (.ref A.f_copy_policy)
  fn_set_model : Fun K "set_model" "set_model" s_set_model A.f_set_model A.d_set_model
  g_set_model : mg "set_model" = some (.ref A.f_set_model)
  fn_fit_model : Fun K "fit_model" "fit_model" s_fit_model A.f_fit_model A.d_fit_model
  g_fit_model : mg "fit_model" = some (.ref A.f_fit_model)
  fn_set_truth : Fun K "set_truth" "set_truth" s_set_truth A.f_set_truth A.d_set_truth
  g_set_truth : mg "set_truth" = some (.ref A.f_set_truth)
  fn_following_seed : Fun K "following_seed" "following_seed" s_following_seed A.f_following_seed A.d_following_seed
  g_following_seed : mg "following_seed" = some (.ref A.f_following_seed)
  fn_resampled_sums : Fun K "resampled_sums" "resampled_sums" s_resampled_sums A.f_resampled_sums A.d_resampled_sums
  g_resampled_sums : mg "resampled_sums" = some (.ref A.f_resampled_sums)
  fn_propensity : Fun K "propensity" "propensity" s_propensity A.f_propensity A.d_propensity
  g_propensity : mg "propensity" = some (.ref A.f_propensity)
  fn_checked_terms : Fun K "checked_terms" "checked_terms" s_checked_terms A.f_checked_terms A.d_checked_terms
  g_checked_terms : mg "checked_terms" = some (.ref A.f_checked_terms)
  fn_estimate : Fun K "estimate" "estimate" s_estimate A.f_estimate A.d_estimate
  g_estimate : mg "estimate" = some (.ref A.f_estimate)
  fn_normalized : Fun K "normalized" "normalized" s_normalized A.f_normalized A.d_normalized
  g_normalized : mg "normalized" = some (.ref A.f_normalized)
  fn_replay : Fun K "replay" "replay" s_replay A.f_replay A.d_replay
  g_replay : mg "replay" = some (.ref A.f_replay)
  fn_effective_size : Fun K "effective_size" "effective_size" s_effective_size A.f_effective_size A.d_effective_size
  g_effective_size : mg "effective_size" = some (.ref A.f_effective_size)
  fn_variance : Fun K "variance" "variance" s_variance A.f_variance A.d_variance
  g_variance : mg "variance" = some (.ref A.f_variance)
  fn_interval : Fun K "interval" "interval" s_interval A.f_interval A.d_interval
  g_interval : mg "interval" = some (.ref A.f_interval)
  fn_compare : Fun K "compare" "compare" s_compare A.f_compare A.d_compare
  g_compare : mg "compare" = some (.ref A.f_compare)
  fn_by_context : Fun K "by_context" "by_context" s_by_context A.f_by_context A.d_by_context
  g_by_context : mg "by_context" = some (.ref A.f_by_context)
  fn_greatest_weight : Fun K "greatest_weight" "greatest_weight" s_greatest_weight A.f_greatest_weight A.d_greatest_weight
  g_greatest_weight : mg "greatest_weight" = some (.ref A.f_greatest_weight)
  fn_model_info : Fun K "model_info" "model_info" s_model_info A.f_model_info A.d_model_info
  g_model_info : mg "model_info" = some (.ref A.f_model_info)
  fn_bootstrap : Fun K "bootstrap" "bootstrap" s_bootstrap A.f_bootstrap A.d_bootstrap
  g_bootstrap : mg "bootstrap" = some (.ref A.f_bootstrap)
  fn_status : Fun K "status" "status" s_status A.f_status A.d_status
  g_status : mg "status" = some (.ref A.f_status)
  fn_precision_at : Fun K "precision_at" "precision_at" s_precision_at A.f_precision_at A.d_precision_at
  g_precision_at : mg "precision_at" = some (.ref A.f_precision_at)
  fn_relevant_ranks : Fun K "relevant_ranks" "relevant_ranks" s_relevant_ranks A.f_relevant_ranks A.d_relevant_ranks
  g_relevant_ranks : mg "relevant_ranks" = some (.ref A.f_relevant_ranks)
  fn_reciprocal_rank : Fun K "reciprocal_rank" "reciprocal_rank" s_reciprocal_rank A.f_reciprocal_rank A.d_reciprocal_rank
  g_reciprocal_rank : mg "reciprocal_rank" = some (.ref A.f_reciprocal_rank)
  fn_discounted_gain : Fun K "discounted_gain" "discounted_gain" s_discounted_gain A.f_discounted_gain A.d_discounted_gain
  g_discounted_gain : mg "discounted_gain" = some (.ref A.f_discounted_gain)
  fn_precision : Fun K "precision" "precision" s_precision A.f_precision A.d_precision
  g_precision : mg "precision" = some (.ref A.f_precision)
  fn_rank_measures : Fun K "rank_measures" "rank_measures" s_rank_measures A.f_rank_measures A.d_rank_measures
  g_rank_measures : mg "rank_measures" = some (.ref A.f_rank_measures)
  fn_gain_measures : Fun K "gain_measures" "gain_measures" s_gain_measures A.f_gain_measures A.d_gain_measures
  g_gain_measures : mg "gain_measures" = some (.ref A.f_gain_measures)
  fn_order_measure : Fun K "order_measure" "order_measure" s_order_measure A.f_order_measure A.d_order_measure
  g_order_measure : mg "order_measure" = some (.ref A.f_order_measure)
  fn_Reader_init : Fun K "__init__" "Reader.__init__" s_Reader_init A.f_Reader_init A.d_Reader_init
  fn_Reader_ended : Fun K "ended" "Reader.ended" s_Reader_ended A.f_Reader_ended A.d_Reader_ended
  fn_Reader_number : Fun K "number" "Reader.number" s_Reader_number A.f_Reader_number A.d_Reader_number
  fn_Reader_row : Fun K "row" "Reader.row" s_Reader_row A.f_Reader_row A.d_Reader_row
  fn_Reader_arguments : Fun K "arguments" "Reader.arguments" s_Reader_arguments A.f_Reader_arguments A.d_Reader_arguments
  fn_possible_events : Fun K "possible_events" "possible_events" s_possible_events A.f_possible_events A.d_possible_events
  g_possible_events : mg "possible_events" = some (.ref A.f_possible_events)
  fn_event_chance : Fun K "event_chance" "event_chance" s_event_chance A.f_event_chance A.d_event_chance
  g_event_chance : mg "event_chance" = some (.ref A.f_event_chance)
  fn_expected : Fun K "expected" "expected" s_expected A.f_expected A.d_expected
  g_expected : mg "expected" = some (.ref A.f_expected)
  fn_true_value : Fun K "true_value" "true_value" s_true_value A.f_true_value A.d_true_value
  g_true_value : mg "true_value" = some (.ref A.f_true_value)
  fn_expectation : Fun K "expectation" "expectation" s_expectation A.f_expectation A.d_expectation
  g_expectation : mg "expectation" = some (.ref A.f_expectation)
  fn_unsupported : Fun K "unsupported" "unsupported" s_unsupported A.f_unsupported A.d_unsupported
  g_unsupported : mg "unsupported" = some (.ref A.f_unsupported)
  fn_Session_init : Fun K "__init__" "Session.__init__" s_Session_init A.f_Session_init A.d_Session_init
  fn_Session_answer : Fun K "answer" "Session.answer" s_Session_answer A.f_Session_answer A.d_Session_answer
  fn_operation_of : Fun K "operation_of" "operation_of" s_operation_of A.f_operation_of A.d_operation_of
  g_operation_of : mg "operation_of" = some (.ref A.f_operation_of)
  fn_carry_out : Fun K "carry_out" "carry_out" s_carry_out A.f_carry_out A.d_carry_out
  g_carry_out : mg "carry_out" = some (.ref A.f_carry_out)
  fn_answers : Fun K "answers" "answers" s_answers A.f_answers A.d_answers
  g_answers : mg "answers" = some (.ref A.f_answers)
  k_DIRECT : ∃ t, mg "DIRECT" = some (.int 0 t)
  k_CLIPPED : ∃ t, mg "CLIPPED" = some (.int 2 t)
  k_ROBUST : ∃ t, mg "ROBUST" = some (.int 3 t)
  k_POLICIES : ∃ t, mg "POLICIES" = some (.int 3 t)
  k_MOST_CONTEXTS : ∃ t, mg "MOST_CONTEXTS" = some (.int 6 t)
  k_MOST_ACTIONS : ∃ t, mg "MOST_ACTIONS" = some (.int 5 t)
  k_MOST_EVENTS : ∃ t, mg "MOST_EVENTS" = some (.int 40 t)
  k_MOST_REWARD : ∃ t, mg "MOST_REWARD" = some (.int 100 t)
  k_MOST_DEN : ∃ t, mg "MOST_DEN" = some (.int 1000 t)
  k_MOST_WEIGHT : ∃ t, mg "MOST_WEIGHT" = some (.int 1000 t)
  k_MOST_KIND : ∃ t, mg "MOST_KIND" = some (.int 3 t)
  k_MOST_LIMIT : ∃ t, mg "MOST_LIMIT" = some (.int 100000 t)
  k_MOST_FACTOR : ∃ t, mg "MOST_FACTOR" = some (.int 10000 t)
  k_MOST_ROUNDS : ∃ t, mg "MOST_ROUNDS" = some (.int 50 t)
  k_MOST_RANKS : ∃ t, mg "MOST_RANKS" = some (.int 12 t)
  k_MOST_GAIN : ∃ t, mg "MOST_GAIN" = some (.int 100 t)
  k_MOST_RANK_NUMBER : ∃ t, mg "MOST_RANK_NUMBER" = some (.int 1000 t)
  k_CHANGES : mg "CHANGES" = some (.ref A.v_CHANGES)
  k_MULTIPLIER : ∃ t, mg "MULTIPLIER" = some (.int 1103515245 t)
  k_INCREMENT : ∃ t, mg "INCREMENT" = some (.int 12345 t)
  k_MODULUS : ∃ t, mg "MODULUS" = some (.int 2147483648 t)
  k_CUT : ∃ t, mg "CUT" = some (.int 65536 t)
  k_QUESTIONS : mg "QUESTIONS" = some (.ref A.v_QUESTIONS)
  k_RANKED : mg "RANKED" = some (.ref A.v_RANKED)
  k_TRUTHS : mg "TRUTHS" = some (.ref A.v_TRUTHS)
  k_CREATE : ∃ t, mg "CREATE" = some (.int 0 t)
  k_SHAPES : mg "SHAPES" = some (.ref A.v_SHAPES)
  ki_CHANGES : KInt K A.v_CHANGES [(1, A.f_add_event), (2, A.f_remove_last), (3, A.f_log_event), (4, A.f_set_policy), (5, A.f_copy_policy), (6, A.f_set_model), (7, A.f_fit_model), (8, A.f_set_truth)]
  ki_QUESTIONS : KInt K A.v_QUESTIONS [(9, A.f_propensity), (10, A.f_estimate), (11, A.f_normalized), (12, A.f_replay), (13, A.f_effective_size), (14, A.f_variance), (15, A.f_interval), (16, A.f_compare), (17, A.f_by_context), (18, A.f_greatest_weight), (19, A.f_model_info), (23, A.f_bootstrap), (28, A.f_status)]
  ki_RANKED : KInt K A.v_RANKED [(24, A.f_precision), (25, A.f_rank_measures), (26, A.f_gain_measures), (27, A.f_order_measure)]
  ki_TRUTHS : KInt K A.v_TRUTHS [(20, A.f_true_value), (21, A.f_expectation), (22, A.f_unsupported)]
  ts_SHAPES : Pairs K A.v_SHAPES [(2, 0), (5, 0), (0, 0), (4, 0), (2, 1), (2, 0), (1, 1), (0, 0), (2, 1), (3, 0), (3, 0), (1, 0), (1, 0), (1, 0), (3, 0), (4, 0), (4, 0), (3, 0), (1, 0), (1, 0), (1, 0), (4, 0), (2, 0), (5, 0), (1, 1), (0, 1), (0, 1), (0, 1), (0, 0)]
  n_abs : mg "abs" = none
  n_enumerate : mg "enumerate" = none
  n_len : mg "len" = none
  n_list : mg "list" = none
  n_max : mg "max" = none
  n_range : mg "range" = none
  n_sorted : mg "sorted" = none
  n_sum : mg "sum" = none
  n_zip : mg "zip" = none
  n_Exception : mg "Exception" = none
section
variable {K : PySem.W.Frag} {mg : Str → Option Value} {A : Ad}
theorem sc_common_divisor : FnScope ["first", "second", "rest"] ["first", "second"] (defScope s_common_divisor) := ⟨rfl, rfl, rfl, by decide +kernel, rfl, by decide +kernel, by decide +kernel⟩
theorem bi_common_divisor (T : Txt K mg A) : Binds K A.d_common_divisor ["first", "second"] [] := T.fn_common_divisor.binds fun _ _ _ _ _ _ us hl => match us, hl with | [_, _], _ => rfl
theorem sc_Ratio_init : FnScope ["self", "top", "bottom", "shared"] ["self", "top", "bottom"] (defScope s_Ratio_init) := ⟨rfl, rfl, rfl, by decide +kernel, rfl, by decide +kernel, by decide +kernel⟩
theorem bi_Ratio_init (T : Txt K mg A) : Binds K A.d_Ratio_init ["self", "top", "bottom"] [] := T.fn_Ratio_init.binds fun _ _ _ _ _ _ us hl => match us, hl with | [_, _, _], _ => rfl
theorem sc_Ratio_plus : FnScope ["self", "other"] ["self", "other"] (defScope s_Ratio_plus) := ⟨rfl, rfl, rfl, by decide +kernel, rfl, by decide +kernel, by decide +kernel⟩
theorem bi_Ratio_plus (T : Txt K mg A) : Binds K A.d_Ratio_plus ["self", "other"] [] := T.fn_Ratio_plus.binds fun _ _ _ _ _ _ us hl => match us, hl with | [_, _], _ => rfl
theorem sc_Ratio_minus : FnScope ["self", "other"] ["self", "other"] (defScope s_Ratio_minus) := ⟨rfl, rfl, rfl, by decide +kernel, rfl, by decide +kernel, by decide +kernel⟩
theorem bi_Ratio_minus (T : Txt K mg A) : Binds K A.d_Ratio_minus ["self", "other"] [] := T.fn_Ratio_minus.binds fun _ _ _ _ _ _ us hl => match us, hl with | [_, _], _ => rfl
theorem sc_Ratio_times : FnScope ["self", "other"] ["self", "other"] (defScope s_Ratio_times) := ⟨rfl, rfl, rfl, by decide +kernel, rfl, by decide +kernel, by decide +kernel⟩
theorem bi_Ratio_times (T : Txt K mg A) : Binds K A.d_Ratio_times ["self", "other"] [] := T.fn_Ratio_times.binds fun _ _ _ _ _ _ us hl => match us, hl with | [_, _], _ => rfl
theorem sc_Ratio_over : FnScope ["self", "other"] ["self", "other"] (defScope s_Ratio_over) := ⟨rfl, rfl, rfl, by decide +kernel, rfl, by decide +kernel, by decide +kernel⟩
theorem bi_Ratio_over (T : Txt K mg A) : Binds K A.d_Ratio_over ["self", "other"] [] := T.fn_Ratio_over.binds fun _ _ _ _ _ _ us hl => match us, hl with | [_, _], _ => rfl
theorem sc_Ratio_below : FnScope ["self", "other"] ["self", "other"] (defScope s_Ratio_below) := ⟨rfl, rfl, rfl, by decide +kernel, rfl, by decide +kernel, by decide +kernel⟩
theorem bi_Ratio_below (T : Txt K mg A) : Binds K A.d_Ratio_below ["self", "other"] [] := T.fn_Ratio_below.binds fun _ _ _ _ _ _ us hl => match us, hl with | [_, _], _ => rfl
theorem sc_Ratio_smaller : FnScope ["self", "other"] ["self", "other"] (defScope s_Ratio_smaller) := ⟨rfl, rfl, rfl, by decide +kernel, rfl, by decide +kernel, by decide +kernel⟩
theorem bi_Ratio_smaller (T : Txt K mg A) : Binds K A.d_Ratio_smaller ["self", "other"] [] := T.fn_Ratio_smaller.binds fun _ _ _ _ _ _ us hl => match us, hl with | [_, _], _ => rfl
theorem sc_Ratio_squared : FnScope ["self"] ["self"] (defScope s_Ratio_squared) := ⟨rfl, rfl, rfl, by decide +kernel, rfl, by decide +kernel, by decide +kernel⟩
theorem bi_Ratio_squared (T : Txt K mg A) : Binds K A.d_Ratio_squared ["self"] [] := T.fn_Ratio_squared.binds fun _ _ _ _ _ _ us hl => match us, hl with | [_], _ => rfl
theorem sc_Ratio_pair : FnScope ["self"] ["self"] (defScope s_Ratio_pair) := ⟨rfl, rfl, rfl, by decide +kernel, rfl, by decide +kernel, by decide +kernel⟩
theorem bi_Ratio_pair (T : Txt K mg A) : Binds K A.d_Ratio_pair ["self"] [] := T.fn_Ratio_pair.binds fun _ _ _ _ _ _ us hl => match us, hl with | [_], _ => rfl
theorem sc_whole : FnScope ["number"] ["number"] (defScope s_whole) := ⟨rfl, rfl, rfl, by decide +kernel, rfl, by decide +kernel, by decide +kernel⟩
theorem bi_whole (T : Txt K mg A) : Binds K A.d_whole ["number"] [] := T.fn_whole.binds fun _ _ _ _ _ _ us hl => match us, hl with | [_], _ => rfl
theorem sc_total : FnScope ["ratios", "result", "ratio"] ["ratios"] (defScope s_total) := ⟨rfl, rfl, rfl, by decide +kernel, rfl, by decide +kernel, by decide +kernel⟩
theorem bi_total (T : Txt K mg A) : Binds K A.d_total ["ratios"] [] := T.fn_total.binds fun _ _ _ _ _ _ us hl => match us, hl with | [_], _ => rfl
theorem sc_mean : FnScope ["ratios"] ["ratios"] (defScope s_mean) := ⟨rfl, rfl, rfl, by decide +kernel, rfl, by decide +kernel, by decide +kernel⟩
theorem bi_mean (T : Txt K mg A) : Binds K A.d_mean ["ratios"] [] := T.fn_mean.binds fun _ _ _ _ _ _ us hl => match us, hl with | [_], _ => rfl
theorem sc_greatest : FnScope ["ratios", "result", "ratio"] ["ratios"] (defScope s_greatest) := ⟨rfl, rfl, rfl, by decide +kernel, rfl, by decide +kernel, by decide +kernel⟩
theorem bi_greatest (T : Txt K mg A) : Binds K A.d_greatest ["ratios"] [] := T.fn_greatest.binds fun _ _ _ _ _ _ us hl => match us, hl with | [_], _ => rfl
theorem sc_common_bottom : FnScope ["ratios", "result", "ratio"] ["ratios"] (defScope s_common_bottom) := ⟨rfl, rfl, rfl, by decide +kernel, rfl, by decide +kernel, by decide +kernel⟩
theorem bi_common_bottom (T : Txt K mg A) : Binds K A.d_common_bottom ["ratios"] [] := T.fn_common_bottom.binds fun _ _ _ _ _ _ us hl => match us, hl with | [_], _ => rfl
theorem sc_tops_over : FnScope ["ratios", "bottom", "ratio"] ["ratios", "bottom"] (defScope s_tops_over) := ⟨rfl, rfl, rfl, by decide +kernel, rfl, by decide +kernel, by decide +kernel⟩
theorem bi_tops_over (T : Txt K mg A) : Binds K A.d_tops_over ["ratios", "bottom"] [] := T.fn_tops_over.binds fun _ _ _ _ _ _ us hl => match us, hl with | [_, _], _ => rfl
theorem sc_importance : FnScope ["policy", "event"] ["policy", "event"] (defScope s_importance) := ⟨rfl, rfl, rfl, by decide +kernel, rfl, by decide +kernel, by decide +kernel⟩
theorem bi_importance (T : Txt K mg A) : Binds K A.d_importance ["policy", "event"] [] := T.fn_importance.binds fun _ _ _ _ _ _ us hl => match us, hl with | [_, _], _ => rfl
theorem sc_importances : FnScope ["study", "policy", "event"] ["study", "policy"] (defScope s_importances) := ⟨rfl, rfl, rfl, by decide +kernel, rfl, by decide +kernel, by decide +kernel⟩
theorem bi_importances (T : Txt K mg A) : Binds K A.d_importances ["study", "policy"] [] := T.fn_importances.binds fun _ _ _ _ _ _ us hl => match us, hl with | [_, _], _ => rfl
theorem sc_direct_value : FnScope ["study", "policy", "context", "estimates", "parts", "action", "reward"] ["study", "policy", "context"] (defScope s_direct_value) := ⟨rfl, rfl, rfl, by decide +kernel, rfl, by decide +kernel, by decide +kernel⟩
theorem bi_direct_value (T : Txt K mg A) : Binds K A.d_direct_value ["study", "policy", "context"] [] := T.fn_direct_value.binds fun _ _ _ _ _ _ us hl => match us, hl with | [_, _, _], _ => rfl
theorem sc_correction : FnScope ["study", "policy", "event", "estimated"] ["study", "policy", "event"] (defScope s_correction) := ⟨rfl, rfl, rfl, by decide +kernel, rfl, by decide +kernel, by decide +kernel⟩
theorem bi_correction (T : Txt K mg A) : Binds K A.d_correction ["study", "policy", "event"] [] := T.fn_correction.binds fun _ _ _ _ _ _ us hl => match us, hl with | [_, _, _], _ => rfl
theorem sc_term_of : FnScope ["study", "policy", "kind", "limit", "event", "factor"] ["study", "policy", "kind", "limit", "event"] (defScope s_term_of) := ⟨rfl, rfl, rfl, by decide +kernel, rfl, by decide +kernel, by decide +kernel⟩
theorem bi_term_of (T : Txt K mg A) : Binds K A.d_term_of ["study", "policy", "kind", "limit", "event"] [] := T.fn_term_of.binds fun _ _ _ _ _ _ us hl => match us, hl with | [_, _, _, _, _], _ => rfl
theorem sc_terms_of : FnScope ["study", "policy", "kind", "limit", "events", "event"] ["study", "policy", "kind", "limit", "events"] (defScope s_terms_of) := ⟨rfl, rfl, rfl, by decide +kernel, rfl, by decide +kernel, by decide +kernel⟩
theorem bi_terms_of (T : Txt K mg A) : Binds K A.d_terms_of ["study", "policy", "kind", "limit", "events"] [] := T.fn_terms_of.binds fun _ _ _ _ _ _ us hl => match us, hl with | [_, _, _, _, _], _ => rfl
theorem sc_variance_of_mean : FnScope ["terms", "middle", "squares", "term"] ["terms"] (defScope s_variance_of_mean) := ⟨rfl, rfl, rfl, by decide +kernel, rfl, by decide +kernel, by decide +kernel⟩
theorem bi_variance_of_mean (T : Txt K mg A) : Binds K A.d_variance_of_mean ["terms"] [] := T.fn_variance_of_mean.binds fun _ _ _ _ _ _ us hl => match us, hl with | [_], _ => rfl
theorem sc_mean_reward : FnScope ["events", "event"] ["events"] (defScope s_mean_reward) := ⟨rfl, rfl, rfl, by decide +kernel, rfl, by decide +kernel, by decide +kernel⟩
theorem bi_mean_reward (T : Txt K mg A) : Binds K A.d_mean_reward ["events"] [] := T.fn_mean_reward.binds fun _ _ _ _ _ _ us hl => match us, hl with | [_], _ => rfl
theorem sc_fitted_estimate : FnScope ["events", "context", "action", "with_action", "with_both", "event"] ["events", "context", "action"] (defScope s_fitted_estimate) := ⟨rfl, rfl, rfl, by decide +kernel, rfl, by decide +kernel, by decide +kernel⟩
theorem bi_fitted_estimate (T : Txt K mg A) : Binds K A.d_fitted_estimate ["events", "context", "action"] [] := T.fn_fitted_estimate.binds fun _ _ _ _ _ _ us hl => match us, hl with | [_, _, _], _ => rfl
theorem sc_Refusal_init : FnScope ["self", "code"] ["self", "code"] (defScope s_Refusal_init) := ⟨rfl, rfl, rfl, by decide +kernel, rfl, by decide +kernel, by decide +kernel⟩
theorem bi_Refusal_init (T : Txt K mg A) : Binds K A.d_Refusal_init ["self", "code"] [] := T.fn_Refusal_init.binds fun _ _ _ _ _ _ us hl => match us, hl with | [_, _], _ => rfl
theorem sc_NoStudy_init : FnScope ["self"] ["self"] (defScope s_NoStudy_init) := ⟨rfl, rfl, rfl, by decide +kernel, rfl, by decide +kernel, by decide +kernel⟩
theorem bi_NoStudy_init (T : Txt K mg A) : Binds K A.d_NoStudy_init ["self"] [] := T.fn_NoStudy_init.binds fun _ _ _ _ _ _ us hl => match us, hl with | [_], _ => rfl
theorem sc_Missing_init : FnScope ["self"] ["self"] (defScope s_Missing_init) := ⟨rfl, rfl, rfl, by decide +kernel, rfl, by decide +kernel, by decide +kernel⟩
theorem bi_Missing_init (T : Txt K mg A) : Binds K A.d_Missing_init ["self"] [] := T.fn_Missing_init.binds fun _ _ _ _ _ _ us hl => match us, hl with | [_], _ => rfl
theorem sc_OutOfLimits_init : FnScope ["self"] ["self"] (defScope s_OutOfLimits_init) := ⟨rfl, rfl, rfl, by decide +kernel, rfl, by decide +kernel, by decide +kernel⟩
theorem bi_OutOfLimits_init (T : Txt K mg A) : Binds K A.d_OutOfLimits_init ["self"] [] := T.fn_OutOfLimits_init.binds fun _ _ _ _ _ _ us hl => match us, hl with | [_], _ => rfl
theorem sc_LogFull_init : FnScope ["self"] ["self"] (defScope s_LogFull_init) := ⟨rfl, rfl, rfl, by decide +kernel, rfl, by decide +kernel, by decide +kernel⟩
theorem bi_LogFull_init (T : Txt K mg A) : Binds K A.d_LogFull_init ["self"] [] := T.fn_LogFull_init.binds fun _ _ _ _ _ _ us hl => match us, hl with | [_], _ => rfl
theorem sc_NotEnough_init : FnScope ["self"] ["self"] (defScope s_NotEnough_init) := ⟨rfl, rfl, rfl, by decide +kernel, rfl, by decide +kernel, by decide +kernel⟩
theorem bi_NotEnough_init (T : Txt K mg A) : Binds K A.d_NotEnough_init ["self"] [] := T.fn_NotEnough_init.binds fun _ _ _ _ _ _ us hl => match us, hl with | [_], _ => rfl
theorem sc_Event_init : FnScope ["self", "context", "action", "reward", "propensity"] ["self", "context", "action", "reward", "propensity"] (defScope s_Event_init) := ⟨rfl, rfl, rfl, by decide +kernel, rfl, by decide +kernel, by decide +kernel⟩
theorem bi_Event_init (T : Txt K mg A) : Binds K A.d_Event_init ["self", "context", "action", "reward", "propensity"] [] := T.fn_Event_init.binds fun _ _ _ _ _ _ us hl => match us, hl with | [_, _, _, _, _], _ => rfl
theorem sc_Policy_init : FnScope ["self", "weights"] ["self", "weights"] (defScope s_Policy_init) := ⟨rfl, rfl, rfl, by decide +kernel, rfl, by decide +kernel, by decide +kernel⟩
theorem bi_Policy_init (T : Txt K mg A) : Binds K A.d_Policy_init ["self", "weights"] [] := T.fn_Policy_init.binds fun _ _ _ _ _ _ us hl => match us, hl with | [_, _], _ => rfl
theorem sc_Policy_chance : FnScope ["self", "context", "action", "row"] ["self", "context", "action"] (defScope s_Policy_chance) := ⟨rfl, rfl, rfl, by decide +kernel, rfl, by decide +kernel, by decide +kernel⟩
theorem bi_Policy_chance (T : Txt K mg A) : Binds K A.d_Policy_chance ["self", "context", "action"] [] := T.fn_Policy_chance.binds fun _ _ _ _ _ _ us hl => match us, hl with | [_, _, _], _ => rfl
theorem sc_Policy_can_choose : FnScope ["self", "context", "action"] ["self", "context", "action"] (defScope s_Policy_can_choose) := ⟨rfl, rfl, rfl, by decide +kernel, rfl, by decide +kernel, by decide +kernel⟩
theorem bi_Policy_can_choose (T : Txt K mg A) : Binds K A.d_Policy_can_choose ["self", "context", "action"] [] := T.fn_Policy_can_choose.binds fun _ _ _ _ _ _ us hl => match us, hl with | [_, _, _], _ => rfl
theorem sc_Policy_preferred : FnScope ["self", "context", "row"] ["self", "context"] (defScope s_Policy_preferred) := ⟨rfl, rfl, rfl, by decide +kernel, rfl, by decide +kernel, by decide +kernel⟩
theorem bi_Policy_preferred (T : Txt K mg A) : Binds K A.d_Policy_preferred ["self", "context"] [] := T.fn_Policy_preferred.binds fun _ _ _ _ _ _ us hl => match us, hl with | [_, _], _ => rfl
theorem sc_Study_init : FnScope ["self", "contexts", "actions", "number"] ["self", "contexts", "actions"] (defScope s_Study_init) := ⟨rfl, rfl, rfl, by decide +kernel, rfl, by decide +kernel, by decide +kernel⟩
theorem bi_Study_init (T : Txt K mg A) : Binds K A.d_Study_init ["self", "contexts", "actions"] [] := T.fn_Study_init.binds fun _ _ _ _ _ _ us hl => match us, hl with | [_, _, _], _ => rfl
theorem sc_grid : FnScope ["contexts", "actions", "value", "context"] ["contexts", "actions", "value"] (defScope s_grid) := ⟨rfl, rfl, rfl, by decide +kernel, rfl, by decide +kernel, by decide +kernel⟩
theorem bi_grid (T : Txt K mg A) : Binds K A.d_grid ["contexts", "actions", "value"] [] := T.fn_grid.binds fun _ _ _ _ _ _ us hl => match us, hl with | [_, _, _], _ => rfl
theorem sc_check_place : FnScope ["number", "count"] ["number", "count"] (defScope s_check_place) := ⟨rfl, rfl, rfl, by decide +kernel, rfl, by decide +kernel, by decide +kernel⟩
theorem bi_check_place (T : Txt K mg A) : Binds K A.d_check_place ["number", "count"] [] := T.fn_check_place.binds fun _ _ _ _ _ _ us hl => match us, hl with | [_, _], _ => rfl
theorem sc_check_policy : FnScope ["policy"] ["policy"] (defScope s_check_policy) := ⟨rfl, rfl, rfl, by decide +kernel, rfl, by decide +kernel, by decide +kernel⟩
theorem bi_check_policy (T : Txt K mg A) : Binds K A.d_check_policy ["policy"] [] := T.fn_check_policy.binds fun _ _ _ _ _ _ us hl => match us, hl with | [_], _ => rfl
theorem sc_check_context : FnScope ["study", "context"] ["study", "context"] (defScope s_check_context) := ⟨rfl, rfl, rfl, by decide +kernel, rfl, by decide +kernel, by decide +kernel⟩
theorem bi_check_context (T : Txt K mg A) : Binds K A.d_check_context ["study", "context"] [] := T.fn_check_context.binds fun _ _ _ _ _ _ us hl => match us, hl with | [_, _], _ => rfl
theorem sc_check_decision : FnScope ["study", "context", "action"] ["study", "context", "action"] (defScope s_check_decision) := ⟨rfl, rfl, rfl, by decide +kernel, rfl, by decide +kernel, by decide +kernel⟩
theorem bi_check_decision (T : Txt K mg A) : Binds K A.d_check_decision ["study", "context", "action"] [] := T.fn_check_decision.binds fun _ _ _ _ _ _ us hl => match us, hl with | [_, _, _], _ => rfl
theorem sc_check_range : FnScope ["number", "least", "greatest"] ["number", "least", "greatest"] (defScope s_check_range) := ⟨rfl, rfl, rfl, by decide +kernel, rfl, by decide +kernel, by decide +kernel⟩
theorem bi_check_range (T : Txt K mg A) : Binds K A.d_check_range ["number", "least", "greatest"] [] := T.fn_check_range.binds fun _ _ _ _ _ _ us hl => match us, hl with | [_, _, _], _ => rfl
theorem sc_check_numbers : FnScope ["row", "greatest", "number"] ["row", "greatest"] (defScope s_check_numbers) := ⟨rfl, rfl, rfl, by decide +kernel, rfl, by decide +kernel, by decide +kernel⟩
theorem bi_check_numbers (T : Txt K mg A) : Binds K A.d_check_numbers ["row", "greatest"] [] := T.fn_check_numbers.binds fun _ _ _ _ _ _ us hl => match us, hl with | [_, _], _ => rfl
theorem sc_check_row : FnScope ["study", "row", "greatest"] ["study", "row", "greatest"] (defScope s_check_row) := ⟨rfl, rfl, rfl, by decide +kernel, rfl, by decide +kernel, by decide +kernel⟩
theorem bi_check_row (T : Txt K mg A) : Binds K A.d_check_row ["study", "row", "greatest"] [] := T.fn_check_row.binds fun _ _ _ _ _ _ us hl => match us, hl with | [_, _, _], _ => rfl
theorem sc_check_weights : FnScope ["study", "weights"] ["study", "weights"] (defScope s_check_weights) := ⟨rfl, rfl, rfl, by decide +kernel, rfl, by decide +kernel, by decide +kernel⟩
theorem bi_check_weights (T : Txt K mg A) : Binds K A.d_check_weights ["study", "weights"] [] := T.fn_check_weights.binds fun _ _ _ _ _ _ us hl => match us, hl with | [_, _], _ => rfl
theorem sc_check_rewards : FnScope ["study", "rewards"] ["study", "rewards"] (defScope s_check_rewards) := ⟨rfl, rfl, rfl, by decide +kernel, rfl, by decide +kernel, by decide +kernel⟩
theorem bi_check_rewards (T : Txt K mg A) : Binds K A.d_check_rewards ["study", "rewards"] [] := T.fn_check_rewards.binds fun _ _ _ _ _ _ us hl => match us, hl with | [_, _], _ => rfl
theorem sc_check_relevance : FnScope ["relevance"] ["relevance"] (defScope s_check_relevance) := ⟨rfl, rfl, rfl, by decide +kernel, rfl, by decide +kernel, by decide +kernel⟩
theorem bi_check_relevance (T : Txt K mg A) : Binds K A.d_check_relevance ["relevance"] [] := T.fn_check_relevance.binds fun _ _ _ _ _ _ us hl => match us, hl with | [_], _ => rfl
theorem sc_check_gains : FnScope ["gains"] ["gains"] (defScope s_check_gains) := ⟨rfl, rfl, rfl, by decide +kernel, rfl, by decide +kernel, by decide +kernel⟩
theorem bi_check_gains (T : Txt K mg A) : Binds K A.d_check_gains ["gains"] [] := T.fn_check_gains.binds fun _ _ _ _ _ _ us hl => match us, hl with | [_], _ => rfl
theorem sc_check_ranks : FnScope ["ranks"] ["ranks"] (defScope s_check_ranks) := ⟨rfl, rfl, rfl, by decide +kernel, rfl, by decide +kernel, by decide +kernel⟩
theorem bi_check_ranks (T : Txt K mg A) : Binds K A.d_check_ranks ["ranks"] [] := T.fn_check_ranks.binds fun _ _ _ _ _ _ us hl => match us, hl with | [_], _ => rfl
theorem sc_check_reward : FnScope ["reward"] ["reward"] (defScope s_check_reward) := ⟨rfl, rfl, rfl, by decide +kernel, rfl, by decide +kernel, by decide +kernel⟩
theorem bi_check_reward (T : Txt K mg A) : Binds K A.d_check_reward ["reward"] [] := T.fn_check_reward.binds fun _ _ _ _ _ _ us hl => match us, hl with | [_], _ => rfl
theorem sc_check_estimator : FnScope ["kind", "limit"] ["kind", "limit"] (defScope s_check_estimator) := ⟨rfl, rfl, rfl, by decide +kernel, rfl, by decide +kernel, by decide +kernel⟩
theorem bi_check_estimator (T : Txt K mg A) : Binds K A.d_check_estimator ["kind", "limit"] [] := T.fn_check_estimator.binds fun _ _ _ _ _ _ us hl => match us, hl with | [_, _], _ => rfl
theorem sc_check_room : FnScope ["study"] ["study"] (defScope s_check_room) := ⟨rfl, rfl, rfl, by decide +kernel, rfl, by decide +kernel, by decide +kernel⟩
theorem bi_check_room (T : Txt K mg A) : Binds K A.d_check_room ["study"] [] := T.fn_check_room.binds fun _ _ _ _ _ _ us hl => match us, hl with | [_], _ => rfl
theorem sc_check_events : FnScope ["events", "least"] ["events", "least"] (defScope s_check_events) := ⟨rfl, rfl, rfl, by decide +kernel, rfl, by decide +kernel, by decide +kernel⟩
theorem bi_check_events (T : Txt K mg A) : Binds K A.d_check_events ["events", "least"] [] := T.fn_check_events.binds fun _ _ _ _ _ _ us hl => match us, hl with | [_, _], _ => rfl
theorem sc_check_positive : FnScope ["ratio"] ["ratio"] (defScope s_check_positive) := ⟨rfl, rfl, rfl, by decide +kernel, rfl, by decide +kernel, by decide +kernel⟩
theorem bi_check_positive (T : Txt K mg A) : Binds K A.d_check_positive ["ratio"] [] := T.fn_check_positive.binds fun _ _ _ _ _ _ us hl => match us, hl with | [_], _ => rfl
theorem sc_create : FnScope ["contexts", "actions"] ["contexts", "actions"] (defScope s_create) := ⟨rfl, rfl, rfl, by decide +kernel, rfl, by decide +kernel, by decide +kernel⟩
theorem bi_create (T : Txt K mg A) : Binds K A.d_create ["contexts", "actions"] [] := T.fn_create.binds fun _ _ _ _ _ _ us hl => match us, hl with | [_, _], _ => rfl
theorem sc_keep_event : FnScope ["study", "event"] ["study", "event"] (defScope s_keep_event) := ⟨rfl, rfl, rfl, by decide +kernel, rfl, by decide +kernel, by decide +kernel⟩
theorem bi_keep_event (T : Txt K mg A) : Binds K A.d_keep_event ["study", "event"] [] := T.fn_keep_event.binds fun _ _ _ _ _ _ us hl => match us, hl with | [_, _], _ => rfl
theorem sc_add_event : FnScope ["study", "context", "action", "reward", "num", "den"] ["study", "context", "action", "reward", "num", "den"] (defScope s_add_event) := ⟨rfl, rfl, rfl, by decide +kernel, rfl, by decide +kernel, by decide +kernel⟩
theorem bi_add_event (T : Txt K mg A) : Binds K A.d_add_event ["study", "context", "action", "reward", "num", "den"] [] := T.fn_add_event.binds fun _ _ _ _ _ _ us hl => match us, hl with | [_, _, _, _, _, _], _ => rfl
theorem sc_remove_last : FnScope ["study"] ["study"] (defScope s_remove_last) := ⟨rfl, rfl, rfl, by decide +kernel, rfl, by decide +kernel, by decide +kernel⟩
theorem bi_remove_last (T : Txt K mg A) : Binds K A.d_remove_last ["study"] [] := T.fn_remove_last.binds fun _ _ _ _ _ _ us hl => match us, hl with | [_], _ => rfl
theorem sc_log_event : FnScope ["study", "policy", "context", "action", "reward", "propensity"] ["study", "policy", "context", "action", "reward"] (defScope s_log_event) := ⟨rfl, rfl, rfl, by decide +kernel, rfl, by decide +kernel, by decide +kernel⟩
theorem bi_log_event (T : Txt K mg A) : Binds K A.d_log_event ["study", "policy", "context", "action", "reward"] [] := T.fn_log_event.binds fun _ _ _ _ _ _ us hl => match us, hl with | [_, _, _, _, _], _ => rfl
theorem sc_set_policy : FnScope ["study", "policy", "context", "weights", "changed"] ["study", "policy", "context", "weights"] (defScope s_set_policy) := ⟨rfl, rfl, rfl, by decide +kernel, rfl, by decide +kernel, by decide +kernel⟩
theorem bi_set_policy (T : Txt K mg A) : Binds K A.d_set_policy ["study", "policy", "context", "weights"] [] := T.fn_set_policy.binds fun _ _ _ _ _ _ us hl => match us, hl with | [_, _, _, _], _ => rfl
theorem sc_copy_policy : FnScope ["study", "source", "target", "rows", "row"] ["study", "source", "target"] (defScope s_copy_policy) := ⟨rfl, rfl, rfl, by decide +kernel, rfl, by decide +kernel, by decide +kernel⟩
theorem bi_copy_policy (T : Txt K mg A) : Binds K A.d_copy_policy ["study", "source", "target"] [] := T.fn_copy_policy.binds fun _ _ _ _ _ _ us hl => match us, hl with | [_, _, _], _ => rfl
theorem sc_set_model : FnScope ["study", "context", "estimates", "estimate"] ["study", "context", "estimates"] (defScope s_set_model) := ⟨rfl, rfl, rfl, by decide +kernel, rfl, by decide +kernel, by decide +kernel⟩
theorem bi_set_model (T : Txt K mg A) : Binds K A.d_set_model ["study", "context", "estimates"] [] := T.fn_set_model.binds fun _ _ _ _ _ _ us hl => match us, hl with | [_, _, _], _ => rfl
theorem sc_fit_model : FnScope ["study", "context", "row", "action"] ["study"] (defScope s_fit_model) := ⟨rfl, rfl, rfl, by decide +kernel, rfl, by decide +kernel, by decide +kernel⟩
theorem bi_fit_model (T : Txt K mg A) : Binds K A.d_fit_model ["study"] [] := T.fn_fit_model.binds fun _ _ _ _ _ _ us hl => match us, hl with | [_], _ => rfl
theorem sc_set_truth : FnScope ["study", "context", "weight", "rewards"] ["study", "context", "weight", "rewards"] (defScope s_set_truth) := ⟨rfl, rfl, rfl, by decide +kernel, rfl, by decide +kernel, by decide +kernel⟩
theorem bi_set_truth (T : Txt K mg A) : Binds K A.d_set_truth ["study", "context", "weight", "rewards"] [] := T.fn_set_truth.binds fun _ _ _ _ _ _ us hl => match us, hl with | [_, _, _, _], _ => rfl
theorem sc_following_seed : FnScope ["seed"] ["seed"] (defScope s_following_seed) := ⟨rfl, rfl, rfl, by decide +kernel, rfl, by decide +kernel, by decide +kernel⟩
theorem bi_following_seed (T : Txt K mg A) : Binds K A.d_following_seed ["seed"] [] := T.fn_following_seed.binds fun _ _ _ _ _ _ us hl => match us, hl with | [_], _ => rfl
theorem sc_resampled_sums : FnScope ["numbers", "rounds", "seed", "sums", "turn", "drawn", "draw"] ["numbers", "rounds", "seed"] (defScope s_resampled_sums) := ⟨rfl, rfl, rfl, by decide +kernel, rfl, by decide +kernel, by decide +kernel⟩
theorem bi_resampled_sums (T : Txt K mg A) : Binds K A.d_resampled_sums ["numbers", "rounds", "seed"] [] := T.fn_resampled_sums.binds fun _ _ _ _ _ _ us hl => match us, hl with | [_, _, _], _ => rfl
theorem sc_propensity : FnScope ["study", "policy", "context", "action"] ["study", "policy", "context", "action"] (defScope s_propensity) := ⟨rfl, rfl, rfl, by decide +kernel, rfl, by decide +kernel, by decide +kernel⟩
theorem bi_propensity (T : Txt K mg A) : Binds K A.d_propensity ["study", "policy", "context", "action"] [] := T.fn_propensity.binds fun _ _ _ _ _ _ us hl => match us, hl with | [_, _, _, _], _ => rfl
theorem sc_checked_terms : FnScope ["study", "policy", "kind", "limit", "least"] ["study", "policy", "kind", "limit", "least"] (defScope s_checked_terms) := ⟨rfl, rfl, rfl, by decide +kernel, rfl, by decide +kernel, by decide +kernel⟩
theorem bi_checked_terms (T : Txt K mg A) : Binds K A.d_checked_terms ["study", "policy", "kind", "limit", "least"] [] := T.fn_checked_terms.binds fun _ _ _ _ _ _ us hl => match us, hl with | [_, _, _, _, _], _ => rfl
theorem sc_estimate : FnScope ["study", "policy", "kind", "limit"] ["study", "policy", "kind", "limit"] (defScope s_estimate) := ⟨rfl, rfl, rfl, by decide +kernel, rfl, by decide +kernel, by decide +kernel⟩
theorem bi_estimate (T : Txt K mg A) : Binds K A.d_estimate ["study", "policy", "kind", "limit"] [] := T.fn_estimate.binds fun _ _ _ _ _ _ us hl => match us, hl with | [_, _, _, _], _ => rfl
theorem sc_normalized : FnScope ["study", "policy", "factors", "divisor", "weighted", "factor", "event"] ["study", "policy"] (defScope s_normalized) := ⟨rfl, rfl, rfl, by decide +kernel, rfl, by decide +kernel, by decide +kernel⟩
theorem bi_normalized (T : Txt K mg A) : Binds K A.d_normalized ["study", "policy"] [] := T.fn_normalized.binds fun _ _ _ _ _ _ us hl => match us, hl with | [_, _], _ => rfl
theorem sc_replay : FnScope ["study", "policy", "chosen", "agreeing", "event"] ["study", "policy"] (defScope s_replay) := ⟨rfl, rfl, rfl, by decide +kernel, rfl, by decide +kernel, by decide +kernel⟩
theorem bi_replay (T : Txt K mg A) : Binds K A.d_replay ["study", "policy"] [] := T.fn_replay.binds fun _ _ _ _ _ _ us hl => match us, hl with | [_, _], _ => rfl
theorem sc_effective_size : FnScope ["study", "policy", "factors", "divisor", "factor"] ["study", "policy"] (defScope s_effective_size) := ⟨rfl, rfl, rfl, by decide +kernel, rfl, by decide +kernel, by decide +kernel⟩
theorem bi_effective_size (T : Txt K mg A) : Binds K A.d_effective_size ["study", "policy"] [] := T.fn_effective_size.binds fun _ _ _ _ _ _ us hl => match us, hl with | [_, _], _ => rfl
theorem sc_variance : FnScope ["study", "policy", "kind", "limit"] ["study", "policy", "kind", "limit"] (defScope s_variance) := ⟨rfl, rfl, rfl, by decide +kernel, rfl, by decide +kernel, by decide +kernel⟩
theorem bi_variance (T : Txt K mg A) : Binds K A.d_variance ["study", "policy", "kind", "limit"] [] := T.fn_variance.binds fun _ _ _ _ _ _ us hl => match us, hl with | [_, _, _, _], _ => rfl
theorem sc_interval : FnScope ["study", "policy", "kind", "limit", "factor", "terms", "radius"] ["study", "policy", "kind", "limit", "factor"] (defScope s_interval) := ⟨rfl, rfl, rfl, by decide +kernel, rfl, by decide +kernel, by decide +kernel⟩
theorem bi_interval (T : Txt K mg A) : Binds K A.d_interval ["study", "policy", "kind", "limit", "factor"] [] := T.fn_interval.binds fun _ _ _ _ _ _ us hl => match us, hl with | [_, _, _, _, _], _ => rfl
theorem sc_compare : FnScope ["study", "first", "second", "kind", "limit", "terms", "others", "differences", "term", "other"] ["study", "first", "second", "kind", "limit"] (defScope s_compare) := ⟨rfl, rfl, rfl, by decide +kernel, rfl, by decide +kernel, by decide +kernel⟩
theorem bi_compare (T : Txt K mg A) : Binds K A.d_compare ["study", "first", "second", "kind", "limit"] [] := T.fn_compare.binds fun _ _ _ _ _ _ us hl => match us, hl with | [_, _, _, _, _], _ => rfl
theorem sc_by_context : FnScope ["study", "policy", "kind", "limit", "terms", "answered", "context", "places", "place", "event"] ["study", "policy", "kind", "limit"] (defScope s_by_context) := ⟨rfl, rfl, rfl, by decide +kernel, rfl, by decide +kernel, by decide +kernel⟩
theorem bi_by_context (T : Txt K mg A) : Binds K A.d_by_context ["study", "policy", "kind", "limit"] [] := T.fn_by_context.binds fun _ _ _ _ _ _ us hl => match us, hl with | [_, _, _, _], _ => rfl
theorem sc_greatest_weight : FnScope ["study", "policy"] ["study", "policy"] (defScope s_greatest_weight) := ⟨rfl, rfl, rfl, by decide +kernel, rfl, by decide +kernel, by decide +kernel⟩
theorem bi_greatest_weight (T : Txt K mg A) : Binds K A.d_greatest_weight ["study", "policy"] [] := T.fn_greatest_weight.binds fun _ _ _ _ _ _ us hl => match us, hl with | [_, _], _ => rfl
theorem sc_model_info : FnScope ["study", "context", "answered", "reward"] ["study", "context"] (defScope s_model_info) := ⟨rfl, rfl, rfl, by decide +kernel, rfl, by decide +kernel, by decide +kernel⟩
theorem bi_model_info (T : Txt K mg A) : Binds K A.d_model_info ["study", "context"] [] := T.fn_model_info.binds fun _ _ _ _ _ _ us hl => match us, hl with | [_, _], _ => rfl
theorem sc_bootstrap : FnScope ["study", "policy", "kind", "limit", "rounds", "seed", "terms", "bottom", "sums", "answered", "place"] ["study", "policy", "kind", "limit", "rounds", "seed"] (defScope s_bootstrap) := ⟨rfl, rfl, rfl, by decide +kernel, rfl, by decide +kernel, by decide +kernel⟩
theorem bi_bootstrap (T : Txt K mg A) : Binds K A.d_bootstrap ["study", "policy", "kind", "limit", "rounds", "seed"] [] := T.fn_bootstrap.binds fun _ _ _ _ _ _ us hl => match us, hl with | [_, _, _, _, _, _], _ => rfl
theorem sc_status : FnScope ["study", "rewards", "event"] ["study"] (defScope s_status) := ⟨rfl, rfl, rfl, by decide +kernel, rfl, by decide +kernel, by decide +kernel⟩
theorem bi_status (T : Txt K mg A) : Binds K A.d_status ["study"] [] := T.fn_status.binds fun _ _ _ _ _ _ us hl => match us, hl with | [_], _ => rfl
theorem sc_precision_at : FnScope ["count", "relevance"] ["count", "relevance"] (defScope s_precision_at) := ⟨rfl, rfl, rfl, by decide +kernel, rfl, by decide +kernel, by decide +kernel⟩
theorem bi_precision_at (T : Txt K mg A) : Binds K A.d_precision_at ["count", "relevance"] [] := T.fn_precision_at.binds fun _ _ _ _ _ _ us hl => match us, hl with | [_, _], _ => rfl
theorem sc_relevant_ranks : FnScope ["relevance", "rank", "number"] ["relevance"] (defScope s_relevant_ranks) := ⟨rfl, rfl, rfl, by decide +kernel, rfl, by decide +kernel, by decide +kernel⟩
theorem bi_relevant_ranks (T : Txt K mg A) : Binds K A.d_relevant_ranks ["relevance"] [] := T.fn_relevant_ranks.binds fun _ _ _ _ _ _ us hl => match us, hl with | [_], _ => rfl
theorem sc_reciprocal_rank : FnScope ["ranks"] ["ranks"] (defScope s_reciprocal_rank) := ⟨rfl, rfl, rfl, by decide +kernel, rfl, by decide +kernel, by decide +kernel⟩
theorem bi_reciprocal_rank (T : Txt K mg A) : Binds K A.d_reciprocal_rank ["ranks"] [] := T.fn_reciprocal_rank.binds fun _ _ _ _ _ _ us hl => match us, hl with | [_], _ => rfl
theorem sc_discounted_gain : FnScope ["gains", "rank", "gain"] ["gains"] (defScope s_discounted_gain) := ⟨rfl, rfl, rfl, by decide +kernel, rfl, by decide +kernel, by decide +kernel⟩
theorem bi_discounted_gain (T : Txt K mg A) : Binds K A.d_discounted_gain ["gains"] [] := T.fn_discounted_gain.binds fun _ _ _ _ _ _ us hl => match us, hl with | [_], _ => rfl
theorem sc_precision : FnScope ["count", "relevance"] ["count", "relevance"] (defScope s_precision) := ⟨rfl, rfl, rfl, by decide +kernel, rfl, by decide +kernel, by decide +kernel⟩
theorem bi_precision (T : Txt K mg A) : Binds K A.d_precision ["count", "relevance"] [] := T.fn_precision.binds fun _ _ _ _ _ _ us hl => match us, hl with | [_, _], _ => rfl
theorem sc_rank_measures : FnScope ["relevance", "ranks", "average", "rank"] ["relevance"] (defScope s_rank_measures) := ⟨rfl, rfl, rfl, by decide +kernel, rfl, by decide +kernel, by decide +kernel⟩
theorem bi_rank_measures (T : Txt K mg A) : Binds K A.d_rank_measures ["relevance"] [] := T.fn_rank_measures.binds fun _ _ _ _ _ _ us hl => match us, hl with | [_], _ => rfl
theorem sc_gain_measures : FnScope ["gains", "gain", "ideal"] ["gains"] (defScope s_gain_measures) := ⟨rfl, rfl, rfl, by decide +kernel, rfl, by decide +kernel, by decide +kernel⟩
theorem bi_gain_measures (T : Txt K mg A) : Binds K A.d_gain_measures ["gains"] [] := T.fn_gain_measures.binds fun _ _ _ _ _ _ us hl => match us, hl with | [_], _ => rfl
theorem sc_order_measure : FnScope ["ranks", "increasing", "decreasing", "place", "first", "later", "pairs", "second"] ["ranks"] (defScope s_order_measure) := ⟨rfl, rfl, rfl, by decide +kernel, rfl, by decide +kernel, by decide +kernel⟩
theorem bi_order_measure (T : Txt K mg A) : Binds K A.d_order_measure ["ranks"] [] := T.fn_order_measure.binds fun _ _ _ _ _ _ us hl => match us, hl with | [_], _ => rfl
theorem sc_Reader_init : FnScope ["self", "calls"] ["self", "calls"] (defScope s_Reader_init) := ⟨rfl, rfl, rfl, by decide +kernel, rfl, by decide +kernel, by decide +kernel⟩
theorem bi_Reader_init (T : Txt K mg A) : Binds K A.d_Reader_init ["self", "calls"] [] := T.fn_Reader_init.binds fun _ _ _ _ _ _ us hl => match us, hl with | [_, _], _ => rfl
theorem sc_Reader_ended : FnScope ["self"] ["self"] (defScope s_Reader_ended) := ⟨rfl, rfl, rfl, by decide +kernel, rfl, by decide +kernel, by decide +kernel⟩
theorem bi_Reader_ended (T : Txt K mg A) : Binds K A.d_Reader_ended ["self"] [] := T.fn_Reader_ended.binds fun _ _ _ _ _ _ us hl => match us, hl with | [_], _ => rfl
theorem sc_Reader_number : FnScope ["self", "taken"] ["self"] (defScope s_Reader_number) := ⟨rfl, rfl, rfl, by decide +kernel, rfl, by decide +kernel, by decide +kernel⟩
theorem bi_Reader_number (T : Txt K mg A) : Binds K A.d_Reader_number ["self"] [] := T.fn_Reader_number.binds fun _ _ _ _ _ _ us hl => match us, hl with | [_], _ => rfl
theorem sc_Reader_row : FnScope ["self", "length", "start"] ["self"] (defScope s_Reader_row) := ⟨rfl, rfl, rfl, by decide +kernel, rfl, by decide +kernel, by decide +kernel⟩
theorem bi_Reader_row (T : Txt K mg A) : Binds K A.d_Reader_row ["self"] [] := T.fn_Reader_row.binds fun _ _ _ _ _ _ us hl => match us, hl with | [_], _ => rfl
theorem sc_Reader_arguments : FnScope ["self", "wholes", "rows", "taken", "turn"] ["self", "wholes", "rows"] (defScope s_Reader_arguments) := ⟨rfl, rfl, rfl, by decide +kernel, rfl, by decide +kernel, by decide +kernel⟩
theorem bi_Reader_arguments (T : Txt K mg A) : Binds K A.d_Reader_arguments ["self", "wholes", "rows"] [] := T.fn_Reader_arguments.binds fun _ _ _ _ _ _ us hl => match us, hl with | [_, _, _], _ => rfl
theorem sc_possible_events : FnScope ["study", "policy", "events", "context", "action", "reward"] ["study", "policy"] (defScope s_possible_events) := ⟨rfl, rfl, rfl, by decide +kernel, rfl, by decide +kernel, by decide +kernel⟩
theorem bi_possible_events (T : Txt K mg A) : Binds K A.d_possible_events ["study", "policy"] [] := T.fn_possible_events.binds fun _ _ _ _ _ _ us hl => match us, hl with | [_, _], _ => rfl
theorem sc_event_chance : FnScope ["study", "event", "weight"] ["study", "event"] (defScope s_event_chance) := ⟨rfl, rfl, rfl, by decide +kernel, rfl, by decide +kernel, by decide +kernel⟩
theorem bi_event_chance (T : Txt K mg A) : Binds K A.d_event_chance ["study", "event"] [] := T.fn_event_chance.binds fun _ _ _ _ _ _ us hl => match us, hl with | [_, _], _ => rfl
theorem sc_expected : FnScope ["study", "events", "values", "event", "value"] ["study", "events", "values"] (defScope s_expected) := ⟨rfl, rfl, rfl, by decide +kernel, rfl, by decide +kernel, by decide +kernel⟩
theorem bi_expected (T : Txt K mg A) : Binds K A.d_expected ["study", "events", "values"] [] := T.fn_expected.binds fun _ _ _ _ _ _ us hl => match us, hl with | [_, _, _], _ => rfl
theorem sc_true_value : FnScope ["study", "policy", "events", "rewards", "event"] ["study", "policy"] (defScope s_true_value) := ⟨rfl, rfl, rfl, by decide +kernel, rfl, by decide +kernel, by decide +kernel⟩
theorem bi_true_value (T : Txt K mg A) : Binds K A.d_true_value ["study", "policy"] [] := T.fn_true_value.binds fun _ _ _ _ _ _ us hl => match us, hl with | [_, _], _ => rfl
theorem sc_expectation : FnScope ["study", "logger", "policy", "kind", "limit", "events", "terms", "middle", "squares", "term"] ["study", "logger", "policy", "kind", "limit"] (defScope s_expectation) := ⟨rfl, rfl, rfl, by decide +kernel, rfl, by decide +kernel, by decide +kernel⟩
theorem bi_expectation (T : Txt K mg A) : Binds K A.d_expectation ["study", "logger", "policy", "kind", "limit"] [] := T.fn_expectation.binds fun _ _ _ _ _ _ us hl => match us, hl with | [_, _, _, _, _], _ => rfl
theorem sc_unsupported : FnScope ["study", "logger", "policy", "source", "pairs", "context", "action"] ["study", "logger", "policy"] (defScope s_unsupported) := ⟨rfl, rfl, rfl, by decide +kernel, rfl, by decide +kernel, by decide +kernel⟩
theorem bi_unsupported (T : Txt K mg A) : Binds K A.d_unsupported ["study", "logger", "policy"] [] := T.fn_unsupported.binds fun _ _ _ _ _ _ us hl => match us, hl with | [_, _, _], _ => rfl
theorem sc_Session_init : FnScope ["self"] ["self"] (defScope s_Session_init) := ⟨rfl, rfl, rfl, by decide +kernel, rfl, by decide +kernel, by decide +kernel⟩
theorem bi_Session_init (T : Txt K mg A) : Binds K A.d_Session_init ["self"] [] := T.fn_Session_init.binds fun _ _ _ _ _ _ us hl => match us, hl with | [_], _ => rfl
theorem sc_Session_answer : FnScope ["self", "number", "given", "refusal"] ["self", "number", "given"] (defScope s_Session_answer) := ⟨rfl, rfl, rfl, by decide +kernel, rfl, by decide +kernel, by decide +kernel⟩
theorem bi_Session_answer (T : Txt K mg A) : Binds K A.d_Session_answer ["self", "number", "given"] [] := T.fn_Session_answer.binds fun _ _ _ _ _ _ us hl => match us, hl with | [_, _, _], _ => rfl
theorem sc_operation_of : FnScope ["number"] ["number"] (defScope s_operation_of) := ⟨rfl, rfl, rfl, by decide +kernel, rfl, by decide +kernel, by decide +kernel⟩
theorem bi_operation_of (T : Txt K mg A) : Binds K A.d_operation_of ["number"] [] := T.fn_operation_of.binds fun _ _ _ _ _ _ us hl => match us, hl with | [_], _ => rfl
theorem sc_carry_out : FnScope ["operation", "given"] ["operation", "given"] (defScope s_carry_out) := ⟨rfl, rfl, rfl, by decide +kernel, rfl, by decide +kernel, by decide +kernel⟩
theorem bi_carry_out (T : Txt K mg A) : Binds K A.d_carry_out ["operation", "given"] [] := T.fn_carry_out.binds fun _ _ _ _ _ _ us hl => match us, hl with | [_, _], _ => rfl
theorem sc_answers : FnScope ["calls", "session", "reader", "result", "number", "shape", "answered"] ["calls"] (defScope s_answers) := ⟨rfl, rfl, rfl, by decide +kernel, rfl, by decide +kernel, by decide +kernel⟩
theorem bi_answers (T : Txt K mg A) : Binds K A.d_answers ["calls"] [] := T.fn_answers.binds fun _ _ _ _ _ _ us hl => match us, hl with | [_], _ => rfl
end
end Lw
end
/-! LwRatio -/
section
set_option Elab.async false
set_option linter.all false
set_option maxRecDepth 100000
set_option maxHeartbeats 4000000
/-! fractions: the objects, and what the defs over them promise -/
namespace Lw
open PySem PySem.Spec PyProof.Rows L2
open Kp432 (Fraction)
/-- an instance's attributes, as they are looked up and stored -/
theorem lk0 {k : Str} {v : V} {r : List (Str × V)} : List.lookup k ((k, v) :: r) = some v := by
  have e : (k == k) = true := beq_self_eq_true k
  simp only [List.lookup, e]
theorem lk1 {k g : Str} {v : V} {r : List (Str × V)} (h : (k == g) = false) : List.lookup k ((g, v) :: r) = List.lookup k r := by
  simp only [List.lookup, h]
theorem pf0 {f : Str} {v x : V} {r : List (Str × V)} : putF f v ((f, x) :: r) = (f, v) :: r := if_pos rfl
theorem pf1 {f g : Str} {v x : V} {r : List (Str × V)} (h : ¬ g = f) : putF f v ((g, x) :: r) = (g, x) :: putF f v r := if_neg h
def ratF (x : Fraction) : List (Str × V) := [("top", .int x.num), ("bottom", .int (x.den : Int))]
theorem rat_top (x : Fraction) : (ratF x).lookup ("top" : Str) = some (.int x.num) := lk0
theorem rat_bottom (x : Fraction) : (ratF x).lookup ("bottom" : Str) = some (.int (x.den : Int)) := (lk1 (by decide +kernel)).trans lk0
theorem rat_no (x : Fraction) {m : Str} (h1 : (m == ("top" : Str)) = false) (h2 : (m == ("bottom" : Str)) = false) : (ratF x).lookup m = none := (lk1 h1).trans ((lk1 h2).trans rfl)
theorem rat_new (x : Fraction) : putF "bottom" (.int (x.den : Int)) (putF "top" (.int x.num) []) = ratF x := (pf1 (by decide +kernel)).trans rfl
/-- the fraction x stands at a -/
def RatAt (A : Ad) (H : Hp) (a : Addr) (x : Fraction) : Prop := ∃ dx, H a = some (.ins A.c_Ratio dx (ratF x))
theorem RatAt.same {A : Ad} {H H' : Hp} {a : Addr} {x : Fraction} (h : RatAt A H a x) (s : Same H H') : RatAt A H' a x := by
  obtain ⟨dx, h⟩ := h
  exact ⟨dx, s _ _ h⟩
theorem small_lt {i : Int} {n : Nat} (h0 : 0 ≤ i) (h : i < 2 ^ n) : i.natAbs < 2 ^ n := by
  have e : ((2 ^ n : Nat) : Int) = (2 : Int) ^ n := by rw [Int.natCast_pow]; rfl
  omega
def sp_common_divisor (K : PySem.W.Frag) (A : Ad) : Sp := fun vs H Q _ => ∃ m n : Nat, vs = [.int m, .int n] ∧ Q (.int (Nat.gcd m n : Nat)) H
def sp_Ratio_init (K : PySem.W.Frag) (A : Ad) : Sp := fun vs H Q _ => ∃ (p dx : Addr) (n : Int) (d : Nat), vs = [.ref p, .int n, .int d] ∧ H p = some (.ins A.c_Ratio dx []) ∧ 0 < d ∧ d < 2 ^ 9000 ∧
  ∀ H' : Hp, RatAt A H' p (Kp432.fraction n d) → (∀ b o, H b = some o → b ≠ p → H' b = some o) → Q .non H'
section
variable {P : Program} {w : World} {K : PySem.W.Frag} {mg : Str → Option Value} {base : Heap} {A : Ad}
theorem ok_common_divisor (T : Txt K mg A) : FnOk P w K mg base CX0 1 A.f_common_divisor A.d_common_divisor ["first", "second"] (sp_common_divisor K A) := by
  refine T.fn_common_divisor.ok sc_common_divisor (fun vs H Q E h => ?_) (fun cdv Ar outer s H vs Q E hr h => ?_)
  · obtain ⟨m, n, rfl, _⟩ := h
    rfl
  · obtain ⟨m, n, rfl, k⟩ := h
    refine ⟨_, (pss_cons (ps_while PassesOwn.never (pt_cmpR op_gt (pv 1) pe_int (nomark _)) (pss_cons (ps_set (i := 2) sc_common_divisor.nd rfl (Or.inl rfl) (pe_op op_mod (pv 0) (pv 1)))
          (pss_cons (ps_set (i := 0) sc_common_divisor.nd rfl (Or.inl rfl) (pv 1))
          (pss_one (ps_set (i := 1) sc_common_divisor.nd rfl (Or.inl rfl) (pv 2))))))
        (pss_one (ps_ret (pv 0)))), ?_⟩
    refine while_by (fun σ H' => ∃ (f s : Nat) (v : Option V), σ = [some (.int f), some (.int s), v] ∧ H' = H ∧ Nat.gcd f s = Nat.gcd m n)
      (fun σ _ => match σ with | [_, some (.int s), _] => s.toNat | _ => 0) ⟨m, n, none, rfl, rfl, rfl⟩ ?_ ?_
    · rintro σ H' ⟨f, s, v, rfl, rfl, hg⟩
      refine ⟨_, rfl, _, _, rfl, rfl, _, rfl, ?_⟩
      by_cases c : (0 : Int) < (s : Int)
      · rw [decide_eq_true c]
        refine iteT ?_
        refine ⟨_, rfl, _, rfl, _, _, rfl, rfl, c, _, rfl, _, rfl, ?_⟩
        have e : (f : Int) % (s : Int) = ((f % s : Nat) : Int) := rfl
        refine ⟨⟨s, f % s, some (.int ((f % s : Nat) : Int)), ?_, rfl, ?_⟩, ?_⟩
        · rw [← e]
          rfl
        · rw [← hg, Nat.gcd_comm f s, Nat.gcd_rec s f, Nat.gcd_comm]
        · show ((f : Int) % (s : Int)).toNat < (s : Int).toNat
          have := Nat.mod_lt f (y := s) (by omega)
          rw [e]
          omega
      · rw [decide_eq_false c]
        refine iteF ?_
        refine ⟨_, rfl, ?_⟩
        have s0 : s = 0 := by omega
        subst s0
        have e : Nat.gcd m n = f := by rw [← hg, Nat.gcd_zero_right]
        rw [e] at k
        exact k
    · rintro σ H' Q1 Q2 hq ⟨x, hx, i, j, e1, e2, b, e3, q⟩
      exact ⟨x, hx, i, j, e1, e2, b, e3, hq _ _ q⟩
theorem ok_Ratio_init (T : Txt K mg A) : FnOk P w K mg base CX0 2 A.f_Ratio_init A.d_Ratio_init ["self", "top", "bottom"] (sp_Ratio_init K A) := by
  refine T.fn_Ratio_init.ok sc_Ratio_init (fun vs H Q E h => ?_) (fun cdv Ar outer s H vs Q E hr h => ?_)
  · obtain ⟨p, dx, n, d, rfl, _⟩ := h
    rfl
  · obtain ⟨p, dx, n, d, rfl, hp, h0, h9, k⟩ := h
    refine ⟨_, (pss_cons (ps_set (i := 3) sc_Ratio_init.nd rfl (Or.inl rfl) (pe_call (ok_common_divisor T) (hr.mono (by decide)) rfl T.g_common_divisor T.fn_common_divisor.kp (bi_common_divisor T) .nil pass0 (pa_cons (pe_callB call_abs (by rfl) T.n_abs (by decide +kernel) (pa_cons (pv 1) pa_nil)) (pa_cons (pv 2) pa_nil))))
        (pss_cons (ps_fld (pv 0) (pe_op op_fdivW (pv 1) (pv 3)) rfl)
        (pss_one (ps_fld (pv 0) (pe_op op_fdivW (pv 2) (pv 3)) rfl)))), ?_⟩
    have g0 : 0 < Nat.gcd n.natAbs d := Nat.gcd_pos_of_pos_right _ h0
    have g9 : Nat.gcd n.natAbs d < 2 ^ 9000 := Nat.lt_of_le_of_lt (Nat.gcd_le_right _ h0) h9
    have cd : ∀ i : Int, CDivW i (Nat.gcd n.natAbs d : Nat) := fun i => wide_div (by omega) (by rw [Int.natAbs_natCast]; exact g9) (by decide) (Nat.le_refl _)
    have ab : (if n < 0 then -n else n) = ((n.natAbs : Nat) : Int) := by
      split <;> omega
    refine ⟨_, rfl, n, rfl, _, rfl, n.natAbs, d, ?_, ?_⟩
    · rw [ab]
      rfl
    refine ⟨_, rfl, _, rfl, _, _, rfl, rfl, cd _, _, rfl, p, A.c_Ratio, dx, [], rfl, hp, T.cl_Ratio, T.no_Ratio_top, (by show 0 < 1000; decide), ?_⟩
    refine ⟨_, rfl, _, rfl, _, _, rfl, rfl, cd _, _, rfl, p, A.c_Ratio, dx, _, rfl, upd_same, T.cl_Ratio, T.no_Ratio_bottom, (by show 1 < 1000; decide), ?_⟩
    refine k _ ⟨dx, ?_⟩ fun b o e hb => by
      rw [upd_ne hb, upd_ne hb]
      exact e
    have e1 := rat_new (Kp432.fraction n d)
    rw [LwM.fraction_eq h0] at e1 ⊢
    exact Eq.trans upd_same (congrArg (fun z => some (HO.ins A.c_Ratio dx z)) e1)
end
end Lw
end
/-! LwRatio2 -/
section
set_option Elab.async false
set_option linter.all false
set_option maxRecDepth 100000
set_option maxHeartbeats 4000000
namespace Lw
open PySem PySem.Spec PyProof.Rows L2
open Kp432 (Fraction)
/-- small enough to be multiplied -/
structure Sz (x : Fraction) : Prop where
  pos : 0 < x.den
  den : x.den < 2 ^ 4500
  num : x.num.natAbs < 2 ^ 9000
theorem pow_split : 2 ^ 4500 * 2 ^ 4500 = 2 ^ 9000 := (Nat.pow_add 2 4500 4500).symm
theorem Sz.of {D M : Nat} {x : Fraction} (h : LwM.Bd D M x) (d0 : 0 < D) (hD : D < 2 ^ 4500) (hM : M < 2 ^ 4500) : Sz x := by
  have hd : x.den < 2 ^ 4500 := Nat.lt_of_le_of_lt (Nat.le_of_dvd d0 h.dvd) hD
  refine ⟨h.pos, hd, Nat.lt_of_le_of_lt h.abs ?_⟩
  rw [← pow_split]
  exact Nat.mul_lt_mul'' hM hd
theorem Sz.den9 {x y : Fraction} (hx : Sz x) (hy : Sz y) : x.den * y.den < 2 ^ 9000 := by
  rw [← pow_split]
  exact Nat.mul_lt_mul'' hx.den hy.den
theorem dn_pos {d : Nat} (h : 0 < d) : ((d : Nat) : Int).natAbs = d := Int.natAbs_natCast d
theorem Sz.mnd {x y : Fraction} (hx : Sz x) (hy : Sz y) : CMulW x.num (y.den : Int) := wide_mul hx.num (by rw [Int.natAbs_natCast]; exact hy.den) (by decide) (by decide) (by decide)
theorem Sz.mdd {x y : Fraction} (hx : Sz x) (hy : Sz y) : CMulW (x.den : Int) (y.den : Int) := wide_mul (by rw [Int.natAbs_natCast]; exact hx.den) (by rw [Int.natAbs_natCast]; exact hy.den) (by decide) (by decide) (by decide)
theorem Sz.mnn {x y : Fraction} (hx : Sz x) (hy : Sz y) : CMulW x.num y.num := wide_mul hx.num hy.num (by decide) (by decide) (by decide)
theorem Sz.mdn {x y : Fraction} (hx : Sz x) (hy : Sz y) : CMulW (x.den : Int) y.num := wide_mul (by rw [Int.natAbs_natCast]; exact hx.den) hy.num (by decide) (by decide) (by decide)
section
variable {K : PySem.W.Frag} {A : Ad} {H : Hp} {Q : VK} {E : XK}
/-- a new fraction -/
theorem mk_rat {n b : Int} {d : Nat} (e : b = (d : Int)) (h0 : 0 < d) (h9 : d < 2 ^ 9000) (k : ∀ (p : Addr) (H' : Hp), Same H H' → RatAt A H' p (Kp432.fraction n d) → Q (.ref p) H') :
    ∀ x dx, H x = none → H dx = none → dx ≠ x → sp_Ratio_init K A (.ref x :: ([.int n, .int b] ++ [])) (upd (upd H dx (.own x)) x (.ins A.c_Ratio dx [])) (fun v H2 => v = .non ∧ Q (.ref x) H2) E := by
  subst e
  intro x dx nx nd ne
  exact ⟨x, dx, n, d, rfl, upd_same, h0, h9, fun H' r kp => ⟨rfl, k x H' (Same.made nx nd kp) r⟩⟩
end
/-- what a def over fractions hands back: a new one, all else as it was -/
def Gives (A : Ad) (H : Hp) (Q : VK) (z : Fraction) : Prop := ∀ (p : Addr) (H' : Hp), Same H H' → RatAt A H' p z → Q (.ref p) H'
def sp_two (f : Fraction → Fraction → Fraction) (A : Ad) : Sp := fun vs H Q _ => ∃ (a b : Addr) (x y : Fraction), vs = [.ref a, .ref b] ∧ RatAt A H a x ∧ RatAt A H b y ∧ Sz x ∧ Sz y ∧ Gives A H Q (f x y)
def sp_Ratio_plus (K : PySem.W.Frag) (A : Ad) : Sp := sp_two Kp432.add A
def sp_Ratio_minus (K : PySem.W.Frag) (A : Ad) : Sp := sp_two Kp432.sub A
def sp_Ratio_times (K : PySem.W.Frag) (A : Ad) : Sp := sp_two Kp432.mul A
def sp_Ratio_over (K : PySem.W.Frag) (A : Ad) : Sp := fun vs H Q _ => ∃ (a b : Addr) (x y : Fraction), vs = [.ref a, .ref b] ∧ RatAt A H a x ∧ RatAt A H b y ∧ Sz x ∧ Sz y ∧ 0 < y.num ∧ y.num.natAbs < 2 ^ 4500 ∧ Gives A H Q (Kp432.over x y)
def sp_Ratio_below (K : PySem.W.Frag) (A : Ad) : Sp := fun vs H Q _ => ∃ (a b : Addr) (x y : Fraction), vs = [.ref a, .ref b] ∧ RatAt A H a x ∧ RatAt A H b y ∧ Sz x ∧ Sz y ∧ Q (.bl (Kp432.less x y)) H
def sp_Ratio_smaller (K : PySem.W.Frag) (A : Ad) : Sp := fun vs H Q _ => ∃ (a b : Addr) (x y : Fraction), vs = [.ref a, .ref b] ∧ RatAt A H a x ∧ RatAt A H b y ∧ Sz x ∧ Sz y ∧ ∀ c, RatAt A H c (Kp432.clipped y x) → Q (.ref c) H
def sp_Ratio_squared (K : PySem.W.Frag) (A : Ad) : Sp := fun vs H Q _ => ∃ (a : Addr) (x : Fraction), vs = [.ref a] ∧ RatAt A H a x ∧ Sz x ∧ Gives A H Q (Kp432.square x)
def sp_Ratio_pair (K : PySem.W.Frag) (A : Ad) : Sp := fun vs H Q _ => ∃ (a : Addr) (x : Fraction), vs = [.ref a] ∧ RatAt A H a x ∧ ∀ p, H p = none → Q (.ref p) (upd H p (.lst [.int x.num, .int (x.den : Int)]))
def sp_whole (K : PySem.W.Frag) (A : Ad) : Sp := fun vs H Q _ => ∃ n : Nat, vs = [.int n] ∧ Gives A H Q (Kp432.ofNat n)
theorem ofNat_is (n : Nat) : Kp432.fraction (n : Int) 1 = Kp432.ofNat n := by
  rw [LwM.fraction_eq Nat.one_pos, Nat.gcd_one_right]
  show (⟨(n : Int) / ((1 : Nat) : Int), 1 / 1⟩ : Fraction) = ⟨n, 1⟩
  rw [show ((1 : Nat) : Int) = 1 from rfl, Int.ediv_one]
section
variable {P : Program} {w : World} {K : PySem.W.Frag} {mg : Str → Option Value} {base : Heap} {A : Ad}
theorem ok_Ratio_plus (T : Txt K mg A) : FnOk P w K mg base CX0 4 A.f_Ratio_plus A.d_Ratio_plus ["self", "other"] (sp_Ratio_plus K A) := by
  refine T.fn_Ratio_plus.ok sc_Ratio_plus (fun vs H Q E h => ?_) (fun cdv Ar outer s H vs Q E hr h => ?_)
  · obtain ⟨a, b, x, y, rfl, _⟩ := h
    rfl
  · obtain ⟨a, b, x, y, rfl, ⟨da, ha⟩, ⟨db, hb⟩, sx, sy, k⟩ := h
    refine ⟨_, (pss_one (ps_ret (pe_make T.mk_Ratio (ok_Ratio_init T) (hr.mono (by decide)) rfl T.g_Ratio (bi_Ratio_init T) .nil pass0 (pa_cons (pe_op op_add (pe_op op_mulW (pe_fld (pv 0) rfl) (pe_fld (pv 1) rfl)) (pe_op op_mulW (pe_fld (pv 1) rfl) (pe_fld (pv 0) rfl))) (pa_cons (pe_op op_mulW (pe_fld (pv 0) rfl) (pe_fld (pv 1) rfl)) pa_nil))))), ?_⟩
    refine ⟨_, rfl, a, A.c_Ratio, da, _, _, rfl, ha, T.cl_Ratio, T.no_Ratio_top, rat_top x, _, rfl, b, A.c_Ratio, db, _, _, rfl, hb, T.cl_Ratio, T.no_Ratio_bottom, rat_bottom y, _, _, rfl, rfl, sx.mnd sy,
      _, rfl, b, A.c_Ratio, db, _, _, rfl, hb, T.cl_Ratio, T.no_Ratio_top, rat_top y, _, rfl, a, A.c_Ratio, da, _, _, rfl, ha, T.cl_Ratio, T.no_Ratio_bottom, rat_bottom x, _, _, rfl, rfl, sy.mnd sx, _, _, rfl, rfl,
      _, rfl, a, A.c_Ratio, da, _, _, rfl, ha, T.cl_Ratio, T.no_Ratio_bottom, rat_bottom x, _, rfl, b, A.c_Ratio, db, _, _, rfl, hb, T.cl_Ratio, T.no_Ratio_bottom, rat_bottom y, _, _, rfl, rfl, sx.mdd sy, ?_⟩
    exact mk_rat (d := x.den * y.den) (Int.natCast_mul _ _).symm (Nat.mul_pos sx.pos sy.pos) (sx.den9 sy) k
theorem ok_Ratio_minus (T : Txt K mg A) : FnOk P w K mg base CX0 4 A.f_Ratio_minus A.d_Ratio_minus ["self", "other"] (sp_Ratio_minus K A) := by
  refine T.fn_Ratio_minus.ok sc_Ratio_minus (fun vs H Q E h => ?_) (fun cdv Ar outer s H vs Q E hr h => ?_)
  · obtain ⟨a, b, x, y, rfl, _⟩ := h
    rfl
  · obtain ⟨a, b, x, y, rfl, ⟨da, ha⟩, ⟨db, hb⟩, sx, sy, k⟩ := h
    refine ⟨_, (pss_one (ps_ret (pe_make T.mk_Ratio (ok_Ratio_init T) (hr.mono (by decide)) rfl T.g_Ratio (bi_Ratio_init T) .nil pass0 (pa_cons (pe_op op_sub (pe_op op_mulW (pe_fld (pv 0) rfl) (pe_fld (pv 1) rfl)) (pe_op op_mulW (pe_fld (pv 1) rfl) (pe_fld (pv 0) rfl))) (pa_cons (pe_op op_mulW (pe_fld (pv 0) rfl) (pe_fld (pv 1) rfl)) pa_nil))))), ?_⟩
    refine ⟨_, rfl, a, A.c_Ratio, da, _, _, rfl, ha, T.cl_Ratio, T.no_Ratio_top, rat_top x, _, rfl, b, A.c_Ratio, db, _, _, rfl, hb, T.cl_Ratio, T.no_Ratio_bottom, rat_bottom y, _, _, rfl, rfl, sx.mnd sy,
      _, rfl, b, A.c_Ratio, db, _, _, rfl, hb, T.cl_Ratio, T.no_Ratio_top, rat_top y, _, rfl, a, A.c_Ratio, da, _, _, rfl, ha, T.cl_Ratio, T.no_Ratio_bottom, rat_bottom x, _, _, rfl, rfl, sy.mnd sx, _, _, rfl, rfl,
      _, rfl, a, A.c_Ratio, da, _, _, rfl, ha, T.cl_Ratio, T.no_Ratio_bottom, rat_bottom x, _, rfl, b, A.c_Ratio, db, _, _, rfl, hb, T.cl_Ratio, T.no_Ratio_bottom, rat_bottom y, _, _, rfl, rfl, sx.mdd sy, ?_⟩
    exact mk_rat (d := x.den * y.den) (Int.natCast_mul _ _).symm (Nat.mul_pos sx.pos sy.pos) (sx.den9 sy) k
theorem ok_Ratio_times (T : Txt K mg A) : FnOk P w K mg base CX0 4 A.f_Ratio_times A.d_Ratio_times ["self", "other"] (sp_Ratio_times K A) := by
  refine T.fn_Ratio_times.ok sc_Ratio_times (fun vs H Q E h => ?_) (fun cdv Ar outer s H vs Q E hr h => ?_)
  · obtain ⟨a, b, x, y, rfl, _⟩ := h
    rfl
  · obtain ⟨a, b, x, y, rfl, ⟨da, ha⟩, ⟨db, hb⟩, sx, sy, k⟩ := h
    refine ⟨_, (pss_one (ps_ret (pe_make T.mk_Ratio (ok_Ratio_init T) (hr.mono (by decide)) rfl T.g_Ratio (bi_Ratio_init T) .nil pass0 (pa_cons (pe_op op_mulW (pe_fld (pv 0) rfl) (pe_fld (pv 1) rfl)) (pa_cons (pe_op op_mulW (pe_fld (pv 0) rfl) (pe_fld (pv 1) rfl)) pa_nil))))), ?_⟩
    refine ⟨_, rfl, a, A.c_Ratio, da, _, _, rfl, ha, T.cl_Ratio, T.no_Ratio_top, rat_top x, _, rfl, b, A.c_Ratio, db, _, _, rfl, hb, T.cl_Ratio, T.no_Ratio_top, rat_top y, _, _, rfl, rfl, sx.mnn sy,
      _, rfl, a, A.c_Ratio, da, _, _, rfl, ha, T.cl_Ratio, T.no_Ratio_bottom, rat_bottom x, _, rfl, b, A.c_Ratio, db, _, _, rfl, hb, T.cl_Ratio, T.no_Ratio_bottom, rat_bottom y, _, _, rfl, rfl, sx.mdd sy, ?_⟩
    exact mk_rat (d := x.den * y.den) (Int.natCast_mul _ _).symm (Nat.mul_pos sx.pos sy.pos) (sx.den9 sy) k
theorem ok_Ratio_over (T : Txt K mg A) : FnOk P w K mg base CX0 4 A.f_Ratio_over A.d_Ratio_over ["self", "other"] (sp_Ratio_over K A) := by
  refine T.fn_Ratio_over.ok sc_Ratio_over (fun vs H Q E h => ?_) (fun cdv Ar outer s H vs Q E hr h => ?_)
  · obtain ⟨a, b, x, y, rfl, _⟩ := h
    rfl
  · obtain ⟨a, b, x, y, rfl, ⟨da, ha⟩, ⟨db, hb⟩, sx, sy, y0, y9, k⟩ := h
    refine ⟨_, (pss_one (ps_ret (pe_make T.mk_Ratio (ok_Ratio_init T) (hr.mono (by decide)) rfl T.g_Ratio (bi_Ratio_init T) .nil pass0 (pa_cons (pe_op op_mulW (pe_fld (pv 0) rfl) (pe_fld (pv 1) rfl)) (pa_cons (pe_op op_mulW (pe_fld (pv 0) rfl) (pe_fld (pv 1) rfl)) pa_nil))))), ?_⟩
    refine ⟨_, rfl, a, A.c_Ratio, da, _, _, rfl, ha, T.cl_Ratio, T.no_Ratio_top, rat_top x, _, rfl, b, A.c_Ratio, db, _, _, rfl, hb, T.cl_Ratio, T.no_Ratio_bottom, rat_bottom y, _, _, rfl, rfl, sx.mnd sy,
      _, rfl, a, A.c_Ratio, da, _, _, rfl, ha, T.cl_Ratio, T.no_Ratio_bottom, rat_bottom x, _, rfl, b, A.c_Ratio, db, _, _, rfl, hb, T.cl_Ratio, T.no_Ratio_top, rat_top y, _, _, rfl, rfl, sx.mdn sy, ?_⟩
    refine mk_rat (d := x.den * y.num.toNat) ?_ (Nat.mul_pos sx.pos (by omega)) ?_ k
    · rw [Int.natCast_mul, Int.toNat_of_nonneg (by omega)]
    · rw [← pow_split]
      exact Nat.mul_lt_mul'' sx.den (by omega)
theorem ok_Ratio_below (T : Txt K mg A) : FnOk P w K mg base CX0 1 A.f_Ratio_below A.d_Ratio_below ["self", "other"] (sp_Ratio_below K A) := by
  refine T.fn_Ratio_below.ok sc_Ratio_below (fun vs H Q E h => ?_) (fun cdv Ar outer s H vs Q E hr h => ?_)
  · obtain ⟨a, b, x, y, rfl, _⟩ := h
    rfl
  · obtain ⟨a, b, x, y, rfl, ⟨da, ha⟩, ⟨db, hb⟩, sx, sy, k⟩ := h
    refine ⟨_, (pss_one (ps_ret (pe_cmpR op_lt (pe_op op_mulW (pe_fld (pv 0) rfl) (pe_fld (pv 1) rfl)) (pe_op op_mulW (pe_fld (pv 1) rfl) (pe_fld (pv 0) rfl)) (nomark _)))), ?_⟩
    exact ⟨_, rfl, a, A.c_Ratio, da, _, _, rfl, ha, T.cl_Ratio, T.no_Ratio_top, rat_top x, _, rfl, b, A.c_Ratio, db, _, _, rfl, hb, T.cl_Ratio, T.no_Ratio_bottom, rat_bottom y, _, _, rfl, rfl, sx.mnd sy,
      _, rfl, b, A.c_Ratio, db, _, _, rfl, hb, T.cl_Ratio, T.no_Ratio_top, rat_top y, _, rfl, a, A.c_Ratio, da, _, _, rfl, ha, T.cl_Ratio, T.no_Ratio_bottom, rat_bottom x, _, _, rfl, rfl, sy.mnd sx, _, _, rfl, rfl, k⟩
theorem ok_Ratio_smaller (T : Txt K mg A) : FnOk P w K mg base CX0 2 A.f_Ratio_smaller A.d_Ratio_smaller ["self", "other"] (sp_Ratio_smaller K A) := by
  refine T.fn_Ratio_smaller.ok sc_Ratio_smaller (fun vs H Q E h => ?_) (fun cdv Ar outer s H vs Q E hr h => ?_)
  · obtain ⟨a, b, x, y, rfl, _⟩ := h
    rfl
  · obtain ⟨a, b, x, y, rfl, ⟨da, ha⟩, ⟨db, hb⟩, sx, sy, k⟩ := h
    refine ⟨_, (pss_cons (ps_if (pt_val (pe_meth (pv 1) T.cl_Ratio T.me_Ratio_below (ok_Ratio_below T) (hr.mono (by decide)) (bi_Ratio_below T) .nil pass0 (pa_cons (pv 0) pa_nil))) (pss_one (ps_ret (pv 1))) pss_nil)
        (pss_one (ps_ret (pv 0)))), ?_⟩
    refine ⟨_, rfl, b, db, _, rfl, hb, rat_no y (by decide +kernel) (by decide +kernel), _, rfl, b, a, y, x, rfl, ⟨db, hb⟩, ⟨da, ha⟩, sy, sx, _, rfl, ?_⟩
    unfold Kp432.clipped at k
    by_cases c : Kp432.less y x = true
    · rw [if_pos c] at k
      rw [c]
      exact iteT ⟨_, rfl, k b ⟨db, hb⟩⟩
    · rw [if_neg c] at k
      rw [Bool.not_eq_true] at c
      rw [c]
      exact iteF ⟨_, rfl, k a ⟨da, ha⟩⟩
theorem ok_Ratio_squared (T : Txt K mg A) : FnOk P w K mg base CX0 5 A.f_Ratio_squared A.d_Ratio_squared ["self"] (sp_Ratio_squared K A) := by
  refine T.fn_Ratio_squared.ok sc_Ratio_squared (fun vs H Q E h => ?_) (fun cdv Ar outer s H vs Q E hr h => ?_)
  · obtain ⟨a, x, rfl, _⟩ := h
    rfl
  · obtain ⟨a, x, rfl, ⟨da, ha⟩, sx, k⟩ := h
    refine ⟨_, (pss_one (ps_ret (pe_meth (pv 0) T.cl_Ratio T.me_Ratio_times (ok_Ratio_times T) (hr.mono (by decide)) (bi_Ratio_times T) .nil pass0 (pa_cons (pv 0) pa_nil)))), ?_⟩
    exact ⟨_, rfl, a, da, _, rfl, ha, rat_no x (by decide +kernel) (by decide +kernel), _, rfl, a, a, x, x, rfl, ⟨da, ha⟩, ⟨da, ha⟩, sx, sx, k⟩
theorem ok_Ratio_pair (T : Txt K mg A) : FnOk P w K mg base CX0 1 A.f_Ratio_pair A.d_Ratio_pair ["self"] (sp_Ratio_pair K A) := by
  refine T.fn_Ratio_pair.ok sc_Ratio_pair (fun vs H Q E h => ?_) (fun cdv Ar outer s H vs Q E hr h => ?_)
  · obtain ⟨a, x, rfl, _⟩ := h
    rfl
  · obtain ⟨a, x, rfl, ⟨da, ha⟩, k⟩ := h
    refine ⟨_, (pss_one (ps_ret (pe_lst (pa_cons (pe_fld (pv 0) rfl) (pa_cons (pe_fld (pv 0) rfl) pa_nil))))), ?_⟩
    exact ⟨_, rfl, a, A.c_Ratio, da, _, _, rfl, ha, T.cl_Ratio, T.no_Ratio_top, rat_top x, _, rfl, a, A.c_Ratio, da, _, _, rfl, ha, T.cl_Ratio, T.no_Ratio_bottom, rat_bottom x, (by show 2 ≤ sizeLine; decide), k⟩
theorem ok_whole (T : Txt K mg A) : FnOk P w K mg base CX0 4 A.f_whole A.d_whole ["number"] (sp_whole K A) := by
  refine T.fn_whole.ok sc_whole (fun vs H Q E h => ?_) (fun cdv Ar outer s H vs Q E hr h => ?_)
  · obtain ⟨n, rfl, _⟩ := h
    rfl
  · obtain ⟨n, rfl, k⟩ := h
    refine ⟨_, (pss_one (ps_ret (pe_make T.mk_Ratio (ok_Ratio_init T) (hr.mono (by decide)) rfl T.g_Ratio (bi_Ratio_init T) .nil pass0 (pa_cons (pv 0) (pa_cons pe_int pa_nil))))), ?_⟩
    refine ⟨_, rfl, ?_⟩
    exact mk_rat (d := 1) rfl Nat.one_pos (Nat.one_lt_two_pow (by decide)) (by rw [ofNat_is]; exact k)
end
end Lw
end
/-! LwTotal -/
section
set_option Elab.async false
set_option linter.all false
set_option maxRecDepth 100000
set_option maxHeartbeats 4000000
/-! lists of fractions, their sum and mean -/
namespace Lw
open PySem PySem.Spec PyProof.Rows L2
open Kp432 (Fraction)
/-- a list of objects, each of which is what R says of the data's item -/
structure LstAt {α : Type} (R : Hp → Addr → α → Prop) (H : Hp) (l : Addr) (xs : List α) : Prop where
  ex : ∃ as : List Addr, H l = some (.lst (as.map V.ref)) ∧ as.length = xs.length ∧ ∀ (i : Nat) (a : Addr) (x : α), as[i]? = some a → xs[i]? = some x → R H a x
theorem LstAt.same {α : Type} {R : Hp → Addr → α → Prop} {H H' : Hp} {l : Addr} {xs : List α} (h : LstAt R H l xs) (s : Same H H') (k : ∀ a x, R H a x → R H' a x) : LstAt R H' l xs := by
  obtain ⟨as, h1, h2, h3⟩ := h.ex
  exact ⟨as, s _ _ h1, h2, fun i a x ha hx => k a x (h3 i a x ha hx)⟩
abbrev RatsAt (A : Ad) : Hp → Addr → List Fraction → Prop := LstAt (RatAt A)
theorem RatsAt.same {A : Ad} {H H' : Hp} {l : Addr} {xs : List Fraction} (h : RatsAt A H l xs) (s : Same H H') : RatsAt A H' l xs := LstAt.same h s fun _ _ r => r.same s
theorem take_snoc {α : Type} : ∀ {l : List α} {i : Nat} {x : α}, l[i]? = some x → l.take (i + 1) = l.take i ++ [x]
  | [], i, x, h => by simp at h
  | a :: l, 0, x, h => by
    have e : a = x := Option.some.inj h
    subst e
    rfl
  | a :: l, i + 1, x, h => by
    have ih := take_snoc (l := l) (i := i) (x := x) h
    show a :: l.take (i + 1) = a :: l.take i ++ [x]
    rw [ih]
    rfl
/-- the i-th of a list of references -/
theorem ref_at {as : List Addr} {i : Nat} {y : V} (h : (as.map V.ref)[i]? = some y) : ∃ a, as[i]? = some a ∧ y = V.ref a := by
  rw [List.getElem?_map] at h
  cases e : as[i]? with
  | none =>
    rw [e] at h
    cases h
  | some a =>
    rw [e] at h
    exact ⟨a, rfl, (Option.some.inj h).symm⟩
theorem int_at {ns : List Int} {i : Nat} {y : V} (h : (ns.map V.int)[i]? = some y) : ∃ n, ns[i]? = some n ∧ y = V.int n := by
  rw [List.getElem?_map] at h
  cases e : ns[i]? with
  | none =>
    rw [e] at h
    cases h
  | some a =>
    rw [e] at h
    exact ⟨a, rfl, (Option.some.inj h).symm⟩
theorem get_of_len {α β : Type} {as : List α} {xs : List β} {i : Nat} {a : α} (h : as.length = xs.length) (ha : as[i]? = some a) : ∃ x, xs[i]? = some x := by
  obtain ⟨hi, _⟩ := List.getElem?_eq_some_iff.mp ha
  exact ⟨xs[i]'(by omega), List.getElem?_eq_getElem (by omega)⟩
/-- all of one size: their sums stay small -/
structure Fit (xs : List Fraction) : Prop where
  ex : ∃ D M n : Nat, (∀ x ∈ xs, LwM.Bd D M x) ∧ xs.length ≤ n ∧ 0 < D ∧ D < 2 ^ 4500 ∧ 0 < n ∧ n * M < 2 ^ 4500
theorem Fit.all {xs : List Fraction} (h : Fit xs) {x : Fraction} (hx : x ∈ xs) : Sz x := by
  obtain ⟨D, M, n, h1, h2, h3, h4, h5, h6⟩ := h.ex
  exact Sz.of (h1 x hx) h3 h4 (Nat.lt_of_le_of_lt (Nat.le_mul_of_pos_left M h5) h6)
theorem Fit.sum {xs : List Fraction} (h : Fit xs) (i : Nat) : Sz (Kp432.total (xs.take i)) := by
  obtain ⟨D, M, n, h1, h2, h3, h4, h5, h6⟩ := h.ex
  have b := LwM.bd_total (l := xs.take i) (n := n) (fun x hx => h1 x (List.mem_of_mem_take hx)) (by rw [List.length_take]; omega)
  exact Sz.of b h3 h4 h6
theorem total_snoc (xs : List Fraction) (x : Fraction) : Kp432.total (xs ++ [x]) = Kp432.add (Kp432.total xs) x := by
  unfold Kp432.total
  rw [List.foldl_append]
  rfl
theorem Fit.total {xs : List Fraction} (h : Fit xs) : Sz (Kp432.total xs) := by
  have e := h.sum xs.length
  rw [List.take_length] at e
  exact e
def sp_total (K : PySem.W.Frag) (A : Ad) : Sp := fun vs H Q _ => ∃ (l : Addr) (xs : List Fraction), vs = [.ref l] ∧ RatsAt A H l xs ∧ Fit xs ∧ Gives A H Q (Kp432.total xs)
def sp_mean (K : PySem.W.Frag) (A : Ad) : Sp := fun vs H Q _ => ∃ (l : Addr) (xs : List Fraction), vs = [.ref l] ∧ RatsAt A H l xs ∧ Fit xs ∧ xs.length ≤ 1000 ∧ Gives A H Q (Kp432.mean xs)
theorem Sz.nat {n : Nat} (h : n < 2 ^ 60) : Sz (Kp432.ofNat n) := by
  refine ⟨Nat.one_pos, Nat.one_lt_two_pow (by decide), ?_⟩
  show ((n : Int)).natAbs < 2 ^ 9000
  rw [Int.natAbs_natCast]
  exact Nat.lt_trans h (Nat.pow_lt_pow_right (by decide) (by decide))
theorem nat4500 {n : Nat} (h : n < 2 ^ 60) : ((n : Int)).natAbs < 2 ^ 4500 := by
  rw [Int.natAbs_natCast]
  exact Nat.lt_trans h (Nat.pow_lt_pow_right (by decide) (by decide))
section
variable {P : Program} {w : World} {K : PySem.W.Frag} {mg : Str → Option Value} {base : Heap} {A : Ad}
theorem ok_total (T : Txt K mg A) : FnOk P w K mg base CX0 5 A.f_total A.d_total ["ratios"] (sp_total K A) := by
  refine T.fn_total.ok sc_total (fun vs H Q E h => ?_) (fun cdv Ar outer s H vs Q E hr h => ?_)
  · obtain ⟨l, xs, rfl, _⟩ := h
    rfl
  · obtain ⟨l, xs, rfl, hl, fit, k⟩ := h
    refine ⟨_, (pss_cons (ps_set (i := 1) sc_total.nd rfl (Or.inl rfl) (pe_call (ok_whole T) (hr.mono (by decide)) rfl T.g_whole T.fn_whole.kp (bi_whole T) .nil pass0 (pa_cons pe_int pa_nil)))
        (pss_cons (ps_for PassesOwn.never rfl (pi_list (pv 0)) (pg_name (i := 2) sc_total.nd rfl (Or.inl rfl)) (pss_one (ps_set (i := 1) sc_total.nd rfl (Or.inl rfl) (pe_meth (pv 1) T.cl_Ratio T.me_Ratio_plus (ok_Ratio_plus T) (hr.mono (by decide)) (bi_Ratio_plus T) .nil pass0 (pa_cons (pv 2) pa_nil)))))
        (pss_one (ps_ret (pv 1))))), ?_⟩
    refine ⟨0, rfl, fun r H1 s1 r1 => ?_⟩
    obtain ⟨as, h1, h2, h3⟩ := hl.ex
    refine ⟨_, rfl, l, rfl, ⟨_, SqL.of (s1 _ _ h1)⟩, for_list (K := K) (a := l) (xs := as.map V.ref) (fun i σ H' => ∃ (r : Addr) (v : Option V), σ = [some (.ref l), some (.ref r), v] ∧ Same H H' ∧ RatAt A H' r (Kp432.total (xs.take i)))
      ⟨r, none, rfl, s1, r1⟩ (fun i σ H' _ hw => ?_) ?_ ?_⟩
    · obtain ⟨_, _, _, s2, _⟩ := hw
      exact SqL.of (s2 _ _ h1)
    · rintro i y σ H' hi ⟨r, v, rfl, s2, r2⟩
      obtain ⟨a, ha, rfl⟩ := ref_at hi
      obtain ⟨x, hx⟩ := get_of_len h2 ha
      obtain ⟨dr, hr2⟩ := r2
      refine ⟨_, rfl, r, dr, _, rfl, hr2, rat_no _ (by decide +kernel) (by decide +kernel), _, rfl, r, a, _, x, rfl, ⟨dr, hr2⟩, (h3 i a x ha hx).same s2, fit.sum i, fit.all (List.mem_of_getElem? hx), fun p H2 s3 r3 => ?_⟩
      refine ⟨p, some (.ref a), rfl, s2.trans s3, ?_⟩
      rw [take_snoc hx, total_snoc]
      exact r3
    · rintro σ H' ⟨r, v, rfl, s2, r2⟩
      rw [List.length_map, h2, List.take_length] at r2
      exact ⟨_, rfl, k r H' s2 r2⟩
theorem ok_mean (T : Txt K mg A) : FnOk P w K mg base CX0 6 A.f_mean A.d_mean ["ratios"] (sp_mean K A) := by
  refine T.fn_mean.ok sc_mean (fun vs H Q E h => ?_) (fun cdv Ar outer s H vs Q E hr h => ?_)
  · obtain ⟨l, xs, rfl, _⟩ := h
    rfl
  · obtain ⟨l, xs, rfl, hl, fit, h9, k⟩ := h
    refine ⟨_, (pss_cons (ps_if (pt_cmpR op_eq (pe_callB call_len_seq (by rfl) T.n_len PySem.boot_len (pa_cons (pv 0) pa_nil)) pe_int (nomark _)) (pss_one (ps_ret (pe_call (ok_whole T) (hr.mono (by decide)) rfl T.g_whole T.fn_whole.kp (bi_whole T) .nil pass0 (pa_cons pe_int pa_nil)))) pss_nil)
        (pss_one (ps_ret (pe_meth (pe_call (ok_total T) (hr.mono (by decide)) rfl T.g_total T.fn_total.kp (bi_total T) .nil pass0 (pa_cons (pv 0) pa_nil)) T.cl_Ratio T.me_Ratio_over (ok_Ratio_over T) (hr.mono (by decide)) (bi_Ratio_over T) .nil pass0 (pa_cons (pe_call (ok_whole T) (hr.mono (by decide)) rfl T.g_whole T.fn_whole.kp (bi_whole T) .nil pass0 (pa_cons (pe_callB call_len_seq (by rfl) T.n_len PySem.boot_len (pa_cons (pv 0) pa_nil)) pa_nil)) pa_nil))))), ?_⟩
    obtain ⟨as0, i1, i2, i3⟩ := hl.ex
    refine ⟨_, rfl, l, _, rfl, .inl (SqL.of i1), rfl, _, rfl, ?_⟩
    by_cases z : xs.length = 0
    · have e : decide (V.int ((as0.map V.ref).length : Int) = V.int 0) = true := decide_eq_true (by rw [List.length_map, i2, z]; rfl)
      refine (congrArg (fun b => ite (b = true) _ _) e).mpr (iteT ⟨0, rfl, ?_⟩)
      have e0 : xs = [] := List.eq_nil_of_length_eq_zero z
      subst e0
      exact k
    · have h0 : 0 < xs.length := by omega
      have e : decide (V.int ((as0.map V.ref).length : Int) = V.int 0) = false := decide_eq_false (by
        rw [List.length_map, i2]
        intro q
        injection q with q
        omega)
      refine (congrArg (fun b => ite (b = true) _ _) e).mpr (iteF ?_)
      refine ⟨_, rfl, l, xs, rfl, hl, fit, fun t H1 s1 r1 => ?_⟩
      obtain ⟨dt, ht⟩ := r1
      obtain ⟨as, h1, h2, h3⟩ := (hl.same s1).ex
      refine ⟨t, dt, _, rfl, ht, rat_no _ (by decide +kernel) (by decide +kernel), _, rfl, l, _, rfl, .inl (SqL.of h1), xs.length, ?_, fun b H2 s2 r2 => ?_⟩
      · rw [List.length_map, h2]
        rfl
      · have small : xs.length < 2 ^ 60 := Nat.lt_of_le_of_lt h9 (by decide)
        exact ⟨t, b, _, _, rfl, ⟨dt, s2 _ _ ht⟩, r2, fit.total, Sz.nat small, (by show (0 : Int) < (xs.length : Int); omega), nat4500 small, fun p H3 s3 r3 => k p H3 ((s1.trans s2).trans s3) (by
          rw [← LwM.pmean_eq h0]
          exact r3)⟩
end
end Lw
end
/-! LwErr -/
section
set_option Elab.async false
set_option linter.all false
set_option maxRecDepth 100000
set_option maxHeartbeats 4000000
/-! the errors, and the checks that raise them -/
namespace Lw
open PySem PySem.Spec PyProof.Rows L2
open Kp432 (Fraction)
/-- the classes whose errors are caught: by their code -/
def errAt (A : Ad) : Int → Addr
  | -11 => A.c_NoStudy
  | -2 => A.c_Missing
  | -22 => A.c_OutOfLimits
  | -28 => A.c_LogFull
  | _ => A.c_NotEnough
/-- what is wanted of a refusal by this code: its class, its own dict, all else as it was -/
def Bad (A : Ad) (H : Hp) (E : XK) (code : Int) : Prop := ∀ (d : Addr) (H' : Hp), Same H H' → H' d = some (.xd [("code", .int code)]) → E (.ref (errAt A code)) (some d) H'
theorem Bad.same {A : Ad} {H H' : Hp} {E : XK} {code : Int} (h : Bad A H E code) (s : Same H H') : Bad A H' E code := fun d H2 s2 e => h d H2 (s.trans s2) e
def sp_Refusal_init (K : PySem.W.Frag) (A : Ad) : Sp := fun vs H Q _ => ∃ (a C : Addr) (z : Int), vs = [.ref a, .int z] ∧ ErrC K C ∧ H a = some (exo a C none) ∧
  ∀ dx : Addr, H dx = none → dx ≠ a → Q .non (upd (upd H dx (exd dx [("code", .int z)])) a (exo a C (some dx)))
def sp_errinit (z : Int) (K : PySem.W.Frag) : Sp := fun vs H Q _ => ∃ (a C : Addr), vs = [.ref a] ∧ ErrC K C ∧ H a = some (exo a C none) ∧
  ∀ dx : Addr, H dx = none → dx ≠ a → Q .non (upd (upd H dx (exd dx [("code", .int z)])) a (exo a C (some dx)))
def sp_NoStudy_init (K : PySem.W.Frag) (A : Ad) : Sp := sp_errinit (-11) K
def sp_Missing_init (K : PySem.W.Frag) (A : Ad) : Sp := sp_errinit (-2) K
def sp_OutOfLimits_init (K : PySem.W.Frag) (A : Ad) : Sp := sp_errinit (-22) K
def sp_LogFull_init (K : PySem.W.Frag) (A : Ad) : Sp := sp_errinit (-28) K
def sp_NotEnough_init (K : PySem.W.Frag) (A : Ad) : Sp := sp_errinit (-33) K
section
variable {K : PySem.W.Frag} {A : Ad} {H : Hp} {E : XK} {z : Int} {C : Addr}
/-- a new error, raised -/
theorem raised (e : ErrC K C) (hC : C = errAt A z) (b : Bad A H E z) : tErrNew0 C (sp_errinit z K) [] H E := by
  subst hC
  intro a na
  refine ⟨a, errAt A z, rfl, e, upd_same, fun dx nd ne => ⟨rfl, dx, [("code", .int z)], upd_same, ?_, ?_, ?_⟩⟩
  · rw [upd_ne ne, upd_same]
  · rw [upd_ne ne] at nd
    exact nd
  · refine b dx _ (fun c o hc => ?_) upd_same
    have hca : c ≠ a := ne_of_none hc na
    have hcd : c ≠ dx := by
      rw [upd_ne ne] at nd
      exact ne_of_none hc nd
    rw [upd_ne hcd, del_ne hca, upd_ne hca, upd_ne hcd, upd_ne hca]
    exact hc
end
section
variable {P : Program} {w : World} {K : PySem.W.Frag} {mg : Str → Option Value} {base : Heap} {A : Ad}
theorem ok_Refusal_init (T : Txt K mg A) : FnOk P w K mg base CX0 1 A.f_Refusal_init A.d_Refusal_init ["self", "code"] (sp_Refusal_init K A) := by
  refine T.fn_Refusal_init.ok sc_Refusal_init (fun vs H Q E h => ?_) (fun cdv Ar outer s H vs Q E hr h => ?_)
  · obtain ⟨a, C, z, rfl, _⟩ := h
    rfl
  · obtain ⟨a, C, z, rfl, e, ha, k⟩ := h
    refine ⟨_, (pss_cons (ps_expr (pe_errbase (by rfl) T.n_Exception (pa_cons (pv 0) pa_nil)))
        (pss_one (ps_errcode (pv 0) (pv 1)))), ?_⟩
    refine ⟨_, rfl, a, C, [], rfl, (by show 0 ≤ 1000; decide), e, ha, ?_⟩
    exact ⟨_, rfl, _, rfl, a, C, rfl, e, ha, k⟩
theorem ok_NoStudy_init (T : Txt K mg A) : FnOk P w K mg base CX0 2 A.f_NoStudy_init A.d_NoStudy_init ["self"] (sp_NoStudy_init K A) := by
  refine T.fn_NoStudy_init.ok sc_NoStudy_init (fun vs H Q E h => ?_) (fun cdv Ar outer s H vs Q E hr h => ?_)
  · obtain ⟨a, C, rfl, _⟩ := h
    rfl
  · obtain ⟨a, C, rfl, e, ha, k⟩ := h
    refine ⟨_, (pss_one (ps_expr (pe_offcls T.off_Refusal (ok_Refusal_init T) (hr.mono (by decide)) rfl T.g_Refusal (bi_Refusal_init T) pass0 (pa_cons (pv 0) (pa_cons (pe_un un_neg pe_int) pa_nil))))), ?_⟩
    exact ⟨_, rfl, _, rfl, a, C, _, rfl, e, ha, k⟩
theorem ok_Missing_init (T : Txt K mg A) : FnOk P w K mg base CX0 2 A.f_Missing_init A.d_Missing_init ["self"] (sp_Missing_init K A) := by
  refine T.fn_Missing_init.ok sc_Missing_init (fun vs H Q E h => ?_) (fun cdv Ar outer s H vs Q E hr h => ?_)
  · obtain ⟨a, C, rfl, _⟩ := h
    rfl
  · obtain ⟨a, C, rfl, e, ha, k⟩ := h
    refine ⟨_, (pss_one (ps_expr (pe_offcls T.off_Refusal (ok_Refusal_init T) (hr.mono (by decide)) rfl T.g_Refusal (bi_Refusal_init T) pass0 (pa_cons (pv 0) (pa_cons (pe_un un_neg pe_int) pa_nil))))), ?_⟩
    exact ⟨_, rfl, _, rfl, a, C, _, rfl, e, ha, k⟩
theorem ok_OutOfLimits_init (T : Txt K mg A) : FnOk P w K mg base CX0 2 A.f_OutOfLimits_init A.d_OutOfLimits_init ["self"] (sp_OutOfLimits_init K A) := by
  refine T.fn_OutOfLimits_init.ok sc_OutOfLimits_init (fun vs H Q E h => ?_) (fun cdv Ar outer s H vs Q E hr h => ?_)
  · obtain ⟨a, C, rfl, _⟩ := h
    rfl
  · obtain ⟨a, C, rfl, e, ha, k⟩ := h
    refine ⟨_, (pss_one (ps_expr (pe_offcls T.off_Refusal (ok_Refusal_init T) (hr.mono (by decide)) rfl T.g_Refusal (bi_Refusal_init T) pass0 (pa_cons (pv 0) (pa_cons (pe_un un_neg pe_int) pa_nil))))), ?_⟩
    exact ⟨_, rfl, _, rfl, a, C, _, rfl, e, ha, k⟩
theorem ok_LogFull_init (T : Txt K mg A) : FnOk P w K mg base CX0 2 A.f_LogFull_init A.d_LogFull_init ["self"] (sp_LogFull_init K A) := by
  refine T.fn_LogFull_init.ok sc_LogFull_init (fun vs H Q E h => ?_) (fun cdv Ar outer s H vs Q E hr h => ?_)
  · obtain ⟨a, C, rfl, _⟩ := h
    rfl
  · obtain ⟨a, C, rfl, e, ha, k⟩ := h
    refine ⟨_, (pss_one (ps_expr (pe_offcls T.off_Refusal (ok_Refusal_init T) (hr.mono (by decide)) rfl T.g_Refusal (bi_Refusal_init T) pass0 (pa_cons (pv 0) (pa_cons (pe_un un_neg pe_int) pa_nil))))), ?_⟩
    exact ⟨_, rfl, _, rfl, a, C, _, rfl, e, ha, k⟩
theorem ok_NotEnough_init (T : Txt K mg A) : FnOk P w K mg base CX0 2 A.f_NotEnough_init A.d_NotEnough_init ["self"] (sp_NotEnough_init K A) := by
  refine T.fn_NotEnough_init.ok sc_NotEnough_init (fun vs H Q E h => ?_) (fun cdv Ar outer s H vs Q E hr h => ?_)
  · obtain ⟨a, C, rfl, _⟩ := h
    rfl
  · obtain ⟨a, C, rfl, e, ha, k⟩ := h
    refine ⟨_, (pss_one (ps_expr (pe_offcls T.off_Refusal (ok_Refusal_init T) (hr.mono (by decide)) rfl T.g_Refusal (bi_Refusal_init T) pass0 (pa_cons (pv 0) (pa_cons (pe_un un_neg pe_int) pa_nil))))), ?_⟩
    exact ⟨_, rfl, _, rfl, a, C, _, rfl, e, ha, k⟩
end
end Lw
end
/-! LwStudy -/
section
set_option Elab.async false
set_option linter.all false
set_option maxRecDepth 100000
set_option maxHeartbeats 4000000
/-! a study as it stands in the heap -/
namespace Lw
open PySem PySem.Spec PyProof.Rows L2
open Kp432 (Fraction Study)
abbrev Evt := Kp432.Event
def nat (n : Nat) : V := V.int (n : Int)
def NatsAt (H : Hp) (l : Addr) (ns : List Nat) : Prop := H l = some (.lst (ns.map nat))
def evF (e : Evt) (pr : Addr) : List (Str × V) := [("context", nat e.context), ("action", nat e.action), ("reward", nat e.reward), ("propensity", .ref pr)]
def EvAt (A : Ad) (H : Hp) (a : Addr) (e : Evt) : Prop := ∃ dx pr, H a = some (.ins A.c_Event dx (evF e pr)) ∧ RatAt A H pr e.propensity
theorem ev_context (e : Evt) (pr : Addr) : (evF e pr).lookup ("context" : Str) = some (nat e.context) := lk0
theorem ev_action (e : Evt) (pr : Addr) : (evF e pr).lookup ("action" : Str) = some (nat e.action) := (lk1 (by decide +kernel)).trans lk0
theorem ev_reward (e : Evt) (pr : Addr) : (evF e pr).lookup ("reward" : Str) = some (nat e.reward) := (lk1 (by decide +kernel)).trans ((lk1 (by decide +kernel)).trans lk0)
theorem ev_propensity (e : Evt) (pr : Addr) : (evF e pr).lookup ("propensity" : Str) = some (.ref pr) := (lk1 (by decide +kernel)).trans ((lk1 (by decide +kernel)).trans ((lk1 (by decide +kernel)).trans lk0))
def polF (l : Addr) : List (Str × V) := [("weights", .ref l)]
theorem pol_weights (l : Addr) : (polF l).lookup ("weights" : Str) = some (.ref l) := lk0
theorem pol_no (l : Addr) {m : Str} (h : (m == ("weights" : Str)) = false) : (polF l).lookup m = none := (lk1 h).trans rfl
def stF (s : Study) (ev po mo tw tr : Addr) : List (Str × V) :=
  [("contexts", nat s.contexts), ("actions", nat s.actions), ("events", .ref ev), ("policies", .ref po), ("model", .ref mo), ("truth_weights", .ref tw), ("truth_rewards", .ref tr)]
section
variable (s : Study) (ev po mo tw tr : Addr)
theorem st_contexts : (stF s ev po mo tw tr).lookup ("contexts" : Str) = some (nat s.contexts) := lk0
theorem st_actions : (stF s ev po mo tw tr).lookup ("actions" : Str) = some (nat s.actions) := (lk1 (by decide +kernel)).trans lk0
theorem st_events : (stF s ev po mo tw tr).lookup ("events" : Str) = some (.ref ev) := (lk1 (by decide +kernel)).trans ((lk1 (by decide +kernel)).trans lk0)
theorem st_policies : (stF s ev po mo tw tr).lookup ("policies" : Str) = some (.ref po) := (lk1 (by decide +kernel)).trans ((lk1 (by decide +kernel)).trans ((lk1 (by decide +kernel)).trans lk0))
theorem st_model : (stF s ev po mo tw tr).lookup ("model" : Str) = some (.ref mo) :=
  (lk1 (by decide +kernel)).trans ((lk1 (by decide +kernel)).trans ((lk1 (by decide +kernel)).trans ((lk1 (by decide +kernel)).trans lk0)))
theorem st_tw : (stF s ev po mo tw tr).lookup ("truth_weights" : Str) = some (.ref tw) :=
  (lk1 (by decide +kernel)).trans ((lk1 (by decide +kernel)).trans ((lk1 (by decide +kernel)).trans ((lk1 (by decide +kernel)).trans ((lk1 (by decide +kernel)).trans lk0))))
theorem st_tr : (stF s ev po mo tw tr).lookup ("truth_rewards" : Str) = some (.ref tr) :=
  (lk1 (by decide +kernel)).trans ((lk1 (by decide +kernel)).trans ((lk1 (by decide +kernel)).trans ((lk1 (by decide +kernel)).trans ((lk1 (by decide +kernel)).trans ((lk1 (by decide +kernel)).trans lk0)))))
end
/-- a list of lists; none of these stands at M -/
structure RowsAt {α : Type} (R : Hp → Addr → α → Prop) (H : Hp) (l : Addr) (xs : List α) (M : List Addr) : Prop where
  ex : ∃ as : List Addr, H l = some (.lst (as.map V.ref)) ∧ as.length = xs.length ∧ (∀ (i : Nat) (a : Addr) (x : α), as[i]? = some a → xs[i]? = some x → R H a x) ∧ ∀ a ∈ as, a ∉ M
structure StIn (A : Ad) (H : Hp) (a : Addr) (s : Study) (ev po mo tw tr : Addr) (pl wl M : List Addr) : Prop where
  mu : M = ev :: po :: mo :: tw :: tr :: wl
  obj : ∃ dx, H a = some (.ins A.c_Study dx (stF s ev po mo tw tr))
  evs : LstAt (EvAt A) H ev s.events
  pol : H po = some (.lst (pl.map V.ref))
  plen : pl.length = s.policies.length
  wlen : wl.length = s.policies.length
  pat : ∀ (i : Nat) (p l : Addr) (r : Kp432.Policy), pl[i]? = some p → wl[i]? = some l → s.policies[i]? = some r → (∃ dx, H p = some (.ins A.c_Policy dx (polF l))) ∧ RowsAt NatsAt H l r M
  mod : RowsAt (RatsAt A) H mo s.model M
  tw : NatsAt H tw s.contextWeights
  tr : RowsAt NatsAt H tr s.truth M
  nd : M.Nodup
/-- the study s stands at a; M: its lists that may change -/
structure StAt (A : Ad) (H : Hp) (a : Addr) (s : Study) (M : List Addr) : Prop where
  ex : ∃ ev po mo tw tr pl wl, StIn A H a s ev po mo tw tr pl wl M
theorem RowsAt.same {α : Type} {R : Hp → Addr → α → Prop} {H H' : Hp} {l : Addr} {xs : List α} {M : List Addr} (h : RowsAt R H l xs M) (s : Same H H') (k : ∀ a x, R H a x → R H' a x) : RowsAt R H' l xs M := by
  obtain ⟨as, h1, h2, h3, h4⟩ := h.ex
  exact ⟨as, s _ _ h1, h2, fun i a x ha hx => k a x (h3 i a x ha hx), h4⟩
theorem EvAt.same {A : Ad} {H H' : Hp} {a : Addr} {e : Evt} (h : EvAt A H a e) (s : Same H H') : EvAt A H' a e := by
  obtain ⟨dx, pr, h1, h2⟩ := h
  exact ⟨dx, pr, s _ _ h1, h2.same s⟩
theorem NatsAt.same {H H' : Hp} {l : Addr} {ns : List Nat} (h : NatsAt H l ns) (s : Same H H') : NatsAt H' l ns := s _ _ h
theorem StIn.same {A : Ad} {H H' : Hp} {a : Addr} {s : Study} {ev po mo tw tr : Addr} {pl wl M : List Addr} (h : StIn A H a s ev po mo tw tr pl wl M) (k : Same H H') : StIn A H' a s ev po mo tw tr pl wl M where
  mu := h.mu
  obj := by
    obtain ⟨dx, e⟩ := h.obj
    exact ⟨dx, k _ _ e⟩
  evs := h.evs.same k fun _ _ e => e.same k
  pol := k _ _ h.pol
  plen := h.plen
  wlen := h.wlen
  pat := fun i p l r h1 h2 h3 => by
    obtain ⟨⟨dx, e⟩, q⟩ := h.pat i p l r h1 h2 h3
    exact ⟨⟨dx, k _ _ e⟩, q.same k fun _ _ n => n.same k⟩
  mod := h.mod.same k fun _ _ n => n.same k
  tw := h.tw.same k
  tr := h.tr.same k fun _ _ n => n.same k
  nd := h.nd
theorem StAt.same {A : Ad} {H H' : Hp} {a : Addr} {s : Study} {M : List Addr} (h : StAt A H a s M) (k : Same H H') : StAt A H' a s M := by
  obtain ⟨ev, po, mo, tw, tr, pl, wl, e⟩ := h.ex
  exact ⟨ev, po, mo, tw, tr, pl, wl, e.same k⟩
/-! ### one list is changed, all else stands -/
structure But (H H' : Hp) (m : Addr) : Prop where
  was : ∃ xs, H m = some (.lst xs)
  keep : ∀ b o, H b = some o → b ≠ m → H' b = some o
section
variable {A : Ad} {H H' : Hp} {m a l : Addr} {M : List Addr}
theorem But.ins (k : But H H' m) {C dx : Addr} {fs : List (Str × V)} (h : H a = some (.ins C dx fs)) : H' a = some (.ins C dx fs) := by
  obtain ⟨xs, hm⟩ := k.was
  exact k.keep _ _ h (ne_of h hm (by intro z; cases z))
theorem But.rat (k : But H H' m) {x : Fraction} (h : RatAt A H a x) : RatAt A H' a x := by
  obtain ⟨dx, h⟩ := h
  exact ⟨dx, k.ins h⟩
theorem But.ev (k : But H H' m) {e : Evt} (h : EvAt A H a e) : EvAt A H' a e := by
  obtain ⟨dx, pr, h1, h2⟩ := h
  exact ⟨dx, pr, k.ins h1, k.rat h2⟩
theorem But.evs (k : But H H' m) {es : List Evt} (h : LstAt (EvAt A) H l es) (n : l ≠ m) : LstAt (EvAt A) H' l es := by
  obtain ⟨as, h1, h2, h3⟩ := h.ex
  exact ⟨as, k.keep _ _ h1 n, h2, fun i a x ha hx => k.ev (h3 i a x ha hx)⟩
theorem But.rats (k : But H H' m) {xs : List Fraction} (h : RatsAt A H l xs) (n : l ≠ m) : RatsAt A H' l xs := by
  obtain ⟨as, h1, h2, h3⟩ := h.ex
  exact ⟨as, k.keep _ _ h1 n, h2, fun i a x ha hx => k.rat (h3 i a x ha hx)⟩
theorem But.nrows (k : But H H' m) {rs : List (List Nat)} (h : RowsAt NatsAt H l rs M) (n : l ≠ m) (hm : m ∈ M) : RowsAt NatsAt H' l rs M := by
  obtain ⟨as, h1, h2, h3, h4⟩ := h.ex
  exact ⟨as, k.keep _ _ h1 n, h2, fun i a x ha hx => k.keep _ _ (h3 i a x ha hx) (fun e => h4 a (List.mem_of_getElem? ha) (e ▸ hm)), h4⟩
theorem But.frows (k : But H H' m) {rs : List (List Fraction)} (h : RowsAt (RatsAt A) H l rs M) (n : l ≠ m) (hm : m ∈ M) : RowsAt (RatsAt A) H' l rs M := by
  obtain ⟨as, h1, h2, h3, h4⟩ := h.ex
  exact ⟨as, k.keep _ _ h1 n, h2, fun i a x ha hx => k.rats (h3 i a x ha hx) (fun e => h4 a (List.mem_of_getElem? ha) (e ▸ hm)), h4⟩
theorem But.upd {xs ys : List V} (h : H m = some (.lst xs)) : But H (L2.upd H m (.lst ys)) m := ⟨⟨xs, h⟩, fun b o e n => by rw [upd_ne n]; exact e⟩
end
end Lw
end
/-! LwLimits -/
section
set_option Elab.async false
set_option linter.all false
set_option maxRecDepth 100000
set_option maxHeartbeats 4000000
/-! the checks -/
namespace Lw
open PySem PySem.Spec PyProof.Rows L2
open Kp432 (Fraction Study)
/-- gone by if ok, else refused -/
structure Guard (A : Ad) (H : Hp) (Q : VK) (E : XK) (ok : Prop) (code : Int) : Prop where
  yes : ok → Q .non H
  no : ¬ ok → Bad A H E code
theorem Guard.imp {A : Ad} {H : Hp} {Q : VK} {E : XK} {ok ok' : Prop} {code : Int} (g : Guard A H Q E ok code) (e : ok ↔ ok') : Guard A H Q E ok' code := ⟨fun h => g.yes (e.mpr h), fun h => g.no fun h' => h (e.mp h')⟩
def sp_check_place (K : PySem.W.Frag) (A : Ad) : Sp := fun vs H Q E => ∃ n c : Int, vs = [.int n, .int c] ∧ Guard A H Q E (0 ≤ n ∧ n < c) (-2)
def sp_check_policy (K : PySem.W.Frag) (A : Ad) : Sp := fun vs H Q E => ∃ n : Nat, vs = [nat n] ∧ Guard A H Q E (n < 3) (-2)
def sp_check_context (K : PySem.W.Frag) (A : Ad) : Sp := fun vs H Q E => ∃ (a : Addr) (s : Study) (M : List Addr) (n : Nat), vs = [.ref a, nat n] ∧ StAt A H a s M ∧ Guard A H Q E (n < s.contexts) (-2)
def sp_check_decision (K : PySem.W.Frag) (A : Ad) : Sp := fun vs H Q E => ∃ (a : Addr) (s : Study) (M : List Addr) (n m : Nat), vs = [.ref a, nat n, nat m] ∧ StAt A H a s M ∧ Guard A H Q E (n < s.contexts ∧ m < s.actions) (-2)
def sp_check_range (K : PySem.W.Frag) (A : Ad) : Sp := fun vs H Q E => ∃ n lo hi : Int, vs = [.int n, .int lo, .int hi] ∧ Guard A H Q E (lo ≤ n ∧ n ≤ hi) (-22)
def sp_check_numbers (K : PySem.W.Frag) (A : Ad) : Sp := fun vs H Q E => ∃ (r : Addr) (l : List Nat) (g : Nat), vs = [.ref r, nat g] ∧ NatsAt H r l ∧ Guard A H Q E (∀ n ∈ l, n ≤ g) (-22)
def sp_check_relevance (K : PySem.W.Frag) (A : Ad) : Sp := fun vs H Q E => ∃ (r : Addr) (l : List Nat), vs = [.ref r] ∧ NatsAt H r l ∧ Guard A H Q E (LwM.lOk l 1 1) (-22)
def sp_check_gains (K : PySem.W.Frag) (A : Ad) : Sp := fun vs H Q E => ∃ (r : Addr) (l : List Nat), vs = [.ref r] ∧ NatsAt H r l ∧ Guard A H Q E (LwM.lOk l 1 100) (-22)
def sp_check_ranks (K : PySem.W.Frag) (A : Ad) : Sp := fun vs H Q E => ∃ (r : Addr) (l : List Nat), vs = [.ref r] ∧ NatsAt H r l ∧ Guard A H Q E (LwM.lOk l 2 1000) (-22)
def sp_check_row (K : PySem.W.Frag) (A : Ad) : Sp := fun vs H Q E => ∃ (a r : Addr) (s : Study) (M : List Addr) (l : List Nat) (g : Nat), vs = [.ref a, .ref r, nat g] ∧ StAt A H a s M ∧ NatsAt H r l ∧ Guard A H Q E (l.length = s.actions ∧ ∀ n ∈ l, n ≤ g) (-22)
def sp_check_weights (K : PySem.W.Frag) (A : Ad) : Sp := fun vs H Q E => ∃ (a r : Addr) (s : Study) (M : List Addr) (l : List Nat), vs = [.ref a, .ref r] ∧ StAt A H a s M ∧ NatsAt H r l ∧ 1 ≤ s.actions ∧
  Guard A H Q E (l.length = s.actions ∧ (∀ n ∈ l, n ≤ 1000) ∧ ∃ n ∈ l, 0 < n) (-22)
def sp_check_rewards (K : PySem.W.Frag) (A : Ad) : Sp := fun vs H Q E => ∃ (a r : Addr) (s : Study) (M : List Addr) (l : List Nat), vs = [.ref a, .ref r] ∧ StAt A H a s M ∧ NatsAt H r l ∧ Guard A H Q E (l.length = s.actions ∧ ∀ n ∈ l, n ≤ 100) (-22)
def sp_check_reward (K : PySem.W.Frag) (A : Ad) : Sp := fun vs H Q E => ∃ n : Nat, vs = [nat n] ∧ Guard A H Q E (n ≤ 100) (-22)
def sp_check_estimator (K : PySem.W.Frag) (A : Ad) : Sp := fun vs H Q E => ∃ k l : Nat, vs = [nat k, nat l] ∧ Guard A H Q E (k ≤ 3 ∧ 1 ≤ l ∧ l ≤ 100000) (-22)
def sp_check_room (K : PySem.W.Frag) (A : Ad) : Sp := fun vs H Q E => ∃ (a : Addr) (s : Study) (M : List Addr), vs = [.ref a] ∧ StAt A H a s M ∧ Guard A H Q E (s.events.length < 40) (-28)
def sp_check_events (K : PySem.W.Frag) (A : Ad) : Sp := fun vs H Q E => ∃ (l : Addr) (xs : List V) (k : Nat), vs = [.ref l, nat k] ∧ H l = some (.lst xs) ∧ Guard A H Q E (k ≤ xs.length) (-33)
def sp_check_positive (K : PySem.W.Frag) (A : Ad) : Sp := fun vs H Q E => ∃ (a : Addr) (x : Fraction), vs = [.ref a] ∧ RatAt A H a x ∧ Guard A H Q E (¬ x.num = 0) (-33)
section
variable {P : Program} {w : World} {K : PySem.W.Frag} {mg : Str → Option Value} {base : Heap} {A : Ad}
theorem ok_check_place (T : Txt K mg A) : FnOk P w K mg base (L2.CX P w) 4 A.f_check_place A.d_check_place ["number", "count"] (sp_check_place K A) := by
  refine T.fn_check_place.okX sc_check_place (fun vs H Q E h => ?_) (fun cdv Ar outer s H vs Q E hr h => ?_)
  · obtain ⟨n, c, rfl, _⟩ := h
    rfl
  · obtain ⟨n, c, rfl, g⟩ := h
    refine ⟨_, (pss_one (ps_if (pt_not (pt_chain op_le op_lt pe_int (pv 0) (pv 1))) (pss_one (ps_raise rfl (takes_of rfl rfl rfl rfl) (pmk_err0 T.er_Missing T.oi_Missing T.of_Missing (ok_Missing_init T) (hr.mono (by decide)) (bi_Missing_init T) pass0 rfl T.g_Missing))) pss_nil)), ?_⟩
    refine ⟨_, rfl, _, _, rfl, rfl, _, rfl, ?_⟩
    by_cases h1 : (0 : Int) ≤ n
    · rw [decide_eq_true h1]
      refine iteT ⟨_, rfl, _, _, rfl, rfl, _, rfl, ?_⟩
      by_cases h2 : n < c
      · rw [decide_eq_true h2]
        exact iteF (g.yes ⟨h1, h2⟩)
      · rw [decide_eq_false h2]
        exact iteT (raised T.er_Missing rfl (g.no fun z => h2 z.2))
    · rw [decide_eq_false h1]
      exact iteF ⟨_, rfl, iteT (raised T.er_Missing rfl (g.no fun z => h1 z.1))⟩
theorem ok_check_policy (T : Txt K mg A) : FnOk P w K mg base (L2.CX P w) 5 A.f_check_policy A.d_check_policy ["policy"] (sp_check_policy K A) := by
  refine T.fn_check_policy.okX sc_check_policy (fun vs H Q E h => ?_) (fun cdv Ar outer s H vs Q E hr h => ?_)
  · obtain ⟨n, rfl, _⟩ := h
    rfl
  · obtain ⟨n, rfl, g⟩ := h
    obtain ⟨t_POLICIES, k_POLICIES⟩ := T.k_POLICIES
    refine ⟨_, (pss_one (ps_expr (pe_call (ok_check_place T) (hr.mono (by decide)) rfl T.g_check_place T.fn_check_place.kp (bi_check_place T) .nil (passes_call (takes_of rfl rfl rfl rfl) (fun _ _ _ _ h => h)) (pa_cons (pv 0) (pa_cons (pe_glob (v := .int 3) rfl k_POLICIES ⟨_, rfl⟩) pa_nil))))), ?_⟩
    exact ⟨_, rfl, n, 3, rfl, fun z => g.yes (by omega), fun z => g.no (by omega)⟩
theorem ok_check_context (T : Txt K mg A) : FnOk P w K mg base (L2.CX P w) 5 A.f_check_context A.d_check_context ["study", "context"] (sp_check_context K A) := by
  refine T.fn_check_context.okX sc_check_context (fun vs H Q E h => ?_) (fun cdv Ar outer s H vs Q E hr h => ?_)
  · obtain ⟨a, s, M, n, rfl, _⟩ := h
    rfl
  · obtain ⟨a, s, M, n, rfl, st, g⟩ := h
    refine ⟨_, (pss_one (ps_expr (pe_call (ok_check_place T) (hr.mono (by decide)) rfl T.g_check_place T.fn_check_place.kp (bi_check_place T) .nil (passes_call (takes_of rfl rfl rfl rfl) (fun _ _ _ _ h => h)) (pa_cons (pv 1) (pa_cons (pe_fld (pv 0) rfl) pa_nil))))), ?_⟩
    obtain ⟨ev, po, mo, tw, tr, pl, wl, st⟩ := st.ex
    obtain ⟨dx, ho⟩ := st.obj
    exact ⟨_, rfl, _, rfl, a, _, dx, _, _, rfl, ho, T.cl_Study, T.no_Study_contexts, st_contexts .., n, s.contexts, rfl, fun z => g.yes (by omega), fun z => g.no (by omega)⟩
theorem ok_check_decision (T : Txt K mg A) : FnOk P w K mg base (L2.CX P w) 6 A.f_check_decision A.d_check_decision ["study", "context", "action"] (sp_check_decision K A) := by
  refine T.fn_check_decision.okX sc_check_decision (fun vs H Q E h => ?_) (fun cdv Ar outer s H vs Q E hr h => ?_)
  · obtain ⟨a, s, M, n, m, rfl, _⟩ := h
    rfl
  · obtain ⟨a, s, M, n, m, rfl, st, g⟩ := h
    refine ⟨_, (pss_cons (ps_expr (pe_call (ok_check_context T) (hr.mono (by decide)) rfl T.g_check_context T.fn_check_context.kp (bi_check_context T) .nil (passes_call (takes_of rfl rfl rfl rfl) (fun _ _ _ _ h => h)) (pa_cons (pv 0) (pa_cons (pv 1) pa_nil))))
        (pss_one (ps_expr (pe_call (ok_check_place T) (hr.mono (by decide)) rfl T.g_check_place T.fn_check_place.kp (bi_check_place T) .nil (passes_call (takes_of rfl rfl rfl rfl) (fun _ _ _ _ h => h)) (pa_cons (pv 2) (pa_cons (pe_fld (pv 0) rfl) pa_nil)))))), ?_⟩
    refine ⟨_, rfl, _, rfl, a, s, M, n, rfl, st, fun h1 => ?_, fun h1 => g.no fun z => h1 z.1⟩
    obtain ⟨ev, po, mo, tw, tr, pl, wl, st⟩ := st.ex
    obtain ⟨dx, ho⟩ := st.obj
    refine ⟨_, rfl, _, rfl, a, _, dx, _, _, rfl, ho, T.cl_Study, T.no_Study_actions, st_actions .., m, s.actions, rfl, fun h2 => g.yes ⟨h1, by omega⟩, fun h2 => g.no fun z => h2 (by omega)⟩
theorem ok_check_range (T : Txt K mg A) : FnOk P w K mg base (L2.CX P w) 4 A.f_check_range A.d_check_range ["number", "least", "greatest"] (sp_check_range K A) := by
  refine T.fn_check_range.okX sc_check_range (fun vs H Q E h => ?_) (fun cdv Ar outer s H vs Q E hr h => ?_)
  · obtain ⟨n, lo, hi, rfl, _⟩ := h
    rfl
  · obtain ⟨n, lo, hi, rfl, g⟩ := h
    refine ⟨_, (pss_one (ps_if (pt_not (pt_chain op_le op_le (pv 1) (pv 0) (pv 2))) (pss_one (ps_raise rfl (takes_of rfl rfl rfl rfl) (pmk_err0 T.er_OutOfLimits T.oi_OutOfLimits T.of_OutOfLimits (ok_OutOfLimits_init T) (hr.mono (by decide)) (bi_OutOfLimits_init T) pass0 rfl T.g_OutOfLimits))) pss_nil)), ?_⟩
    refine ⟨_, rfl, _, rfl, _, _, rfl, rfl, _, rfl, ?_⟩
    by_cases h1 : lo ≤ n
    · rw [decide_eq_true h1]
      refine iteT ⟨_, rfl, _, _, rfl, rfl, _, rfl, ?_⟩
      by_cases h2 : n ≤ hi
      · rw [decide_eq_true h2]
        exact iteF (g.yes ⟨h1, h2⟩)
      · rw [decide_eq_false h2]
        exact iteT (raised T.er_OutOfLimits rfl (g.no fun z => h2 z.2))
    · rw [decide_eq_false h1]
      exact iteF ⟨_, rfl, iteT (raised T.er_OutOfLimits rfl (g.no fun z => h1 z.1))⟩
theorem ok_check_numbers (T : Txt K mg A) : FnOk P w K mg base (L2.CX P w) 5 A.f_check_numbers A.d_check_numbers ["row", "greatest"] (sp_check_numbers K A) := by
  refine T.fn_check_numbers.okX sc_check_numbers (fun vs H Q E h => ?_) (fun cdv Ar outer s H vs Q E hr h => ?_)
  · obtain ⟨r, l, b, rfl, _⟩ := h
    rfl
  · obtain ⟨r, l, b, rfl, hl, g⟩ := h
    refine ⟨_, (pss_one (ps_for (passes_of rfl) rfl (pi_list (pv 0)) (pg_name (i := 2) sc_check_numbers.nd rfl (Or.inl rfl)) (pss_one (ps_expr (pe_call (ok_check_range T) (hr.mono (by decide)) rfl T.g_check_range T.fn_check_range.kp (bi_check_range T) .nil (passes_call (takes_of rfl rfl rfl rfl) (fun _ _ _ _ h => h)) (pa_cons (pv 2) (pa_cons pe_int (pa_cons (pv 1) pa_nil)))))))), ?_⟩
    refine ⟨_, rfl, r, rfl, ⟨_, SqL.of hl⟩, for_list (K := K) (a := r) (xs := l.map nat) (fun i σ H' => ∃ v : Option V, σ = [some (.ref r), some (nat b), v] ∧ H' = H ∧ ∀ n ∈ l.take i, n ≤ b)
      ⟨none, rfl, rfl, by simp⟩ (fun i σ H' _ hw => ?_) ?_ ?_⟩
    · obtain ⟨_, _, rfl, _⟩ := hw
      exact SqL.of hl
    · rintro i y σ H' hi ⟨v, rfl, rfl, hb⟩
      obtain ⟨n, hn, rfl⟩ : ∃ n, l[i]? = some n ∧ y = nat n := by
        rw [List.getElem?_map] at hi
        cases e : l[i]? with
        | none =>
          rw [e] at hi
          cases hi
        | some n =>
          rw [e] at hi
          exact ⟨n, rfl, (Option.some.inj hi).symm⟩
      refine ⟨_, rfl, _, rfl, n, 0, b, rfl, fun h2 => ⟨some (nat n), rfl, rfl, fun m hm => ?_⟩, fun h2 => g.no fun z => h2 ?_⟩
      · rw [take_snoc hn] at hm
        rcases List.mem_append.mp hm with hm | hm
        · exact hb m hm
        · rw [List.mem_singleton.mp hm]
          omega
      · have := z n (List.mem_of_getElem? hn)
        omega
    · rintro σ H' ⟨v, rfl, rfl, hb⟩
      rw [List.length_map, List.take_length] at hb
      exact g.yes hb
theorem ok_check_row (T : Txt K mg A) : FnOk P w K mg base (L2.CX P w) 6 A.f_check_row A.d_check_row ["study", "row", "greatest"] (sp_check_row K A) := by
  refine T.fn_check_row.okX sc_check_row (fun vs H Q E h => ?_) (fun cdv Ar outer s H vs Q E hr h => ?_)
  · obtain ⟨a, r, s, M, l, b, rfl, _⟩ := h
    rfl
  · obtain ⟨a, r, s, M, l, b, rfl, st, hl, g⟩ := h
    refine ⟨_, (pss_cons (ps_expr (pe_call (ok_check_range T) (hr.mono (by decide)) rfl T.g_check_range T.fn_check_range.kp (bi_check_range T) .nil (passes_call (takes_of rfl rfl rfl rfl) (fun _ _ _ _ h => h)) (pa_cons (pe_callB call_len_seq (by rfl) T.n_len PySem.boot_len (pa_cons (pv 1) pa_nil)) (pa_cons (pe_fld (pv 0) rfl) (pa_cons (pe_fld (pv 0) rfl) pa_nil)))))
        (pss_one (ps_expr (pe_call (ok_check_numbers T) (hr.mono (by decide)) rfl T.g_check_numbers T.fn_check_numbers.kp (bi_check_numbers T) .nil (passes_call (takes_of rfl rfl rfl rfl) (fun _ _ _ _ h => h)) (pa_cons (pv 1) (pa_cons (pv 2) pa_nil)))))), ?_⟩
    obtain ⟨ev, po, mo, tw, tr, pl, wl, st⟩ := st.ex
    obtain ⟨dx, ho⟩ := st.obj
    refine ⟨_, rfl, r, _, rfl, .inl (SqL.of hl), _, rfl, a, _, dx, _, _, rfl, ho, T.cl_Study, T.no_Study_actions, st_actions .., _, rfl, a, _, dx, _, _, rfl, ho, T.cl_Study, T.no_Study_actions, st_actions ..,
      _, _, _, rfl, fun h1 => ?_, fun h1 => g.no fun z => h1 ?_⟩
    · have hlen : l.length = s.actions := by
        rw [List.length_map] at h1
        omega
      exact ⟨_, rfl, _, rfl, r, l, b, rfl, hl, fun h2 => g.yes ⟨hlen, h2⟩, fun h2 => g.no fun z => h2 z.2⟩
    · rw [List.length_map]
      omega
theorem ok_check_relevance (T : Txt K mg A) : FnOk P w K mg base (L2.CX P w) 6 A.f_check_relevance A.d_check_relevance ["relevance"] (sp_check_relevance K A) := by
  refine T.fn_check_relevance.okX sc_check_relevance (fun vs H Q E h => ?_) (fun cdv Ar outer s H vs Q E hr h => ?_)
  · obtain ⟨r, l, rfl, _⟩ := h
    rfl
  · obtain ⟨r, l, rfl, hl, g⟩ := h
    obtain ⟨t_MOST_RANKS, k_MOST_RANKS⟩ := T.k_MOST_RANKS
    refine ⟨_, (pss_cons (ps_expr (pe_call (ok_check_range T) (hr.mono (by decide)) rfl T.g_check_range T.fn_check_range.kp (bi_check_range T) .nil (passes_call (takes_of rfl rfl rfl rfl) (fun _ _ _ _ h => h)) (pa_cons (pe_callB call_len_seq (by rfl) T.n_len PySem.boot_len (pa_cons (pv 0) pa_nil)) (pa_cons pe_int (pa_cons (pe_glob (v := .int 12) rfl k_MOST_RANKS ⟨_, rfl⟩) pa_nil)))))
        (pss_one (ps_expr (pe_call (ok_check_numbers T) (hr.mono (by decide)) rfl T.g_check_numbers T.fn_check_numbers.kp (bi_check_numbers T) .nil (passes_call (takes_of rfl rfl rfl rfl) (fun _ _ _ _ h => h)) (pa_cons (pv 0) (pa_cons pe_int pa_nil)))))), ?_⟩
    refine ⟨_, rfl, r, _, rfl, .inl (SqL.of hl), _, _, _, rfl, fun h1 => ?_, fun h1 => g.no fun z => h1 ?_⟩
    · rw [List.length_map] at h1
      exact ⟨_, rfl, r, l, 1, rfl, hl, fun h2 => g.yes ⟨by omega, by omega, h2⟩, fun h2 => g.no fun z => h2 z.2.2⟩
    · have z1 := z.1
      have z2 := z.2.1
      rw [List.length_map]
      omega
theorem ok_check_gains (T : Txt K mg A) : FnOk P w K mg base (L2.CX P w) 6 A.f_check_gains A.d_check_gains ["gains"] (sp_check_gains K A) := by
  refine T.fn_check_gains.okX sc_check_gains (fun vs H Q E h => ?_) (fun cdv Ar outer s H vs Q E hr h => ?_)
  · obtain ⟨r, l, rfl, _⟩ := h
    rfl
  · obtain ⟨r, l, rfl, hl, g⟩ := h
    obtain ⟨t_MOST_RANKS, k_MOST_RANKS⟩ := T.k_MOST_RANKS
    obtain ⟨t_MOST_GAIN, k_MOST_GAIN⟩ := T.k_MOST_GAIN
    refine ⟨_, (pss_cons (ps_expr (pe_call (ok_check_range T) (hr.mono (by decide)) rfl T.g_check_range T.fn_check_range.kp (bi_check_range T) .nil (passes_call (takes_of rfl rfl rfl rfl) (fun _ _ _ _ h => h)) (pa_cons (pe_callB call_len_seq (by rfl) T.n_len PySem.boot_len (pa_cons (pv 0) pa_nil)) (pa_cons pe_int (pa_cons (pe_glob (v := .int 12) rfl k_MOST_RANKS ⟨_, rfl⟩) pa_nil)))))
        (pss_one (ps_expr (pe_call (ok_check_numbers T) (hr.mono (by decide)) rfl T.g_check_numbers T.fn_check_numbers.kp (bi_check_numbers T) .nil (passes_call (takes_of rfl rfl rfl rfl) (fun _ _ _ _ h => h)) (pa_cons (pv 0) (pa_cons (pe_glob (v := .int 100) rfl k_MOST_GAIN ⟨_, rfl⟩) pa_nil)))))), ?_⟩
    refine ⟨_, rfl, r, _, rfl, .inl (SqL.of hl), _, _, _, rfl, fun h1 => ?_, fun h1 => g.no fun z => h1 ?_⟩
    · rw [List.length_map] at h1
      exact ⟨_, rfl, r, l, 100, rfl, hl, fun h2 => g.yes ⟨by omega, by omega, h2⟩, fun h2 => g.no fun z => h2 z.2.2⟩
    · have z1 := z.1
      have z2 := z.2.1
      rw [List.length_map]
      omega
theorem ok_check_ranks (T : Txt K mg A) : FnOk P w K mg base (L2.CX P w) 6 A.f_check_ranks A.d_check_ranks ["ranks"] (sp_check_ranks K A) := by
  refine T.fn_check_ranks.okX sc_check_ranks (fun vs H Q E h => ?_) (fun cdv Ar outer s H vs Q E hr h => ?_)
  · obtain ⟨r, l, rfl, _⟩ := h
    rfl
  · obtain ⟨r, l, rfl, hl, g⟩ := h
    obtain ⟨t_MOST_RANKS, k_MOST_RANKS⟩ := T.k_MOST_RANKS
    obtain ⟨t_MOST_RANK_NUMBER, k_MOST_RANK_NUMBER⟩ := T.k_MOST_RANK_NUMBER
    refine ⟨_, (pss_cons (ps_expr (pe_call (ok_check_range T) (hr.mono (by decide)) rfl T.g_check_range T.fn_check_range.kp (bi_check_range T) .nil (passes_call (takes_of rfl rfl rfl rfl) (fun _ _ _ _ h => h)) (pa_cons (pe_callB call_len_seq (by rfl) T.n_len PySem.boot_len (pa_cons (pv 0) pa_nil)) (pa_cons pe_int (pa_cons (pe_glob (v := .int 12) rfl k_MOST_RANKS ⟨_, rfl⟩) pa_nil)))))
        (pss_one (ps_expr (pe_call (ok_check_numbers T) (hr.mono (by decide)) rfl T.g_check_numbers T.fn_check_numbers.kp (bi_check_numbers T) .nil (passes_call (takes_of rfl rfl rfl rfl) (fun _ _ _ _ h => h)) (pa_cons (pv 0) (pa_cons (pe_glob (v := .int 1000) rfl k_MOST_RANK_NUMBER ⟨_, rfl⟩) pa_nil)))))), ?_⟩
    refine ⟨_, rfl, r, _, rfl, .inl (SqL.of hl), _, _, _, rfl, fun h1 => ?_, fun h1 => g.no fun z => h1 ?_⟩
    · rw [List.length_map] at h1
      exact ⟨_, rfl, r, l, 1000, rfl, hl, fun h2 => g.yes ⟨by omega, by omega, h2⟩, fun h2 => g.no fun z => h2 z.2.2⟩
    · have z1 := z.1
      have z2 := z.2.1
      rw [List.length_map]
      omega
theorem ok_check_weights (T : Txt K mg A) : FnOk P w K mg base (L2.CX P w) 7 A.f_check_weights A.d_check_weights ["study", "weights"] (sp_check_weights K A) := by
  refine T.fn_check_weights.okX sc_check_weights (fun vs H Q E h => ?_) (fun cdv Ar outer s H vs Q E hr h => ?_)
  · obtain ⟨a, r, s, M, l, rfl, _⟩ := h
    rfl
  · obtain ⟨a, r, s, M, l, rfl, st, hl, a1, g⟩ := h
    obtain ⟨t_MOST_WEIGHT, k_MOST_WEIGHT⟩ := T.k_MOST_WEIGHT
    refine ⟨_, (pss_cons (ps_expr (pe_call (ok_check_row T) (hr.mono (by decide)) rfl T.g_check_row T.fn_check_row.kp (bi_check_row T) .nil (passes_call (takes_of rfl rfl rfl rfl) (fun _ _ _ _ h => h)) (pa_cons (pv 0) (pa_cons (pv 1) (pa_cons (pe_glob (v := .int 1000) rfl k_MOST_WEIGHT ⟨_, rfl⟩) pa_nil)))))
        (pss_one (ps_if (pt_cmpR op_eq (pe_callB (cr_max (by rfl)) (by rfl) T.n_max (by decide +kernel) (pa_cons (pv 1) pa_nil)) pe_int (nomark _)) (pss_one (ps_raise rfl (takes_of rfl rfl rfl rfl) (pmk_err0 T.er_OutOfLimits T.oi_OutOfLimits T.of_OutOfLimits (ok_OutOfLimits_init T) (hr.mono (by decide)) (bi_OutOfLimits_init T) pass0 rfl T.g_OutOfLimits))) pss_nil))), ?_⟩
    refine ⟨_, rfl, _, rfl, a, r, s, M, l, 1000, rfl, st, hl, fun h1 => ?_, fun h1 => g.no fun z => h1 ⟨z.1, z.2.1⟩⟩
    have em : l.map nat = (l.map fun n : Nat => (n : Int)).map V.int := by
      rw [List.map_map]
      rfl
    have hl' : H r = some (.lst ((l.map fun n : Nat => (n : Int)).map V.int)) := by
      rw [← em]
      exact hl
    refine ⟨_, rfl, r, _, rfl, SqL.of hl', (by rw [List.length_map, h1.1]; exact a1), fun m hm hmax => ?_⟩
    refine ⟨rfl, _, rfl, ?_⟩
    obtain ⟨k, hk, rfl⟩ := List.mem_map.mp hm
    rw [dec_int]
    by_cases z : k = 0
    · subst z
      refine iteT (raised T.er_OutOfLimits rfl (g.no fun q => ?_))
      obtain ⟨n, hn, h0⟩ := q.2.2
      have := hmax _ (List.mem_map.mpr ⟨n, hn, rfl⟩)
      omega
    · have e0 : ((k : Int) == 0) = false := by
        rw [beq_eq_false_iff_ne]
        omega
      rw [e0]
      exact iteF (g.yes ⟨h1.1, h1.2, k, hk, by omega⟩)
theorem ok_check_rewards (T : Txt K mg A) : FnOk P w K mg base (L2.CX P w) 7 A.f_check_rewards A.d_check_rewards ["study", "rewards"] (sp_check_rewards K A) := by
  refine T.fn_check_rewards.okX sc_check_rewards (fun vs H Q E h => ?_) (fun cdv Ar outer s H vs Q E hr h => ?_)
  · obtain ⟨a, r, s, M, l, rfl, _⟩ := h
    rfl
  · obtain ⟨a, r, s, M, l, rfl, st, hl, g⟩ := h
    obtain ⟨t_MOST_REWARD, k_MOST_REWARD⟩ := T.k_MOST_REWARD
    refine ⟨_, (pss_one (ps_expr (pe_call (ok_check_row T) (hr.mono (by decide)) rfl T.g_check_row T.fn_check_row.kp (bi_check_row T) .nil (passes_call (takes_of rfl rfl rfl rfl) (fun _ _ _ _ h => h)) (pa_cons (pv 0) (pa_cons (pv 1) (pa_cons (pe_glob (v := .int 100) rfl k_MOST_REWARD ⟨_, rfl⟩) pa_nil)))))), ?_⟩
    exact ⟨_, rfl, _, rfl, a, r, s, M, l, 100, rfl, st, hl, fun z => g.yes z, fun z => g.no z⟩
theorem ok_check_reward (T : Txt K mg A) : FnOk P w K mg base (L2.CX P w) 5 A.f_check_reward A.d_check_reward ["reward"] (sp_check_reward K A) := by
  refine T.fn_check_reward.okX sc_check_reward (fun vs H Q E h => ?_) (fun cdv Ar outer s H vs Q E hr h => ?_)
  · obtain ⟨n, rfl, _⟩ := h
    rfl
  · obtain ⟨n, rfl, g⟩ := h
    obtain ⟨t_MOST_REWARD, k_MOST_REWARD⟩ := T.k_MOST_REWARD
    refine ⟨_, (pss_one (ps_expr (pe_call (ok_check_range T) (hr.mono (by decide)) rfl T.g_check_range T.fn_check_range.kp (bi_check_range T) .nil (passes_call (takes_of rfl rfl rfl rfl) (fun _ _ _ _ h => h)) (pa_cons (pv 0) (pa_cons pe_int (pa_cons (pe_glob (v := .int 100) rfl k_MOST_REWARD ⟨_, rfl⟩) pa_nil)))))), ?_⟩
    exact ⟨_, rfl, n, 0, 100, rfl, fun z => g.yes (by omega), fun z => g.no (by omega)⟩
theorem ok_check_estimator (T : Txt K mg A) : FnOk P w K mg base (L2.CX P w) 5 A.f_check_estimator A.d_check_estimator ["kind", "limit"] (sp_check_estimator K A) := by
  refine T.fn_check_estimator.okX sc_check_estimator (fun vs H Q E h => ?_) (fun cdv Ar outer s H vs Q E hr h => ?_)
  · obtain ⟨n, m, rfl, _⟩ := h
    rfl
  · obtain ⟨n, m, rfl, g⟩ := h
    obtain ⟨t_MOST_KIND, k_MOST_KIND⟩ := T.k_MOST_KIND
    obtain ⟨t_MOST_LIMIT, k_MOST_LIMIT⟩ := T.k_MOST_LIMIT
    refine ⟨_, (pss_cons (ps_expr (pe_call (ok_check_range T) (hr.mono (by decide)) rfl T.g_check_range T.fn_check_range.kp (bi_check_range T) .nil (passes_call (takes_of rfl rfl rfl rfl) (fun _ _ _ _ h => h)) (pa_cons (pv 0) (pa_cons pe_int (pa_cons (pe_glob (v := .int 3) rfl k_MOST_KIND ⟨_, rfl⟩) pa_nil)))))
        (pss_one (ps_expr (pe_call (ok_check_range T) (hr.mono (by decide)) rfl T.g_check_range T.fn_check_range.kp (bi_check_range T) .nil (passes_call (takes_of rfl rfl rfl rfl) (fun _ _ _ _ h => h)) (pa_cons (pv 1) (pa_cons pe_int (pa_cons (pe_glob (v := .int 100000) rfl k_MOST_LIMIT ⟨_, rfl⟩) pa_nil))))))), ?_⟩
    refine ⟨_, rfl, n, 0, 3, rfl, fun h1 => ?_, fun h1 => g.no (by omega)⟩
    exact ⟨_, rfl, m, 1, 100000, rfl, fun h2 => g.yes (by omega), fun h2 => g.no (by omega)⟩
theorem ok_check_room (T : Txt K mg A) : FnOk P w K mg base (L2.CX P w) 4 A.f_check_room A.d_check_room ["study"] (sp_check_room K A) := by
  refine T.fn_check_room.okX sc_check_room (fun vs H Q E h => ?_) (fun cdv Ar outer s H vs Q E hr h => ?_)
  · obtain ⟨a, s, M, rfl, _⟩ := h
    rfl
  · obtain ⟨a, s, M, rfl, st, g⟩ := h
    obtain ⟨t_MOST_EVENTS, k_MOST_EVENTS⟩ := T.k_MOST_EVENTS
    refine ⟨_, (pss_one (ps_if (pt_cmpR op_ge (pe_callB call_len_seq (by rfl) T.n_len PySem.boot_len (pa_cons (pe_fld (pv 0) rfl) pa_nil)) (pe_glob (v := .int 40) rfl k_MOST_EVENTS ⟨_, rfl⟩) (nomark _)) (pss_one (ps_raise rfl (takes_of rfl rfl rfl rfl) (pmk_err0 T.er_LogFull T.oi_LogFull T.of_LogFull (ok_LogFull_init T) (hr.mono (by decide)) (bi_LogFull_init T) pass0 rfl T.g_LogFull))) pss_nil)), ?_⟩
    obtain ⟨ev, po, mo, tw, tr, pl, wl, st⟩ := st.ex
    obtain ⟨dx, ho⟩ := st.obj
    obtain ⟨as, h1, h2, h3⟩ := st.evs.ex
    refine ⟨_, rfl, a, _, dx, _, _, rfl, ho, T.cl_Study, T.no_Study_events, st_events .., ev, _, rfl, .inl (SqL.of h1), _, _, rfl, rfl, _, rfl, ?_⟩
    rw [List.length_map, h2]
    by_cases c : (40 : Int) ≤ (s.events.length : Int)
    · rw [decide_eq_true c]
      exact iteT (raised T.er_LogFull rfl (g.no (by omega)))
    · rw [decide_eq_false c]
      exact iteF (g.yes (by omega))
theorem ok_check_events (T : Txt K mg A) : FnOk P w K mg base (L2.CX P w) 4 A.f_check_events A.d_check_events ["events", "least"] (sp_check_events K A) := by
  refine T.fn_check_events.okX sc_check_events (fun vs H Q E h => ?_) (fun cdv Ar outer s H vs Q E hr h => ?_)
  · obtain ⟨l, xs, k, rfl, _⟩ := h
    rfl
  · obtain ⟨l, xs, k, rfl, hl, g⟩ := h

    refine ⟨_, (pss_one (ps_if (pt_cmpR op_lt (pe_callB call_len_seq (by rfl) T.n_len PySem.boot_len (pa_cons (pv 0) pa_nil)) (pv 1) (nomark _)) (pss_one (ps_raise rfl (takes_of rfl rfl rfl rfl) (pmk_err0 T.er_NotEnough T.oi_NotEnough T.of_NotEnough (ok_NotEnough_init T) (hr.mono (by decide)) (bi_NotEnough_init T) pass0 rfl T.g_NotEnough))) pss_nil)), ?_⟩
    refine ⟨_, rfl, l, _, rfl, .inl (SqL.of hl), _, rfl, _, _, rfl, rfl, _, rfl, ?_⟩
    by_cases c : (xs.length : Int) < (k : Int)
    · rw [decide_eq_true c]
      exact iteT (raised T.er_NotEnough rfl (g.no (by omega)))
    · rw [decide_eq_false c]
      exact iteF (g.yes (by omega))
theorem ok_check_positive (T : Txt K mg A) : FnOk P w K mg base (L2.CX P w) 4 A.f_check_positive A.d_check_positive ["ratio"] (sp_check_positive K A) := by
  refine T.fn_check_positive.okX sc_check_positive (fun vs H Q E h => ?_) (fun cdv Ar outer s H vs Q E hr h => ?_)
  · obtain ⟨a, x, rfl, _⟩ := h
    rfl
  · obtain ⟨a, x, rfl, ⟨dx, hx⟩, g⟩ := h
    refine ⟨_, (pss_one (ps_if (pt_cmpR op_eq (pe_fld (pv 0) rfl) pe_int (nomark _)) (pss_one (ps_raise rfl (takes_of rfl rfl rfl rfl) (pmk_err0 T.er_NotEnough T.oi_NotEnough T.of_NotEnough (ok_NotEnough_init T) (hr.mono (by decide)) (bi_NotEnough_init T) pass0 rfl T.g_NotEnough))) pss_nil)), ?_⟩
    refine ⟨_, rfl, a, _, dx, _, _, rfl, hx, T.cl_Ratio, T.no_Ratio_top, rat_top x, rfl, _, rfl, ?_⟩
    rw [dec_int]
    by_cases c : x.num = 0
    · rw [beq_iff_eq.mpr c]
      exact iteT (raised T.er_NotEnough rfl (g.no fun z => z c))
    · rw [beq_eq_false_iff_ne.mpr c]
      exact iteF (g.yes c)
end
end Lw
end
/-! LwComp -/
section
set_option Elab.async false
set_option linter.all false
set_option maxRecDepth 100000
set_option maxHeartbeats 4000000
/-! comprehensions that leave all else as it was -/
namespace Lw
open PySem PySem.Spec PyProof.Rows L2
open Kp432 (Fraction Study)
/-! ahead to the next statement -/
theorem to_name {i : Nat} {v : V} {σ : L2.St} {H : Hp} {D : L2.St → Hp → Prop} (h : D (σ.set i (some v)) H) : gName i v σ H D := h
theorem to_nx {f : L2.St → Hp → Prop} {r : VK} {b c : L2.St → Hp → Prop} {σ : L2.St} {H : Hp} (h : f σ H) : (Ends.mk f r b c).nx σ H := h
theorem to_make {C : Addr} {sp : Sp} {ds : List V} {E : XK} {t : TA} {σ : L2.St} {H : Hp} {Q : VK} (h : t σ H fun vs H1 => ∀ x dx, H1 x = none → H1 dx = none → dx ≠ x → sp (.ref x :: (vs ++ ds)) (L2.upd (L2.upd H1 dx (.own x)) x (.ins C dx [])) (fun v H2 => v = .non ∧ Q (.ref x) H2) E) : tMake C sp ds E t σ H Q := h
theorem to_call {sp : Sp} {ds : List V} {E : XK} {t : TA} {σ : L2.St} {H : Hp} {Q : VK} (h : t σ H fun vs H1 => sp (vs ++ ds) H1 Q E) : tCall sp ds E t σ H Q := h
theorem to_cb {r : List V → Hp → VK → Prop} {t : TA} {σ : L2.St} {H : Hp} {Q : VK} (h : t σ H fun vs H1 => r vs H1 Q) : tCB r t σ H Q := h
theorem to_cons {ta : TE} {tr : TA} {σ : L2.St} {H : Hp} {Q : List V → Hp → Prop} (h : ta σ H fun x H1 => tr σ H1 fun xs H2 => Q (x :: xs) H2) : tCons ta tr σ H Q := h
theorem to_fld {K : PySem.W.Frag} {ta tv : TE} {f : Str} {D : Ends} {σ : L2.St} {H : Hp} (h : tv σ H fun y H1 => ta σ H1 fun x H2 => ∃ a C dx fs, x = .ref a ∧ H2 a = some (.ins C dx fs) ∧ Cls K C ∧ NoAttr K C f ∧ fs.length < 1000 ∧ D.nx σ (L2.upd H2 a (.ins C dx (putF f y fs)))) : sFld K ta tv f D σ H := h
theorem to_seq {t u : TS} {D : Ends} {σ : L2.St} {H : Hp} (h : t { D with nx := u D } σ H) : tSeq t u D σ H := h
theorem to_asg {te : TE} {g : TG} {D : Ends} {σ : L2.St} {H : Hp} (h : te σ H fun v H1 => g v σ H1 D.nx) : tAsg te g D σ H := h
theorem to_ret {te : TE} {D : Ends} {σ : L2.St} {H : Hp} (h : te σ H D.rt) : tRet te D σ H := h
/-- a list of values, each of which is what S says of the data's item -/
structure LstV {β : Type} (S : Hp → V → β → Prop) (H : Hp) (l : Addr) (ys : List β) : Prop where
  ex : ∃ vs : List V, H l = some (.lst vs) ∧ vs.length = ys.length ∧ ∀ (i : Nat) (v : V) (y : β), vs[i]? = some v → ys[i]? = some y → S H v y
/-- S at a reference -/
def RefS {β : Type} (R : Hp → Addr → β → Prop) : Hp → V → β → Prop := fun H v y => ∃ a, v = .ref a ∧ R H a y
theorem LstV.refs {β : Type} {R : Hp → Addr → β → Prop} {H : Hp} {l : Addr} {ys : List β} (h : LstV (RefS R) H l ys) : LstAt R H l ys := by
  obtain ⟨vs, h1, h2, h3⟩ := h.ex
  have all : ∀ (vs : List V) (ys : List β), vs.length = ys.length → (∀ (i : Nat) (v : V) (y : β), vs[i]? = some v → ys[i]? = some y → RefS R H v y) →
      ∃ as : List Addr, vs = as.map V.ref ∧ as.length = ys.length ∧ ∀ (i : Nat) (a : Addr) (y : β), as[i]? = some a → ys[i]? = some y → R H a y := by
    intro vs
    induction vs with
    | nil =>
      intro ys hl _
      exact ⟨[], rfl, hl, fun i a y ha => by simp at ha⟩
    | cons v vs ih =>
      intro ys hl hs
      cases ys with
      | nil => simp at hl
      | cons y ys =>
        obtain ⟨a, ea, ra⟩ := hs 0 v y rfl rfl
        obtain ⟨as, e, el, er⟩ := ih ys (by simpa using hl) fun i w z hw hz => hs (i + 1) w z (by simpa using hw) (by simpa using hz)
        refine ⟨a :: as, by rw [ea, e]; rfl, by simpa using el, fun i b z hb hz => ?_⟩
        cases i with
        | zero =>
          have e1 : a = b := Option.some.inj hb
          have e2 : y = z := Option.some.inj hz
          rw [← e1, ← e2]
          exact ra
        | succ i => exact er i b z (by simpa using hb) (by simpa using hz)
  obtain ⟨as, e, el, er⟩ := all vs ys h2 h3
  exact ⟨as, by rw [h1, e], el, er⟩
theorem LstV.vals {β : Type} {f : β → V} {H : Hp} {l : Addr} {ys : List β} (h : LstV (fun _ v y => v = f y) H l ys) : H l = some (.lst (ys.map f)) := by
  obtain ⟨vs, h1, h2, h3⟩ := h.ex
  have e : vs = ys.map f := by
    refine List.ext_getElem? fun i => ?_
    rw [List.getElem?_map]
    cases hv : vs[i]? with
    | none =>
      have := List.getElem?_eq_none_iff.mp hv
      rw [List.getElem?_eq_none (by omega)]
      rfl
    | some v =>
      obtain ⟨y, hy⟩ := get_of_len h2 hv
      rw [hy, h3 i v y hv hy]
      rfl
  rw [h1, e]
theorem size1000 {n : Nat} (h : n ≤ 1000) : n < sizeLine := Nat.lt_of_le_of_lt h (by decide)
theorem Same.upd_new {H H' : Hp} {D : Addr} {o : HO} (s : Same H H') (n : H D = none) : Same H (L2.upd H' D o) := fun b u e => by
  rw [upd_ne (ne_of_none e n)]
  exact s b u e
theorem Same.new {H : Hp} {D : Addr} {o : HO} (n : H D = none) : Same H (L2.upd H D o) := Same.upd_new (Same.refl H) n
/-- what S says stays where another list is changed -/
structure Stays {β : Type} (S : Hp → V → β → Prop) : Prop where
  same : ∀ {H1 H2 : Hp} {v : V} {y : β}, Same H1 H2 → S H1 v y → S H2 v y
  but : ∀ {H1 : Hp} {m : Addr} {xs zs : List V} {v : V} {y : β}, H1 m = some (.lst xs) → v ≠ .ref m → S H1 v y → S (L2.upd H1 m (.lst zs)) v y
/-- one item a turn, no test -/
theorem comp_of {J : It} {n : Nat} {G : Hp → Prop} {Y : Nat → Hp → V → Hp → Prop} (w : Walk J n G Y) {wi : TI} {g : TG} {te : TE} {vs : List Nat} {σ : L2.St} {H : Hp} {Q : VK} {β : Type} {S : Hp → V → β → Prop} (st : Stays S) (ys : List β)
    (hlen : ys.length = n) (small : n ≤ 1000) (hG : ∀ H1, Same H H1 → G H1) (hwi : ∀ R : It → Hp → Prop, R J H → wi σ H R)
    (step : ∀ (i : Nat) (y : β) (x : V) (H1 H2 : Hp) (D : Addr), ys[i]? = some y → Same H H1 → (∃ acc, H1 D = some (.lst acc)) → Y i H1 x H2 → ∀ R : VK, (∀ v H3, Same H1 H3 → S H3 v y → v ≠ .ref D → R v H3) →
      g x (wipe σ vs) H2 fun σ2 H4 => wipe σ2 vs = wipe σ vs ∧ te σ2 H4 R)
    (k : ∀ D H1, H D = none → Same H H1 → LstV S H1 D ys → Q (.ref D) H1) : tLc wi g tYes te vs σ H Q := by
  refine hwi _ fun D nD => lc_it w (fun i H1 => Same H H1 ∧ ∃ acc : List V, H1 D = some (.lst acc) ∧ acc.length = i ∧ ∀ (j : Nat) (v : V) (y : β), acc[j]? = some v → ys[j]? = some y → S H1 v y ∧ v ≠ .ref D) ?_ ?_ ?_ ?_
  · exact ⟨Same.new nD, [], upd_same, rfl, fun j v y hv => by simp at hv⟩
  · rintro i H1 hi ⟨s1, _⟩
    exact hG H1 s1
  · rintro i x H1 H2 hi ⟨s1, acc, hD, hl, hS⟩ hY
    obtain ⟨y, hy⟩ : ∃ y, ys[i]? = some y := ⟨ys[i]'(by omega), List.getElem?_eq_getElem (by omega)⟩
    refine step i y x H1 H2 D hy s1 ⟨acc, hD⟩ hY _ fun v H3 s3 hv nv => ?_
    have hD3 := s3 _ _ hD
    refine ⟨acc, hD3, by rw [hl]; exact size1000 (by omega), Same.upd_new (s1.trans s3) nD, acc ++ [v], upd_same, by rw [List.length_append, hl]; rfl, ?_⟩
    intro j u z hu hz
    by_cases hj : j < acc.length
    · rw [List.getElem?_append_left hj] at hu
      obtain ⟨q1, q2⟩ := hS j u z hu hz
      exact ⟨st.but hD3 q2 (st.same s3 q1), q2⟩
    · rw [List.getElem?_append_right (by omega)] at hu
      have e0 : j - acc.length = 0 := by
        have := (List.getElem?_eq_some_iff.mp hu).1
        simp at this
        omega
      rw [e0] at hu
      have eu : v = u := Option.some.inj hu
      have ej : j = i := by omega
      subst ej
      rw [hy] at hz
      have ez : y = z := Option.some.inj hz
      subst eu ez
      exact ⟨st.but hD3 nv hv, nv⟩
  · rintro H1 ⟨s1, acc, hD, hl, hS⟩
    exact k D H1 nD s1 ⟨acc, hD, by omega, fun i v y hv hy => (hS i v y hv hy).1⟩
/-- the items of a list that a test lets through -/
theorem comp_filter {α : Type} {R : Hp → Addr → α → Prop} {K : PySem.W.Frag} {l : Addr} {as : List Addr} {xs : List α} {j : Nat} {tl : TE} {tt : TT} {σ : L2.St} {H : Hp} {Q : VK} (f : α → Bool) (hj : j < σ.length)
    (hl : H l = some (.lst (as.map V.ref))) (hlen : as.length = xs.length) (small : xs.length ≤ 1000) (htl : ∀ T : VK, T (.ref l) H → tl σ H T)
    (hR : ∀ (i : Nat) (a : Addr) (x : α), as[i]? = some a → xs[i]? = some x → R H a x)
    (step : ∀ (a : Addr) (x : α) (H1 : Hp), R H a x → x ∈ xs → Same H H1 → ∀ T : Bool → Hp → Prop, T (f x) H1 → tt ((wipe σ [j]).set j (some (.ref a))) H1 T)
    (k : ∀ D H1, H D = none → Same H H1 → (∃ bs : List Addr, H1 D = some (.lst (bs.map V.ref)) ∧ bs.length = (xs.filter f).length ∧ (∀ a ∈ bs, a ∈ as) ∧ ∀ (i : Nat) (a : Addr) (x : α), bs[i]? = some a → (xs.filter f)[i]? = some x → R H a x) → Q (.ref D) H1) :
    tLc (iList K tl) (gName j) tt (tVar j) [j] σ H Q := by
  refine htl _ ⟨l, rfl, ⟨_, SqL.of hl⟩, fun D nD => lc_it (walk_list (K := K) (a := l) (xs := as.map V.ref)) (fun i H1 => Same H H1 ∧ ∃ bs : List Addr, H1 D = some (.lst (bs.map V.ref)) ∧ bs.length = ((xs.take i).filter f).length ∧ (∀ a ∈ bs, a ∈ as) ∧
    ∀ (m : Nat) (a : Addr) (x : α), bs[m]? = some a → ((xs.take i).filter f)[m]? = some x → R H a x) ?_ ?_ ?_ ?_⟩
  · exact ⟨Same.new nD, [], upd_same, rfl, fun a ha => absurd ha (by simp), fun m a x hm => by simp at hm⟩
  · rintro i H1 hi ⟨s1, _⟩
    exact SqL.of (s1 _ _ hl)
  · rintro i y H1 H2 hi ⟨s1, bs, hD, hb, hin, hS⟩ ⟨rfl, hy⟩
    obtain ⟨a, ha, rfl⟩ := ref_at hy
    obtain ⟨x, hx⟩ := get_of_len hlen ha
    have ew : wipe ((wipe σ [j]).set j (some (V.ref a))) [j] = wipe σ [j] := by
      show ((σ.set j none).set j (some (V.ref a))).set j none = σ.set j none
      rw [List.set_set, List.set_set]
    refine ⟨ew, step a x _ (hR i a x ha hx) (List.mem_of_getElem? hx) s1 _ ?_⟩
    have et := take_snoc hx
    by_cases c : f x = true
    · rw [c]
      refine iteT ⟨V.ref a, ?_, bs.map V.ref, hD, ?_, Same.upd_new s1 nD, bs ++ [a], ?_, ?_, ?_, ?_⟩
      · show ((σ.set j none).set j (some (V.ref a)))[j]? = some (some (V.ref a))
        rw [List.getElem?_set_self (by rw [List.length_set]; exact hj)]
      · rw [List.length_map, hb]
        refine size1000 (Nat.le_trans (List.length_filter_le _ _) ?_)
        rw [List.length_take]
        omega
      · rw [upd_same, List.map_append]
        rfl
      · rw [et, List.filter_append, List.length_append, List.length_append, hb, List.filter_cons_of_pos c]
        rfl
      · intro b hbm
        rcases List.mem_append.mp hbm with h | h
        · exact hin b h
        · rw [List.mem_singleton.mp h]
          exact List.mem_of_getElem? ha
      · intro m b z hm hz
        rw [et, List.filter_append, List.filter_cons_of_pos c] at hz
        by_cases hlt : m < bs.length
        · rw [List.getElem?_append_left hlt] at hm
          rw [List.getElem?_append_left (by omega)] at hz
          exact hS m b z hm hz
        · rw [List.getElem?_append_right (by omega)] at hm
          rw [List.getElem?_append_right (by omega)] at hz
          rw [← hb] at hz
          have e0 : m - bs.length = 0 := by
            have := (List.getElem?_eq_some_iff.mp hm).1
            simp at this
            omega
          rw [e0] at hm hz
          have e1 : a = b := Option.some.inj hm
          have e2 : x = z := Option.some.inj hz
          rw [← e1, ← e2]
          exact hR i a x ha hx
    · have c' : f x = false := by cases h : f x <;> simp_all
      rw [c']
      refine iteF ⟨s1, bs, hD, ?_, hin, ?_⟩
      · rw [et, List.filter_append, List.filter_cons_of_neg c, List.filter_nil, List.append_nil]
        exact hb
      · intro m b z hm hz
        rw [et, List.filter_append, List.filter_cons_of_neg c, List.filter_nil, List.append_nil] at hz
        exact hS m b z hm hz
  · rintro H1 ⟨s1, bs, hD, hb, hin, hS⟩
    rw [List.length_map, hlen, List.take_length] at hb hS
    exact k D H1 nD s1 ⟨bs, hD, hb, hin, hS⟩
theorem stays_rat {A : Ad} : Stays (RefS (RatAt A)) where
  same := fun s h => by
    obtain ⟨a, e, r⟩ := h
    exact ⟨a, e, r.same s⟩
  but := fun hm _ h => by
    obtain ⟨a, e, r⟩ := h
    exact ⟨a, e, (But.upd hm).rat r⟩
theorem stays_val {β : Type} {f : β → V} : Stays (fun (_ : Hp) v y => v = f y) where
  same := fun _ h => h
  but := fun _ _ h => h
theorem rat_ne {A : Ad} {H : Hp} {p D : Addr} {x : Fraction} {acc : List V} (r : RatAt A H p x) (h : H D = some (.lst acc)) : V.ref p ≠ V.ref D := fun e => by
  obtain ⟨dx, r⟩ := r
  have e' : p = D := V.ref.inj e
  rw [e', h] at r
  cases r
end Lw
end
/-! LwPol -/
section
set_option Elab.async false
set_option linter.all false
set_option maxRecDepth 100000
set_option maxHeartbeats 4000000
/-! policies and importances -/
namespace Lw
open PySem PySem.Spec PyProof.Rows L2
open Kp432 (Fraction Study Policy)
/-- the policy p stands at a -/
def PolIs (A : Ad) (H : Hp) (a : Addr) (p : Policy) : Prop := ∃ l M, (∃ dx, H a = some (.ins A.c_Policy dx (polF l))) ∧ RowsAt NatsAt H l p M
theorem PolIs.same {A : Ad} {H H' : Hp} {a : Addr} {p : Policy} (h : PolIs A H a p) (s : Same H H') : PolIs A H' a p := by
  obtain ⟨l, M, ⟨dx, e⟩, r⟩ := h
  exact ⟨l, M, ⟨dx, s _ _ e⟩, r.same s fun _ _ n => n.same s⟩
theorem lt60 {n : Nat} (h : n < 2 ^ 60) : n < 2 ^ 4500 := Nat.lt_trans h (Nat.pow_lt_pow_right (by decide) (by decide))
theorem ints_of (l : List Nat) : l.map nat = (l.map fun n : Nat => (n : Int)).map V.int := by
  rw [List.map_map]
  rfl
theorem nat_at {l : List Nat} {i : Nat} (h : i < l.length) : (l.map nat)[i]? = some (nat (l.getD i 0)) := by
  rw [List.getElem?_map, List.getD_eq_getElem?_getD, List.getElem?_eq_getElem h]
  rfl
/-- the row of a context -/
theorem PolIs.row {A : Ad} {H : Hp} {a : Addr} {p : Policy} (h : PolIs A H a p) {c : Nat} (hc : c < p.length) : ∃ l dx, ∃ rs : List Addr, H a = some (.ins A.c_Policy dx (polF l)) ∧ H l = some (.lst (rs.map V.ref)) ∧ ∃ r, rs[c]? = some r ∧ NatsAt H r (Kp432.weightsFor p c) := by
  obtain ⟨l, M, ⟨dx, e⟩, r⟩ := h
  obtain ⟨rs, h1, h2, h3, _⟩ := r.ex
  refine ⟨l, dx, rs, e, h1, rs[c]'(by omega), List.getElem?_eq_getElem (by omega), ?_⟩
  refine h3 c _ _ (List.getElem?_eq_getElem (by omega)) ?_
  unfold Kp432.weightsFor
  rw [List.getD_eq_getElem?_getD, List.getElem?_eq_getElem hc]
  rfl
def sp_Policy_chance (K : PySem.W.Frag) (A : Ad) : Sp := fun vs H Q _ => ∃ (a : Addr) (p : Policy) (c x nc na : Nat), vs = [.ref a, nat c, nat x] ∧ PolIs A H a p ∧ LwM.GoodPol nc na p ∧ na ≤ 5 ∧ c < nc ∧ x < na ∧ Gives A H Q (Kp432.chance p c x)
def sp_Policy_can_choose (K : PySem.W.Frag) (A : Ad) : Sp := fun vs H Q _ => ∃ (a : Addr) (p : Policy) (c x nc na : Nat), vs = [.ref a, nat c, nat x] ∧ PolIs A H a p ∧ LwM.GoodPol nc na p ∧ c < nc ∧ x < na ∧ Q (.bl (!decide ((Kp432.chance p c x).num = 0))) H
def sp_Policy_preferred (K : PySem.W.Frag) (A : Ad) : Sp := fun vs H Q _ => ∃ (a : Addr) (p : Policy) (c nc na : Nat), vs = [.ref a, nat c] ∧ PolIs A H a p ∧ LwM.GoodPol nc na p ∧ 1 ≤ na ∧ c < nc ∧ Q (nat (Kp432.preferred p c)) H
def sp_importance (K : PySem.W.Frag) (A : Ad) : Sp := fun vs H Q _ => ∃ (a e : Addr) (p : Policy) (ev : Evt) (s : Study), vs = [.ref a, .ref e] ∧ PolIs A H a p ∧ EvAt A H e ev ∧ LwM.Good s ∧ LwM.GoodPol s.contexts s.actions p ∧ LwM.GoodEv s.contexts s.actions ev ∧
  Gives A H Q (Kp432.weight p ev)
theorem sz_chance {p : Policy} {s : Study} {c x : Nat} (h : LwM.Good s) (hp : LwM.GoodPol s.contexts s.actions p) (hc : c < s.contexts) : Sz (Kp432.chance p c x) := by
  have r := hp.at_ hc
  have s5 := LwM.sum_le r.le
  rw [r.len] at s5
  have := h.a5
  have : (Kp432.weightsFor p c).sum < 2 ^ 60 := Nat.lt_of_le_of_lt (Nat.le_trans s5 (Nat.mul_le_mul_right _ h.a5)) (by decide)
  exact Sz.of (LwM.bd_chance hp hc) r.pos (lt60 this) (Nat.one_lt_two_pow (by decide))
theorem sz_pro {x : Fraction} (h : LwM.Pro x) : Sz x := by
  have h1 := h.num
  have h2 := h.den
  have h3 := h.pos
  refine ⟨h.dpos, lt60 (Nat.lt_of_le_of_lt h2 (by decide)), ?_⟩
  have : x.num.natAbs < 2 ^ 60 := by
    have : x.num.natAbs ≤ 1000 := by omega
    exact Nat.lt_of_le_of_lt this (by decide)
  exact Nat.lt_trans this (Nat.pow_lt_pow_right (by decide) (by decide))
section
variable {P : Program} {w : World} {K : PySem.W.Frag} {mg : Str → Option Value} {base : Heap} {A : Ad}
theorem ok_Policy_chance (T : Txt K mg A) : FnOk P w K mg base CX0 4 A.f_Policy_chance A.d_Policy_chance ["self", "context", "action"] (sp_Policy_chance K A) := by
  refine T.fn_Policy_chance.ok sc_Policy_chance (fun vs H Q E h => ?_) (fun cdv Ar outer s H vs Q E hr h => ?_)
  · obtain ⟨a, p, c, x, nc, na, rfl, _⟩ := h
    rfl
  · obtain ⟨a, p, c, x, nc, na, rfl, hp, gp, n5, hc, hx, k⟩ := h
    refine ⟨_, (pss_cons (ps_set (i := 3) sc_Policy_chance.nd rfl (Or.inl rfl) (pe_ix ix_list (pe_fld (pv 0) rfl) (pv 1) (fun _ _ => rfl)))
        (pss_one (ps_ret (pe_make T.mk_Ratio (ok_Ratio_init T) (hr.mono (by decide)) rfl T.g_Ratio (bi_Ratio_init T) .nil pass0 (pa_cons (pe_ix ix_list (pv 3) (pv 2) (fun _ _ => rfl)) (pa_cons (pe_callB (cr_sum (by rfl)) (by rfl) T.n_sum (by decide +kernel) (pa_cons (pv 3) pa_nil)) pa_nil)))))), ?_⟩
    obtain ⟨l, dx, rs, h1, h2, r, hr, hn⟩ := hp.row (by rw [gp.len]; exact hc)
    have gr : LwM.GoodRow na (Kp432.weightsFor p c) := gp.row _ (LwM.getD_mem (by rw [gp.len]; exact hc))
    refine ⟨_, rfl, a, _, dx, _, _, rfl, h1, T.cl_Policy, T.no_Policy_weights, pol_weights l, _, rfl, l, _, _, _, rfl, rfl, SqL.of h2, at_of (j := c) (v := V.ref r) rfl (by rw [List.getElem?_map, hr]; rfl), ?_⟩
    have hn' : H r = some (.lst (((Kp432.weightsFor p c).map fun n : Nat => (n : Int)).map V.int)) := by
      rw [← ints_of]
      exact hn
    refine ⟨_, rfl, _, rfl, r, _, _, _, rfl, rfl, SqL.of hn, at_of (j := x) rfl (nat_at (by rw [gr.len]; exact hx)), _, rfl, r, _, rfl, SqL.of hn', ?_⟩
    have s5 := LwM.sum_le gr.le
    rw [gr.len] at s5
    have lt : (Kp432.weightsFor p c).sum < 2 ^ 60 := Nat.lt_of_le_of_lt (Nat.le_trans s5 (Nat.mul_le_mul_right _ n5)) (by decide)
    exact mk_rat (LwM.sum_cast _) gr.pos (Nat.lt_trans (lt60 lt) (Nat.pow_lt_pow_right (by decide) (by decide))) k
theorem ok_Policy_can_choose (T : Txt K mg A) : FnOk P w K mg base CX0 1 A.f_Policy_can_choose A.d_Policy_can_choose ["self", "context", "action"] (sp_Policy_can_choose K A) := by
  refine T.fn_Policy_can_choose.ok sc_Policy_can_choose (fun vs H Q E h => ?_) (fun cdv Ar outer s H vs Q E hr h => ?_)
  · obtain ⟨a, p, c, x, nc, na, rfl, _⟩ := h
    rfl
  · obtain ⟨a, p, c, x, nc, na, rfl, hp, gp, hc, hx, k⟩ := h
    refine ⟨_, (pss_one (ps_ret (pe_cmpR op_gt (pe_ix ix_list (pe_ix ix_list (pe_fld (pv 0) rfl) (pv 1) (fun _ _ => rfl)) (pv 2) (fun _ _ => rfl)) pe_int (nomark _)))), ?_⟩
    obtain ⟨l, dx, rs, h1, h2, r, hr, hn⟩ := hp.row (by rw [gp.len]; exact hc)
    have gr : LwM.GoodRow na (Kp432.weightsFor p c) := gp.row _ (LwM.getD_mem (by rw [gp.len]; exact hc))
    have e : (decide ((0 : Int) < (((Kp432.weightsFor p c).getD x 0 : Nat) : Int))) = !decide ((Kp432.chance p c x).num = 0) := LwM.chance_zero gr.pos
    rw [← e] at k
    exact ⟨_, rfl, a, _, dx, _, _, rfl, h1, T.cl_Policy, T.no_Policy_weights, pol_weights l, _, rfl, l, _, _, _, rfl, rfl, SqL.of h2, at_of (j := c) (v := V.ref r) rfl (by rw [List.getElem?_map, hr]; rfl),
      _, rfl, r, _, _, _, rfl, rfl, SqL.of hn, at_of (j := x) rfl (nat_at (by rw [gr.len]; exact hx)), _, _, rfl, rfl, k⟩
theorem ok_Policy_preferred (T : Txt K mg A) : FnOk P w K mg base CX0 1 A.f_Policy_preferred A.d_Policy_preferred ["self", "context"] (sp_Policy_preferred K A) := by
  refine T.fn_Policy_preferred.ok sc_Policy_preferred (fun vs H Q E h => ?_) (fun cdv Ar outer s H vs Q E hr h => ?_)
  · obtain ⟨a, p, c, nc, na, rfl, _⟩ := h
    rfl
  · obtain ⟨a, p, c, nc, na, rfl, hp, gp, n1, hc, k⟩ := h
    refine ⟨_, (pss_cons (ps_set (i := 2) sc_Policy_preferred.nd rfl (Or.inl rfl) (pe_ix ix_list (pe_fld (pv 0) rfl) (pv 1) (fun _ _ => rfl)))
        (pss_one (ps_ret (pe_bm PySem.F.plainAttrs_list PySem.F.slot_list_index PySem.F.type_list_index mt_index (pv 2) (pa_cons (pe_callB (cr_max (by rfl)) (by rfl) T.n_max (by decide +kernel) (pa_cons (pv 2) pa_nil)) pa_nil))))), ?_⟩
    obtain ⟨l, dx, rs, h1, h2, r, hr, hn⟩ := hp.row (by rw [gp.len]; exact hc)
    have gr : LwM.GoodRow na (Kp432.weightsFor p c) := gp.row _ (LwM.getD_mem (by rw [gp.len]; exact hc))
    refine ⟨_, rfl, a, _, dx, _, _, rfl, h1, T.cl_Policy, T.no_Policy_weights, pol_weights l, _, rfl, l, _, _, _, rfl, rfl, SqL.of h2, at_of (j := c) (v := V.ref r) rfl (by rw [List.getElem?_map, hr]; rfl), ?_⟩
    generalize hrow : Kp432.weightsFor p c = row at hn gr
    have hn' : H r = some (.lst ((row.map fun n : Nat => (n : Int)).map V.int)) := by
      rw [← ints_of]
      exact hn
    refine ⟨_, rfl, .inl ⟨rfl, _, SqL.of hn⟩, _, rfl, r, _, rfl, SqL.of hn', (by rw [List.length_map, gr.len]; exact n1), fun m hm hmax => ?_⟩
    obtain ⟨j0, hj0, ej0⟩ := List.getElem_of_mem hm
    -- the first place of m
    have first : ∀ (l : List Int) (m : Int), m ∈ l → ∃ j : Nat, ∃ h : j < l.length, l[j] = m ∧ ∀ i (hi : i < j), l[i]'(by omega) ≠ m := by
      intro l m
      induction l with
      | nil =>
        intro h
        simp at h
      | cons x l ih =>
        intro h
        by_cases e : x = m
        · exact ⟨0, by simp, e, fun i hi => absurd hi (by omega)⟩
        · have hm : m ∈ l := by
            rcases List.mem_cons.mp h with z | z
            · exact absurd z.symm e
            · exact z
          obtain ⟨j, hj, e1, e2⟩ := ih hm
          refine ⟨j + 1, by simpa using hj, e1, fun i hi => ?_⟩
          cases i with
          | zero => exact e
          | succ i => exact e2 i (by omega)
    obtain ⟨j, hj, e1, e2⟩ := first _ _ hm
    rw [List.length_map] at hj
    have hval : ∀ i (hi : i < row.length), (row.map nat)[i]? = some (V.int ((row.getD i 0 : Nat) : Int)) := fun i hi => nat_at hi
    have hgd : ∀ i (hi : i < row.length), row.getD i 0 = row[i] := fun i hi => by
      rw [List.getD_eq_getElem?_getD, List.getElem?_eq_getElem hi]
      rfl
    have em : m = ((row.getD j 0 : Nat) : Int) := by
      rw [← e1, hgd j hj, List.getElem_map]
    refine ⟨r, _, V.int m, j, V.int ((row.getD j 0 : Nat) : Int), rfl, rfl, SqL.of hn, rfl, ?_, hval j hj, ?_, ?_, ?_⟩
    · rw [List.all_eq_true]
      intro v hv
      obtain ⟨n, _, rfl⟩ := List.mem_map.mp hv
      rfl
    · rw [em]
      exact beq_self_eq_true _
    · intro i z hi hz
      rw [hval i (by omega)] at hz
      cases Option.some.inj hz
      have ne := e2 i hi
      rw [List.getElem_map, ← hgd i (by omega)] at ne
      exact beq_eq_false_iff_ne.mpr ne
    · have e : Kp432.preferred p c = j := by
        refine LwM.preferred_is (by rw [hrow]; exact hj) (fun n hn => ?_) (fun i hi => ?_)
        · rw [hrow] at hn ⊢
          have := hmax _ (List.mem_map.mpr ⟨n, hn, rfl⟩)
          omega
        · rw [hrow]
          have ne := e2 i hi
          rw [List.getElem_map, ← hgd i (by omega)] at ne
          have le := hmax _ (List.mem_map.mpr ⟨row[i]'(by omega), List.getElem_mem _, rfl⟩)
          rw [← hgd i (by omega)] at le
          omega
      rw [e] at k
      exact k
theorem ok_importance (T : Txt K mg A) : FnOk P w K mg base CX0 5 A.f_importance A.d_importance ["policy", "event"] (sp_importance K A) := by
  refine T.fn_importance.ok sc_importance (fun vs H Q E h => ?_) (fun cdv Ar outer s H vs Q E hr h => ?_)
  · obtain ⟨a, e, p, ev, s, rfl, _⟩ := h
    rfl
  · obtain ⟨a, e, p, ev, s, rfl, hp, ⟨de, pr, he, hpr⟩, gs, gp, ge, k⟩ := h
    refine ⟨_, (pss_one (ps_ret (pe_meth (pe_meth (pv 0) T.cl_Policy T.me_Policy_chance (ok_Policy_chance T) (hr.mono (by decide)) (bi_Policy_chance T) .nil pass0 (pa_cons (pe_fld (pv 1) rfl) (pa_cons (pe_fld (pv 1) rfl) pa_nil))) T.cl_Ratio T.me_Ratio_over (ok_Ratio_over T) (hr.mono (by decide)) (bi_Ratio_over T) .nil pass0 (pa_cons (pe_fld (pv 1) rfl) pa_nil)))), ?_⟩
    obtain ⟨l, M, ⟨da, ha⟩, hrows⟩ := id hp
    refine ⟨_, rfl, a, da, _, rfl, ha, pol_no l (by decide +kernel), _, rfl, e, _, de, _, _, rfl, he, T.cl_Event, T.no_Event_context, ev_context ev pr, _, rfl, e, _, de, _, _, rfl, he, T.cl_Event, T.no_Event_action, ev_action ev pr,
      a, p, ev.context, ev.action, _, _, rfl, hp, gp, gs.a5, ge.ctx, ge.act, fun c H1 s1 r1 => ?_⟩
    obtain ⟨dc, hc⟩ := r1
    refine ⟨c, dc, _, rfl, hc, rat_no _ (by decide +kernel) (by decide +kernel), _, rfl, e, _, de, _, _, rfl, s1 _ _ he, T.cl_Event, T.no_Event_propensity, ev_propensity ev pr,
      c, pr, _, _, rfl, ⟨dc, hc⟩, hpr.same s1, sz_chance gs gp ge.ctx, sz_pro ge.pro, ge.pro.pos, ?_, fun q H2 s2 r2 => k q H2 (s1.trans s2) r2⟩
    have h1 := ge.pro.num
    have h2 := ge.pro.pos
    exact lt60 (Nat.lt_of_le_of_lt (show ev.propensity.num.natAbs ≤ 1000 by omega) (by decide))
end
end Lw
end
/-! LwEst -/
section
set_option Elab.async false
set_option linter.all false
set_option maxRecDepth 100000
set_option maxHeartbeats 4000000
/-! estimators -/
namespace Lw
open PySem PySem.Spec PyProof.Rows L2
open Kp432 (Fraction Study Policy)
/-- a study at a with what its attributes are -/
theorem StAt.get {A : Ad} {H : Hp} {a : Addr} {s : Study} {M : List Addr} (h : StAt A H a s M) : ∃ ev po mo tw tr dx, H a = some (.ins A.c_Study dx (stF s ev po mo tw tr)) ∧ LstAt (EvAt A) H ev s.events ∧
    (∃ pl : List Addr, H po = some (.lst (pl.map V.ref)) ∧ pl.length = s.policies.length ∧ ∀ (i : Nat) (p : Addr) (r : Policy), pl[i]? = some p → s.policies[i]? = some r → PolIs A H p r) ∧
    RowsAt (RatsAt A) H mo s.model M ∧ NatsAt H tw s.contextWeights ∧ RowsAt NatsAt H tr s.truth M := by
  obtain ⟨ev, po, mo, tw, tr, pl, wl, e⟩ := h.ex
  obtain ⟨dx, o⟩ := e.obj
  refine ⟨ev, po, mo, tw, tr, dx, o, e.evs, ⟨pl, e.pol, e.plen, fun i p r hp hr => ?_⟩, e.mod, e.tw, e.tr⟩
  have hi : i < wl.length := by
    have := (List.getElem?_eq_some_iff.mp hr).1
    have := e.wlen
    omega
  obtain ⟨h1, h2⟩ := e.pat i p _ r hp (List.getElem?_eq_getElem hi) hr
  exact ⟨_, M, h1, h2⟩
/-- the policy of a number -/
theorem StAt.policy {A : Ad} {H : Hp} {a : Addr} {s : Study} {M : List Addr} (h : StAt A H a s M) {k : Nat} (hk : k < s.policies.length) :
    ∃ ev po mo tw tr dx, H a = some (.ins A.c_Study dx (stF s ev po mo tw tr)) ∧ ∃ (vs : List V) (p : Addr), H po = some (.lst vs) ∧ vs[k]? = some (.ref p) ∧ PolIs A H p (Kp432.policyAt s k) := by
  obtain ⟨ev, po, mo, tw, tr, dx, o, _, ⟨pl, h1, h2, h3⟩, _⟩ := h.get
  refine ⟨ev, po, mo, tw, tr, dx, o, _, pl[k]'(by omega), h1, ?_, ?_⟩
  · rw [List.getElem?_map, List.getElem?_eq_getElem (by omega)]
    rfl
  · refine h3 k _ _ (List.getElem?_eq_getElem (by omega)) ?_
    unfold Kp432.policyAt
    rw [List.getD_eq_getElem?_getD, List.getElem?_eq_getElem hk]
    rfl
/-- the model's row of a context -/
theorem StAt.row {A : Ad} {H : Hp} {a : Addr} {s : Study} {M : List Addr} (h : StAt A H a s M) {c : Nat} (hc : c < s.model.length) :
    ∃ ev po mo tw tr dx, H a = some (.ins A.c_Study dx (stF s ev po mo tw tr)) ∧ ∃ (vs : List V) (r : Addr), H mo = some (.lst vs) ∧ vs[c]? = some (.ref r) ∧ RatsAt A H r (s.model.getD c []) := by
  obtain ⟨ev, po, mo, tw, tr, dx, o, _, _, hm, _⟩ := h.get
  obtain ⟨rs, h1, h2, h3, _⟩ := hm.ex
  refine ⟨ev, po, mo, tw, tr, dx, o, _, rs[c]'(by omega), h1, ?_, ?_⟩
  · rw [List.getElem?_map, List.getElem?_eq_getElem (by omega)]
    rfl
  · refine h3 c _ _ (List.getElem?_eq_getElem (by omega)) ?_
    rw [List.getD_eq_getElem?_getD, List.getElem?_eq_getElem hc]
    rfl
theorem LstAt.get {α : Type} {R : Hp → Addr → α → Prop} {H : Hp} {l : Addr} {xs : List α} (h : LstAt R H l xs) {i : Nat} {x : α} (hx : xs[i]? = some x) : ∃ (vs : List V) (r : Addr), H l = some (.lst vs) ∧ vs[i]? = some (.ref r) ∧ R H r x := by
  obtain ⟨as, h1, h2, h3⟩ := h.ex
  have hi := (List.getElem?_eq_some_iff.mp hx).1
  refine ⟨_, as[i]'(by omega), h1, ?_, h3 i _ x (List.getElem?_eq_getElem (by omega)) hx⟩
  rw [List.getElem?_map, List.getElem?_eq_getElem (by omega)]
  rfl
/-- the premises that the estimators share: a good study, a policy, perhaps an event -/
structure Ctx (A : Ad) (H : Hp) (a b : Addr) (s : Study) (p : Policy) : Prop where
  st : ∃ M, StAt A H a s M
  pol : PolIs A H b p
  good : LwM.Good s
  gpol : LwM.GoodPol s.contexts s.actions p
theorem Ctx.same {A : Ad} {H H' : Hp} {a b : Addr} {s : Study} {p : Policy} (h : Ctx A H a b s p) (k : Same H H') : Ctx A H' a b s p := by
  obtain ⟨M, st⟩ := h.st
  exact ⟨⟨M, st.same k⟩, h.pol.same k, h.good, h.gpol⟩
def sp_importances (K : PySem.W.Frag) (A : Ad) : Sp := fun vs H Q _ => ∃ (a b : Addr) (s : Study) (p : Policy), vs = [.ref a, .ref b] ∧ Ctx A H a b s p ∧ ∀ D H1, Same H H1 → RatsAt A H1 D (s.events.map (Kp432.weight p)) → Q (.ref D) H1
def sp_direct_value (K : PySem.W.Frag) (A : Ad) : Sp := fun vs H Q _ => ∃ (a b : Addr) (s : Study) (p : Policy) (c : Nat), vs = [.ref a, .ref b, nat c] ∧ Ctx A H a b s p ∧ c < s.contexts ∧ Gives A H Q (Kp432.direct s p c)
def sp_correction (K : PySem.W.Frag) (A : Ad) : Sp := fun vs H Q _ => ∃ (a b e : Addr) (s : Study) (p : Policy) (ev : Evt), vs = [.ref a, .ref b, .ref e] ∧ Ctx A H a b s p ∧ EvAt A H e ev ∧ LwM.GoodEv s.contexts s.actions ev ∧ Gives A H Q (LwM.corr s p ev)
def est (kind limit : Nat) : Kp432.Estimator := ⟨kind, Kp432.fraction (limit : Nat) 100⟩
def sp_term_of (K : PySem.W.Frag) (A : Ad) : Sp := fun vs H Q _ => ∃ (a b e : Addr) (s : Study) (p : Policy) (ev : Evt) (kind limit : Nat), vs = [.ref a, .ref b, nat kind, nat limit, .ref e] ∧ Ctx A H a b s p ∧ EvAt A H e ev ∧
  LwM.GoodEv s.contexts s.actions ev ∧ kind ≤ 3 ∧ 1 ≤ limit ∧ limit ≤ 100000 ∧ Gives A H Q (Kp432.term s p (est kind limit) ev)
def sp_terms_of (K : PySem.W.Frag) (A : Ad) : Sp := fun vs H Q _ => ∃ (a b l : Addr) (s : Study) (p : Policy) (kind limit : Nat) (es : List Evt), vs = [.ref a, .ref b, nat kind, nat limit, .ref l] ∧ Ctx A H a b s p ∧ LstAt (EvAt A) H l es ∧
  (∀ e ∈ es, LwM.GoodEv s.contexts s.actions e) ∧ es.length ≤ 1000 ∧ kind ≤ 3 ∧ 1 ≤ limit ∧ limit ≤ 100000 ∧ ∀ D H1, Same H H1 → RatsAt A H1 D (es.map (Kp432.term s p (est kind limit))) → Q (.ref D) H1
theorem big_lt {n : Nat} (h : n < 2 ^ 650) : n < 2 ^ 4500 := Nat.lt_trans h (Nat.pow_lt_pow_right (by decide) (by decide))
section
variable {s : Study} {p : Policy} {ev : Evt}
theorem one_pro {x : Fraction} (h : LwM.Pro x) : ∀ y ∈ [x], LwM.Pro y := fun y hy => by
  rw [List.mem_singleton.mp hy]
  exact h
/-- anything whose denominator divides bigD is small -/
theorem sz_big {x : Fraction} {M : Nat} {ps : List Fraction} (g : LwM.Good s) (gp : LwM.GoodPol s.contexts s.actions p) (hps : ∀ y ∈ ps, LwM.Pro y) (hn : ps.length ≤ 40) (h : LwM.Bd (LwM.bigD s p ps) M x) (hM : M < 2 ^ 60) : Sz x :=
  Sz.of h (LwM.bigD_pos g gp hps) (big_lt (LwM.bigD_lt g gp hps hn)) (lt60 hM)
theorem sz_weight (g : LwM.Good s) (gp : LwM.GoodPol s.contexts s.actions p) (ge : LwM.GoodEv s.contexts s.actions ev) : Sz (Kp432.weight p ev) :=
  sz_big g gp (one_pro ge.pro) (by simp) (LwM.bd_weight' gp ge (List.mem_singleton.mpr rfl)) (by decide)
theorem sz_direct {c : Nat} (g : LwM.Good s) (gp : LwM.GoodPol s.contexts s.actions p) (hc : c < s.contexts) : Sz (Kp432.direct s p c) :=
  sz_big (ps := []) g gp (fun y hy => absurd hy (by simp)) (by decide) (LwM.bd_direct g gp hc) (by decide)
theorem sz_corr (g : LwM.Good s) (gp : LwM.GoodPol s.contexts s.actions p) (ge : LwM.GoodEv s.contexts s.actions ev) : Sz (LwM.corr s p ev) :=
  sz_big g gp (one_pro ge.pro) (by simp) (LwM.bd_corr g gp ge (List.mem_singleton.mpr rfl)) (by decide)
theorem sz_est {c x : Nat} (g : LwM.Good s) (hc : c < s.contexts) (hx : x < s.actions) : Sz (Kp432.estimate s c x) := by
  have e := (LwM.est_at g hc hx).1
  exact Sz.of e.bd e.dpos (lt60 (Nat.lt_of_le_of_lt e.den (by decide))) (lt60 (by decide))
theorem fit_dparts {c : Nat} (g : LwM.Good s) (gp : LwM.GoodPol s.contexts s.actions p) (hc : c < s.contexts) : Fit (LwM.dparts s p c) := by
  refine ⟨LwM.bigD s p [], 100, 5, LwM.bd_dparts g gp hc, ?_, LwM.bigD_pos g gp (fun y hy => absurd hy (by simp)), big_lt (LwM.bigD_lt g gp (fun y hy => absurd hy (by simp)) (by decide)), by decide, lt60 (by decide)⟩
  unfold LwM.dparts
  rw [List.length_map, List.length_range]
  exact g.a5
end
/-- a list walked by a comprehension that hands on each item's object -/
theorem comp_objs {K : PySem.W.Frag} {α β : Type} {R : Hp → Addr → α → Prop} {S : Hp → V → β → Prop} (st : Stays S) {l : Addr} {xs : List α} {j : Nat} {tl te : TE} {σ : L2.St} {H : Hp} {Q : VK} (f : α → β)
    (hl : LstAt R H l xs) (hR : ∀ {H1 a x}, Same H H1 → R H a x → R H1 a x) (small : xs.length ≤ 1000) (htl : ∀ T : VK, T (.ref l) H → tl σ H T)
    (step : ∀ (x : α) (a : Addr) (H1 : Hp) (D : Addr), x ∈ xs → R H1 a x → Same H H1 → (∃ acc, H1 D = some (.lst acc)) → ∀ T : VK, (∀ v H3, Same H1 H3 → S H3 v (f x) → v ≠ .ref D → T v H3) → te ((wipe σ [j]).set j (some (.ref a))) H1 T)
    (k : ∀ D H1, H D = none → Same H H1 → LstV S H1 D (xs.map f) → Q (.ref D) H1) : tLc (iList K tl) (gName j) tYes te [j] σ H Q := by
  obtain ⟨as, h1, h2, h3⟩ := hl.ex
  refine comp_of (walk_list (K := K) (a := l) (xs := as.map V.ref)) st (xs.map f) (by rw [List.length_map, List.length_map, h2]) (by rw [List.length_map, h2]; exact small) (fun H1 s1 => SqL.of (s1 _ _ h1)) (fun T hT => htl _ ⟨l, rfl, ⟨_, SqL.of h1⟩, hT⟩) ?_ k
  rintro i y x H1 H2 D hy s1 hD ⟨rfl, hx⟩ T hT
  obtain ⟨a, ha, rfl⟩ := ref_at hx
  obtain ⟨x, hx⟩ := get_of_len h2 ha
  rw [List.getElem?_map, hx] at hy
  cases Option.some.inj hy
  refine ⟨?_, step x a _ D (List.mem_of_getElem? hx) (hR s1 (h3 i a x ha hx)) s1 hD T hT⟩
  show ((σ.set j none).set j (some (V.ref a))).set j none = σ.set j none
  rw [List.set_set, List.set_set]
section
variable {P : Program} {w : World} {K : PySem.W.Frag} {mg : Str → Option Value} {base : Heap} {A : Ad}
theorem ok_importances (T : Txt K mg A) : FnOk P w K mg base CX0 6 A.f_importances A.d_importances ["study", "policy"] (sp_importances K A) := by
  refine T.fn_importances.ok sc_importances (fun vs H Q E h => ?_) (fun cdv Ar outer s H vs Q E hr h => ?_)
  · obtain ⟨a, b, s, p, rfl, _⟩ := h
    rfl
  · obtain ⟨a, b, s, p, rfl, cx, k⟩ := h
    refine ⟨_, (pss_one (ps_ret (pe_lc (own := [("event", 2)]) (g := gName 2) (tt := tYes) (te := (tCall (sp_importance K A) [] E0 (tCons (tVar 1) (tCons (tVar 2) tNil)))) (by rfl) sc_importances.nd (pi_list (pe_fld (pv 0) rfl)) (blkOk_by (own := [("event", 2)]) (N := ["study", "policy", "event"]) (sc := defScope s_importances) (by decide +kernel)) (fun _ _ _ _ _ => pg_name (i := 2) sc_importances.nd rfl (Or.inl rfl)) (fun _ _ _ _ _ => pts_nil) (fun _ _ _ _ _ => (pe_call (ok_importance T) (hr.mono (by decide)) rfl T.g_importance T.fn_importance.kp (bi_importance T) .nil pass0 (pa_cons (pv 1) (pa_cons (pv 2) pa_nil))))))), ?_⟩
    obtain ⟨M, st⟩ := cx.st
    obtain ⟨ev, po, mo, tw, tr, dx, o, hev, _⟩ := st.get
    refine comp_objs (R := EvAt A) (stays_rat (A := A)) (Kp432.weight p) hev (fun s1 r => r.same s1) (Nat.le_trans cx.good.evn (by decide)) (fun Z hT => ⟨_, rfl, a, _, dx, _, _, rfl, o, T.cl_Study, T.no_Study_events, st_events .., hT⟩) ?_ (fun D H1 _ s1 r => k D H1 s1 r.refs)
    intro x e H1 D hx he s1 ⟨acc, hD⟩ R hR
    exact ⟨_, rfl, _, rfl, b, e, p, x, s, rfl, cx.pol.same s1, he, cx.good, cx.gpol, cx.good.ev x hx, fun q H2 s2 r2 => hR _ _ s2 ⟨q, rfl, r2⟩ (rat_ne r2 (s2 _ _ hD))⟩
theorem ok_direct_value (T : Txt K mg A) : FnOk P w K mg base CX0 6 A.f_direct_value A.d_direct_value ["study", "policy", "context"] (sp_direct_value K A) := by
  refine T.fn_direct_value.ok sc_direct_value (fun vs H Q E h => ?_) (fun cdv Ar outer s H vs Q E hr h => ?_)
  · obtain ⟨a, b, s, p, c, rfl, _⟩ := h
    rfl
  · obtain ⟨a, b, s, p, c, rfl, cx, hc, k⟩ := h
    refine ⟨_, (pss_cons (ps_set (i := 3) sc_direct_value.nd rfl (Or.inl rfl) (pe_ix ix_list (pe_fld (pv 0) rfl) (pv 2) (fun _ _ => rfl)))
        (pss_cons (ps_setLc (i := 4) (own := [("action", 5), ("reward", 6)]) (g := gTup K 2 (gCons (gName 5) (gCons (gName 6) gNil))) (tt := tYes) (te := (tMeth A.c_Ratio "times" (sp_Ratio_times K A) [] E0 (tMeth A.c_Policy "chance" (sp_Policy_chance K A) [] E0 (tVar 1) (tCons (tVar 2) (tCons (tVar 5) tNil))) (tCons (tVar 6) tNil))) (by rfl) sc_direct_value.nd rfl rfl (sw_true rfl rfl rfl (by decide +kernel)) (pi_enum (by rfl) T.n_enumerate (pa_cons (pv 3) pa_nil)) (blkOk_by (own := [("action", 5), ("reward", 6)]) (N := ["study", "policy", "context", "estimates", "parts", "action", "reward"]) (sc := defScope s_direct_value) (by decide +kernel)) (fun _ _ _ _ _ => pg_tup rfl (pgs_cons (pg_name (i := 5) sc_direct_value.nd rfl (Or.inl rfl)) (pgs_cons (pg_name (i := 6) sc_direct_value.nd rfl (Or.inl rfl)) pgs_nil))) (fun _ _ _ _ _ => pts_nil) (fun _ _ _ _ _ => (pe_meth (pe_meth (pv 1) T.cl_Policy T.me_Policy_chance (ok_Policy_chance T) (hr.mono (by decide)) (bi_Policy_chance T) .nil pass0 (pa_cons (pv 2) (pa_cons (pv 5) pa_nil))) T.cl_Ratio T.me_Ratio_times (ok_Ratio_times T) (hr.mono (by decide)) (bi_Ratio_times T) .nil pass0 (pa_cons (pv 6) pa_nil))))
        (pss_one (ps_ret (pe_call (ok_total T) (hr.mono (by decide)) rfl T.g_total T.fn_total.kp (bi_total T) .nil pass0 (pa_cons (pv 4) pa_nil)))))), ?_⟩
    obtain ⟨M, st⟩ := cx.st
    have hc' : c < s.model.length := by rw [cx.good.mod.len]; exact hc
    obtain ⟨ev, po, mo, tw, tr, dx, o, vs, r, h1, h2, hr⟩ := st.row hc'
    refine ⟨_, rfl, a, _, dx, _, _, rfl, o, T.cl_Study, T.no_Study_model, st_model .., _, rfl, mo, _, _, _, rfl, rfl, SqL.of h1, at_of (j := c) rfl h2, ?_⟩
    refine to_name (to_nx (to_seq (to_asg ?_)))
    obtain ⟨as, e1, e2, e3⟩ := hr.ex
    have rl : (s.model.getD c []).length = s.actions := (cx.good.mod.row _ (LwM.getD_mem hc')).1
    refine comp_of (walk_enum (K := K) (a := r) (xs := as.map V.ref)) (stays_rat (A := A)) (LwM.dparts s p c) ?_ ?_ (fun H1 s1 => SqL.of (s1 _ _ e1)) (fun Z hZ => ⟨_, rfl, r, _, rfl, SqL.of e1, hZ⟩) ?_ ?_
    · unfold LwM.dparts
      rw [List.length_map, List.length_range, List.length_map, e2, rl]
    · rw [List.length_map, e2, rl]
      have := cx.good.a5
      omega
    · rintro i y x H1 H2 D hy s1 ⟨acc, hD⟩ ⟨t, u, z, rfl, nT, rfl, eu, ez⟩ Z hZ
      cases Option.some.inj eu
      obtain ⟨q, hq, rfl⟩ := ref_at ez
      unfold LwM.dparts at hy
      rw [List.getElem?_map] at hy
      have hi : i < s.actions := by
        have := (List.getElem?_eq_some_iff.mp hq).1
        omega
      rw [List.getElem?_range hi] at hy
      cases Option.some.inj hy
      have nTs : Same H1 (L2.upd H1 t (.tup [.int (i : Nat), .ref q])) := Same.new nT
      refine ⟨t, _, rfl, SqT.of upd_same, rfl, _, _, rfl, _, _, rfl, rfl, rfl, ?_⟩
      obtain ⟨l, Ml, ⟨db, hb⟩, _⟩ := cx.pol.same (s1.trans nTs)
      refine ⟨_, rfl, b, db, _, rfl, hb, pol_no l (by decide +kernel), _, rfl, _, rfl, b, p, c, i, s.contexts, s.actions, rfl, cx.pol.same (s1.trans nTs), cx.gpol, cx.good.a5, hc, hi, fun w H3 s3 r3 => ?_⟩
      obtain ⟨dw, hw⟩ := r3
      have hx : (s.model.getD c [])[i]? = some (Kp432.estimate s c i) := by
        unfold Kp432.estimate
        rw [List.getD_eq_getElem?_getD (l := s.model.getD c []), List.getElem?_eq_getElem (by omega)]
        rfl
      refine ⟨w, dw, _, rfl, hw, rat_no _ (by decide +kernel) (by decide +kernel), _, rfl, w, q, _, _, rfl, ⟨dw, hw⟩, (e3 i q _ hq hx).same ((s1.trans nTs).trans s3), sz_chance cx.good cx.gpol hc, sz_est cx.good hc hi, fun v H4 s4 r4 => ?_⟩
      exact hZ _ _ ((nTs.trans s3).trans s4) ⟨v, rfl, r4⟩ (rat_ne r4 (((nTs.trans s3).trans s4) _ _ hD))
    · intro D H1 nD s1 hr1
      exact ⟨_, rfl, D, _, rfl, hr1.refs, fit_dparts cx.good cx.gpol hc, fun q H2 s2 r2 => k q H2 (s1.trans s2) r2⟩
theorem ok_correction (T : Txt K mg A) : FnOk P w K mg base CX0 6 A.f_correction A.d_correction ["study", "policy", "event"] (sp_correction K A) := by
  refine T.fn_correction.ok sc_correction (fun vs H Q E h => ?_) (fun cdv Ar outer s H vs Q E hr h => ?_)
  · obtain ⟨a, b, e, s, p, ev, rfl, _⟩ := h
    rfl
  · obtain ⟨a, b, e, s, p, ev, rfl, cx, he, ge, k⟩ := h
    refine ⟨_, (pss_cons (ps_set (i := 3) sc_correction.nd rfl (Or.inl rfl) (pe_ix ix_list (pe_ix ix_list (pe_fld (pv 0) rfl) (pe_fld (pv 2) rfl) (fun _ _ => rfl)) (pe_fld (pv 2) rfl) (fun _ _ => rfl)))
        (pss_one (ps_ret (pe_meth (pe_call (ok_importance T) (hr.mono (by decide)) rfl T.g_importance T.fn_importance.kp (bi_importance T) .nil pass0 (pa_cons (pv 1) (pa_cons (pv 2) pa_nil))) T.cl_Ratio T.me_Ratio_times (ok_Ratio_times T) (hr.mono (by decide)) (bi_Ratio_times T) .nil pass0 (pa_cons (pe_meth (pe_call (ok_whole T) (hr.mono (by decide)) rfl T.g_whole T.fn_whole.kp (bi_whole T) .nil pass0 (pa_cons (pe_fld (pv 2) rfl) pa_nil)) T.cl_Ratio T.me_Ratio_minus (ok_Ratio_minus T) (hr.mono (by decide)) (bi_Ratio_minus T) .nil pass0 (pa_cons (pv 3) pa_nil)) pa_nil))))), ?_⟩
    obtain ⟨M, st⟩ := cx.st
    have hc' : ev.context < s.model.length := by rw [cx.good.mod.len]; exact ge.ctx
    obtain ⟨evs, po, mo, tw, tr, dx, o, vs, r, h1, h2, hr⟩ := st.row hc'
    obtain ⟨de, pr, hee, hpr⟩ := id he
    have rl : (s.model.getD ev.context []).length = s.actions := (cx.good.mod.row _ (LwM.getD_mem hc')).1
    have hx : (s.model.getD ev.context [])[ev.action]? = some (Kp432.estimate s ev.context ev.action) := by
      have := ge.act
      unfold Kp432.estimate
      rw [List.getD_eq_getElem?_getD (l := s.model.getD ev.context []), List.getElem?_eq_getElem (by omega)]
      rfl
    obtain ⟨ws, q, w1, w2, hq⟩ := LstAt.get hr hx
    refine ⟨_, rfl, a, _, dx, _, _, rfl, o, T.cl_Study, T.no_Study_model, st_model .., _, rfl, e, _, de, _, _, rfl, hee, T.cl_Event, T.no_Event_context, ev_context ev pr, mo, _, _, _, rfl, rfl, SqL.of h1, at_of (j := ev.context) rfl h2,
      _, rfl, e, _, de, _, _, rfl, hee, T.cl_Event, T.no_Event_action, ev_action ev pr, r, _, _, _, rfl, rfl, SqL.of w1, at_of (j := ev.action) rfl w2, ?_⟩
    refine ⟨_, rfl, _, rfl, b, e, p, ev, s, rfl, cx.pol, he, cx.good, cx.gpol, ge, fun w H1 s1 r1 => ?_⟩
    obtain ⟨dw, hw⟩ := id r1
    refine ⟨w, dw, _, rfl, hw, rat_no _ (by decide +kernel) (by decide +kernel), _, rfl, e, _, de, _, _, rfl, s1 _ _ hee, T.cl_Event, T.no_Event_reward, ev_reward ev pr, ev.reward, rfl, fun n H2 s2 r2 => ?_⟩
    obtain ⟨dn, hn⟩ := id r2
    have se := sz_est cx.good ge.ctx ge.act
    have sn : Sz (Kp432.ofNat ev.reward) := Sz.nat (Nat.lt_of_le_of_lt ge.rew (by decide))
    refine ⟨n, dn, _, rfl, hn, rat_no _ (by decide +kernel) (by decide +kernel), _, rfl, n, q, _, _, rfl, r2, hq.same (s1.trans s2), sn, se, fun m H3 s3 r3 => ?_⟩
    have e0 := (LwM.est_at cx.good ge.ctx ge.act).1
    have sd : Sz (Kp432.sub (Kp432.ofNat ev.reward) (Kp432.estimate s ev.context ev.action)) := Sz.of (LwM.bd_diff cx.good ge) e0.dpos (lt60 (Nat.lt_of_le_of_lt e0.den (by decide))) (lt60 (by decide))
    exact ⟨w, m, _, _, rfl, r1.same (s2.trans s3), r3, sz_weight cx.good cx.gpol ge, sd, fun z H4 s4 r4 => k z H4 (((s1.trans s2).trans s3).trans s4) r4⟩
end
end Lw
end
/-! LwEst2 -/
section
set_option Elab.async false
set_option linter.all false
set_option maxRecDepth 100000
set_option maxHeartbeats 4000000
/-! terms, variance, fitted model -/
namespace Lw
open PySem PySem.Spec PyProof.Rows L2
open Kp432 (Fraction Study Policy)
/-- of one size, and few: the variance's numbers stay small -/
structure VarFit (xs : List Fraction) : Prop where
  ex : ∃ D M : Nat, (∀ x ∈ xs, LwM.Bd D M x) ∧ xs.length ≤ 40 ∧ 0 < D ∧ D < 2 ^ 1400 ∧ M ≤ 2 ^ 30
theorem p1400 {D : Nat} (h : D < 2 ^ 1400) : D < 2 ^ 4500 := Nat.lt_trans h (Nat.pow_lt_pow_right (by decide) (by decide))
theorem VarFit.fit {xs : List Fraction} (h : VarFit xs) : Fit xs := by
  obtain ⟨D, M, h1, h2, h3, h4, h5⟩ := h.ex
  refine ⟨D, M, 40, h1, h2, h3, p1400 h4, by decide, lt60 ?_⟩
  exact Nat.lt_of_le_of_lt (Nat.mul_le_mul_left 40 h5) (by decide)
theorem mean_D {D n : Nat} (h : D < 2 ^ 1400) (hn : n ≤ 40) : D * n < 2 ^ 1406 := by
  have e : (2 : Nat) ^ 1406 = 2 ^ 1400 * 2 ^ 6 := Nat.pow_add 2 1400 6
  rw [e]
  exact Nat.mul_lt_mul'' h (Nat.lt_of_le_of_lt hn (by decide))
theorem sq_D {D n : Nat} (h : D < 2 ^ 1400) (hn : n ≤ 40) : D * n * (D * n) < 2 ^ 4500 := by
  have a := mean_D h hn
  have b := Nat.mul_lt_mul'' a a
  rw [← Nat.pow_add] at b
  exact Nat.lt_trans b (Nat.pow_lt_pow_right (by decide) (by decide))
theorem VarFit.mean {xs : List Fraction} (h : VarFit xs) (h0 : 0 < xs.length) : Sz (LwM.pmean xs) := by
  obtain ⟨D, M, h1, h2, h3, h4, h5⟩ := h.ex
  refine Sz.of (LwM.bd_pmean h1 h0 h2) (Nat.mul_pos h3 h0) ?_ (lt60 ?_)
  · exact Nat.lt_trans (mean_D h4 h2) (Nat.pow_lt_pow_right (by decide) (by decide))
  · exact Nat.lt_of_le_of_lt (Nat.mul_le_mul_left 40 h5) (by decide)
/-- a difference from the mean -/
theorem VarFit.diff {xs : List Fraction} (h : VarFit xs) (h0 : 0 < xs.length) {x : Fraction} (hx : x ∈ xs) : Sz (Kp432.sub x (LwM.pmean xs)) := by
  obtain ⟨D, M, h1, h2, h3, h4, h5⟩ := h.ex
  refine Sz.of (LwM.bd_sub ((h1 x hx).mono (Nat.dvd_mul_right _ _) (Nat.le_refl _)) (LwM.bd_pmean h1 h0 h2)) (Nat.mul_pos h3 h0) ?_ (lt60 ?_)
  · exact Nat.lt_trans (mean_D h4 h2) (Nat.pow_lt_pow_right (by decide) (by decide))
  · have := Nat.mul_le_mul_left 40 h5
    exact Nat.lt_of_le_of_lt (Nat.add_le_add h5 this) (by decide)
theorem VarFit.sq {xs : List Fraction} (h : VarFit xs) (h0 : 0 < xs.length) : Fit (LwM.psq xs) := by
  obtain ⟨D, M, h1, h2, h3, h4, h5⟩ := h.ex
  refine ⟨_, _, 40, LwM.bd_psq h1 h0 h2, ?_, ?_, sq_D h4 h2, by decide, ?_⟩
  · unfold LwM.psq
    rw [List.length_map]
    exact h2
  · exact Nat.mul_pos (Nat.mul_pos h3 h0) (Nat.mul_pos h3 h0)
  · have a := Nat.mul_le_mul_left 40 h5
    have b := Nat.add_le_add h5 a
    have c := Nat.mul_le_mul_left 40 (Nat.mul_le_mul b b)
    refine Nat.lt_of_le_of_lt c (Nat.lt_trans (m := 2 ^ 80) (by decide) (Nat.pow_lt_pow_right (by decide) (by decide)))
def sp_variance_of_mean (K : PySem.W.Frag) (A : Ad) : Sp := fun vs H Q _ => ∃ (l : Addr) (xs : List Fraction), vs = [.ref l] ∧ RatsAt A H l xs ∧ VarFit xs ∧ 2 ≤ xs.length ∧ Gives A H Q (Kp432.varianceOfMean xs)
def sp_mean_reward (K : PySem.W.Frag) (A : Ad) : Sp := fun vs H Q _ => ∃ (l : Addr) (es : List Evt), vs = [.ref l] ∧ LstAt (EvAt A) H l es ∧ 0 < es.length ∧ es.length ≤ 1000 ∧ Gives A H Q (Kp432.meanReward es)
/-- what the events suggest -/
def fitOf (es : List Evt) (c x : Nat) : Fraction :=
  let here := es.filter fun e => e.context == c && e.action == x
  if here.isEmpty then Kp432.meanReward (es.filter fun e => e.action == x) else Kp432.meanReward here
def sp_fitted_estimate (K : PySem.W.Frag) (A : Ad) : Sp := fun vs H Q _ => ∃ (l : Addr) (es : List Evt) (c x : Nat), vs = [.ref l, nat c, nat x] ∧ LstAt (EvAt A) H l es ∧ es.length ≤ 1000 ∧ Gives A H Q (fitOf es c x)
section
variable {P : Program} {w : World} {K : PySem.W.Frag} {mg : Str → Option Value} {base : Heap} {A : Ad}
theorem int_beq {m n : Nat} : decide (V.int (m : Int) = V.int (n : Int)) = (m == n) := by
  rw [dec_int]
  by_cases h : m = n
  · subst h
    rw [beq_self_eq_true, beq_self_eq_true]
  · rw [beq_eq_false_iff_ne.mpr h, beq_eq_false_iff_ne.mpr (by omega)]
theorem nat_beq {m n : Nat} : decide (nat m = nat n) = (m == n) := int_beq
theorem ok_term_of (T : Txt K mg A) : FnOk P w K mg base CX0 7 A.f_term_of A.d_term_of ["study", "policy", "kind", "limit", "event"] (sp_term_of K A) := by
  refine T.fn_term_of.ok sc_term_of (fun vs H Q E h => ?_) (fun cdv Ar outer s H vs Q E hr h => ?_)
  · obtain ⟨a, b, e, s, p, ev, kind, limit, rfl, _⟩ := h
    rfl
  · obtain ⟨a, b, e, s, p, ev, kind, limit, rfl, cx, he, ge, k3, l1, l9, k⟩ := h
    obtain ⟨t_DIRECT, k_DIRECT⟩ := T.k_DIRECT
    obtain ⟨t_ROBUST, k_ROBUST⟩ := T.k_ROBUST
    obtain ⟨t_CLIPPED, k_CLIPPED⟩ := T.k_CLIPPED
    refine ⟨_, (pss_cons (ps_if (pt_cmpR op_eq (pv 2) (pe_glob (v := .int 0) rfl k_DIRECT ⟨_, rfl⟩) (nomark _)) (pss_one (ps_ret (pe_call (ok_direct_value T) (hr.mono (by decide)) rfl T.g_direct_value T.fn_direct_value.kp (bi_direct_value T) .nil pass0 (pa_cons (pv 0) (pa_cons (pv 1) (pa_cons (pe_fld (pv 4) rfl) pa_nil)))))) pss_nil)
        (pss_cons (ps_if (pt_cmpR op_eq (pv 2) (pe_glob (v := .int 3) rfl k_ROBUST ⟨_, rfl⟩) (nomark _)) (pss_one (ps_ret (pe_meth (pe_call (ok_direct_value T) (hr.mono (by decide)) rfl T.g_direct_value T.fn_direct_value.kp (bi_direct_value T) .nil pass0 (pa_cons (pv 0) (pa_cons (pv 1) (pa_cons (pe_fld (pv 4) rfl) pa_nil)))) T.cl_Ratio T.me_Ratio_plus (ok_Ratio_plus T) (hr.mono (by decide)) (bi_Ratio_plus T) .nil pass0 (pa_cons (pe_call (ok_correction T) (hr.mono (by decide)) rfl T.g_correction T.fn_correction.kp (bi_correction T) .nil pass0 (pa_cons (pv 0) (pa_cons (pv 1) (pa_cons (pv 4) pa_nil)))) pa_nil)))) pss_nil)
        (pss_cons (ps_set (i := 5) sc_term_of.nd rfl (Or.inl rfl) (pe_call (ok_importance T) (hr.mono (by decide)) rfl T.g_importance T.fn_importance.kp (bi_importance T) .nil pass0 (pa_cons (pv 1) (pa_cons (pv 4) pa_nil))))
        (pss_cons (ps_if (pt_cmpR op_eq (pv 2) (pe_glob (v := .int 2) rfl k_CLIPPED ⟨_, rfl⟩) (nomark _)) (pss_one (ps_set (i := 5) sc_term_of.nd rfl (Or.inl rfl) (pe_meth (pv 5) T.cl_Ratio T.me_Ratio_smaller (ok_Ratio_smaller T) (hr.mono (by decide)) (bi_Ratio_smaller T) .nil pass0 (pa_cons (pe_make T.mk_Ratio (ok_Ratio_init T) (hr.mono (by decide)) rfl T.g_Ratio (bi_Ratio_init T) .nil pass0 (pa_cons (pv 3) (pa_cons pe_int pa_nil))) pa_nil)))) pss_nil)
        (pss_one (ps_ret (pe_meth (pv 5) T.cl_Ratio T.me_Ratio_times (ok_Ratio_times T) (hr.mono (by decide)) (bi_Ratio_times T) .nil pass0 (pa_cons (pe_call (ok_whole T) (hr.mono (by decide)) rfl T.g_whole T.fn_whole.kp (bi_whole T) .nil pass0 (pa_cons (pe_fld (pv 4) rfl) pa_nil)) pa_nil)))))))), ?_⟩
    obtain ⟨de, pr, hee, hpr⟩ := id he
    have sr : Sz (Kp432.ofNat ev.reward) := Sz.nat (Nat.lt_of_le_of_lt ge.rew (by decide))
    refine ⟨_, rfl, rfl, _, rfl, ?_⟩
    by_cases c0 : kind = 0
    · subst c0
      refine iteT ⟨_, rfl, _, rfl, _, rfl, e, _, de, _, _, rfl, hee, T.cl_Event, T.no_Event_context, ev_context ev pr, a, b, s, p, ev.context, rfl, cx, ge.ctx, k⟩
    · rw [decide_eq_false (fun z => c0 (by injection z with z; omega))]
      refine iteF ⟨_, rfl, rfl, _, rfl, ?_⟩
      by_cases c3 : kind = 3
      · subst c3
        refine iteT ⟨_, rfl, _, rfl, _, rfl, e, _, de, _, _, rfl, hee, T.cl_Event, T.no_Event_context, ev_context ev pr, a, b, s, p, ev.context, rfl, cx, ge.ctx, fun u H1 s1 r1 => ?_⟩
        obtain ⟨du, hu⟩ := id r1
        refine ⟨u, du, _, rfl, hu, rat_no _ (by decide +kernel) (by decide +kernel), _, rfl, _, rfl, _, rfl, a, b, e, s, p, ev, rfl, cx.same s1, he.same s1, ge, fun v H2 s2 r2 => ?_⟩
        exact ⟨u, v, _, _, rfl, r1.same s2, r2, sz_direct cx.good cx.gpol ge.ctx, sz_corr cx.good cx.gpol ge, fun z H3 s3 r3 => k z H3 ((s1.trans s2).trans s3) r3⟩
      · rw [decide_eq_false (fun z => c3 (by injection z with z; omega))]
        refine iteF ⟨_, rfl, _, rfl, b, e, p, ev, s, rfl, cx.pol, he, cx.good, cx.gpol, ge, fun u H1 s1 r1 => ?_⟩
        have su := sz_weight cx.good cx.gpol ge
        refine ⟨_, rfl, rfl, _, rfl, ?_⟩
        by_cases c2 : kind = 2
        · subst c2
          obtain ⟨du, hu⟩ := id r1
          have sl : Sz (Kp432.fraction (limit : Nat) 100) := Sz.of (LwM.bd_limit l9) (by decide) (lt60 (by decide)) (lt60 (by decide))
          have sc : Sz (Kp432.clipped (Kp432.fraction (limit : Nat) 100) (Kp432.weight p ev)) := sz_big cx.good cx.gpol (one_pro ge.pro) (by simp) (LwM.bd_clipped (s := s) l9 cx.gpol ge (List.mem_singleton.mpr rfl)) (by decide)
          refine iteT ⟨_, rfl, u, du, _, rfl, hu, rat_no _ (by decide +kernel) (by decide +kernel), _, rfl, ?_⟩
          intro m dm nm nd ne
          refine ⟨m, dm, limit, 100, rfl, upd_same, by decide, Nat.lt_trans (lt60 (by decide)) (Nat.pow_lt_pow_right (by decide) (by decide)), fun H2 r2 kp => ⟨rfl, ?_⟩⟩
          have s2 := Same.made nm nd kp
          refine ⟨u, m, _, _, rfl, r1.same s2, r2, su, sl, fun z rz => ?_⟩
          obtain ⟨dz, hz⟩ := id rz
          refine ⟨_, rfl, z, dz, _, rfl, hz, rat_no _ (by decide +kernel) (by decide +kernel), _, rfl, e, _, de, _, _, rfl, (s1.trans s2) _ _ hee, T.cl_Event, T.no_Event_reward, ev_reward ev pr, ev.reward, rfl, fun n H3 s3 r3 => ?_⟩
          exact ⟨z, n, _, _, rfl, rz.same s3, r3, sc, sr, fun y H4 s4 r4 => k y H4 (((s1.trans s2).trans s3).trans s4) r4⟩
        · rw [decide_eq_false (fun z => c2 (by injection z with z; omega))]
          have c1 : kind = 1 := by omega
          subst c1
          obtain ⟨du, hu⟩ := id r1
          refine iteF ⟨_, rfl, u, du, _, rfl, hu, rat_no _ (by decide +kernel) (by decide +kernel), _, rfl, e, _, de, _, _, rfl, s1 _ _ hee, T.cl_Event, T.no_Event_reward, ev_reward ev pr, ev.reward, rfl, fun n H3 s3 r3 => ?_⟩
          exact ⟨u, n, _, _, rfl, r1.same s3, r3, su, sr, fun y H4 s4 r4 => k y H4 ((s1.trans s3).trans s4) r4⟩
theorem ok_terms_of (T : Txt K mg A) : FnOk P w K mg base CX0 8 A.f_terms_of A.d_terms_of ["study", "policy", "kind", "limit", "events"] (sp_terms_of K A) := by
  refine T.fn_terms_of.ok sc_terms_of (fun vs H Q E h => ?_) (fun cdv Ar outer s H vs Q E hr h => ?_)
  · obtain ⟨a, b, l, s, p, kind, limit, es, rfl, _⟩ := h
    rfl
  · obtain ⟨a, b, l, s, p, kind, limit, es, rfl, cx, hl, hg, h9, k3, l1, l9, k⟩ := h
    refine ⟨_, (pss_one (ps_ret (pe_lc (own := [("event", 5)]) (g := gName 5) (tt := tYes) (te := (tCall (sp_term_of K A) [] E0 (tCons (tVar 0) (tCons (tVar 1) (tCons (tVar 2) (tCons (tVar 3) (tCons (tVar 5) tNil))))))) (by rfl) sc_terms_of.nd (pi_list (pv 4)) (blkOk_by (own := [("event", 5)]) (N := ["study", "policy", "kind", "limit", "events", "event"]) (sc := defScope s_terms_of) (by decide +kernel)) (fun _ _ _ _ _ => pg_name (i := 5) sc_terms_of.nd rfl (Or.inl rfl)) (fun _ _ _ _ _ => pts_nil) (fun _ _ _ _ _ => (pe_call (ok_term_of T) (hr.mono (by decide)) rfl T.g_term_of T.fn_term_of.kp (bi_term_of T) .nil pass0 (pa_cons (pv 0) (pa_cons (pv 1) (pa_cons (pv 2) (pa_cons (pv 3) (pa_cons (pv 5) pa_nil)))))))))), ?_⟩
    refine comp_objs (R := EvAt A) (stays_rat (A := A)) (Kp432.term s p (est kind limit)) hl (fun s1 r => r.same s1) h9 (fun Z hT => ⟨_, rfl, hT⟩) ?_ (fun D H1 _ s1 r => k D H1 s1 r.refs)
    intro x e H1 D hx he s1 ⟨acc, hD⟩ R hR
    exact ⟨_, rfl, _, rfl, _, rfl, _, rfl, _, rfl, a, b, e, s, p, x, kind, limit, rfl, cx.same s1, he, hg x hx, k3, l1, l9, fun q H2 s2 r2 => hR _ _ s2 ⟨q, rfl, r2⟩ (rat_ne r2 (s2 _ _ hD))⟩
theorem ok_variance_of_mean (T : Txt K mg A) : FnOk P w K mg base CX0 7 A.f_variance_of_mean A.d_variance_of_mean ["terms"] (sp_variance_of_mean K A) := by
  refine T.fn_variance_of_mean.ok sc_variance_of_mean (fun vs H Q E h => ?_) (fun cdv Ar outer s H vs Q E hr h => ?_)
  · obtain ⟨l, xs, rfl, _⟩ := h
    rfl
  · obtain ⟨l, xs, rfl, hl, fit, h2, k⟩ := h
    refine ⟨_, (pss_cons (ps_set (i := 1) sc_variance_of_mean.nd rfl (Or.inr rfl) (pe_call (ok_mean T) (hr.mono (by decide)) rfl T.g_mean T.fn_mean.kp (bi_mean T) .nil pass0 (pa_cons (pv 0) pa_nil)))
        (pss_cons (ps_setLc (i := 2) (own := [("term", 3)]) (g := gName 3) (tt := tYes) (te := (tMeth A.c_Ratio "squared" (sp_Ratio_squared K A) [] E0 (tMeth A.c_Ratio "minus" (sp_Ratio_minus K A) [] E0 (tVar 3) (tCons (tVar 1) tNil)) tNil)) (by rfl) sc_variance_of_mean.nd rfl rfl (sw_true rfl rfl rfl (by decide +kernel)) (pi_list (pv 0)) (blkOk_by (own := [("term", 3)]) (N := ["terms", "middle", "squares", "term"]) (sc := defScope s_variance_of_mean) (by decide +kernel)) (fun _ _ _ _ _ => pg_name (i := 3) sc_variance_of_mean.nd rfl (Or.inl rfl)) (fun _ _ _ _ _ => pts_nil) (fun _ _ _ _ _ => (pe_meth0 (pe_meth (pv 3) T.cl_Ratio T.me_Ratio_minus (ok_Ratio_minus T) (hr.mono (by decide)) (bi_Ratio_minus T) .nil pass0 (pa_cons (pv 1) pa_nil)) T.cl_Ratio T.me_Ratio_squared (ok_Ratio_squared T) (hr.mono (by decide)) (bi_Ratio_squared T) .nil pass0)))
        (pss_one (ps_ret (pe_meth (pe_call (ok_total T) (hr.mono (by decide)) rfl T.g_total T.fn_total.kp (bi_total T) .nil pass0 (pa_cons (pv 2) pa_nil)) T.cl_Ratio T.me_Ratio_over (ok_Ratio_over T) (hr.mono (by decide)) (bi_Ratio_over T) .nil pass0 (pa_cons (pe_call (ok_whole T) (hr.mono (by decide)) rfl T.g_whole T.fn_whole.kp (bi_whole T) .nil pass0 (pa_cons (pe_op op_mulW (pe_op op_sub (pe_callB call_len_seq (by rfl) T.n_len PySem.boot_len (pa_cons (pv 0) pa_nil)) pe_int) (pe_callB call_len_seq (by rfl) T.n_len PySem.boot_len (pa_cons (pv 0) pa_nil))) pa_nil)) pa_nil)))))), ?_⟩
    have h0 : 0 < xs.length := by omega
    have h40 : xs.length ≤ 40 := by
      obtain ⟨D, M, _, q, _⟩ := fit.ex
      exact q
    refine ⟨_, rfl, l, xs, rfl, hl, fit.fit, by omega, fun m H1 s1 r1 => ?_⟩
    rw [← LwM.pmean_eq h0] at r1
    refine to_name (to_nx (to_seq (to_asg ?_)))
    refine comp_objs (R := RatAt A) (stays_rat (A := A)) (fun t => Kp432.square (Kp432.sub t (LwM.pmean xs))) (hl.same s1) (fun s r => r.same s) (by omega) (fun Z hZ => ⟨_, rfl, hZ⟩) ?_ fun D H2 _ s2 r2 => ?_
    · intro x a H2 D hx ra s2 ⟨acc, hD⟩ Z hZ
      obtain ⟨da, ha⟩ := id ra
      refine ⟨_, rfl, a, da, _, rfl, ha, rat_no _ (by decide +kernel) (by decide +kernel), _, rfl, a, m, _, _, rfl, ra, r1.same s2, fit.fit.all hx, fit.mean h0, fun u H3 s3 r3 => ?_⟩
      obtain ⟨du, hu⟩ := id r3
      exact ⟨u, du, _, rfl, hu, rat_no _ (by decide +kernel) (by decide +kernel), u, _, rfl, r3, fit.diff h0 hx, fun v H4 s4 r4 => hZ _ _ (s3.trans s4) ⟨v, rfl, r4⟩ (rat_ne r4 ((s3.trans s4) _ _ hD))⟩
    · have r2 : RatsAt A H2 D (LwM.psq xs) := r2.refs
      refine ⟨_, rfl, D, _, rfl, r2, fit.sq h0, fun t H3 s3 r3 => ?_⟩
      obtain ⟨dt, ht⟩ := id r3
      obtain ⟨as, e1, e2, _⟩ := (hl.same ((s1.trans s2).trans s3)).ex
      have small : (xs.length - 1) * xs.length < 2 ^ 60 := Nat.lt_of_le_of_lt (Nat.mul_le_mul (show xs.length - 1 ≤ 40 by omega) h40) (by decide)
      have pos : 0 < (xs.length - 1) * xs.length := Nat.mul_pos (by omega) h0
      refine ⟨t, dt, _, rfl, ht, rat_no _ (by decide +kernel) (by decide +kernel), _, rfl, l, _, rfl, .inl (SqL.of e1), _, _, rfl, rfl, _, rfl, l, _, rfl, .inl (SqL.of e1), _, _, rfl, rfl, ?_, (xs.length - 1) * xs.length, ?_, fun n H4 s4 r4 => ?_⟩
      · rw [List.length_map, e2]
        refine wide_mul (a := 60) (b := 60) ?_ ?_ (by decide) (by decide) (by decide)
        · exact Nat.lt_of_le_of_lt (show ((xs.length : Int) - 1).natAbs ≤ 40 by omega) (by decide)
        · rw [Int.natAbs_natCast]
          exact Nat.lt_of_le_of_lt h40 (by decide)
      · rw [List.length_map, e2, Int.natCast_mul]
        have : ((xs.length - 1 : Nat) : Int) = (xs.length : Int) - 1 := by omega
        rw [this]
        rfl
      · refine ⟨t, n, _, _, rfl, ⟨dt, s4 _ _ ht⟩, r4, (fit.sq h0).total, Sz.nat small, (by show (0 : Int) < (((xs.length - 1) * xs.length : Nat) : Int); omega), nat4500 small, fun z H5 s5 r5 => ?_⟩
        refine k z H5 ((((s1.trans s2).trans s3).trans s4).trans s5) ?_
        rw [← LwM.pvar_eq h2 (fun x hx => (fit.fit.all hx).pos)]
        exact r5
theorem ok_mean_reward (T : Txt K mg A) : FnOk P w K mg base CX0 4 A.f_mean_reward A.d_mean_reward ["events"] (sp_mean_reward K A) := by
  refine T.fn_mean_reward.ok sc_mean_reward (fun vs H Q E h => ?_) (fun cdv Ar outer s H vs Q E hr h => ?_)
  · obtain ⟨l, es, rfl, _⟩ := h
    rfl
  · obtain ⟨l, es, rfl, hl, h0, h9, k⟩ := h
    refine ⟨_, (pss_one (ps_ret (pe_make T.mk_Ratio (ok_Ratio_init T) (hr.mono (by decide)) rfl T.g_Ratio (bi_Ratio_init T) .nil pass0 (pa_cons (pe_callB (cr_sum (by rfl)) (by rfl) T.n_sum (by decide +kernel) (pa_cons (pe_lc (own := [("event", 1)]) (g := gName 1) (tt := tYes) (te := (tFld K (tVar 1) "reward")) (by rfl) sc_mean_reward.nd (pi_list (pv 0)) (blkOk_by (own := [("event", 1)]) (N := ["events", "event"]) (sc := defScope s_mean_reward) (by decide +kernel)) (fun _ _ _ _ _ => pg_name (i := 1) sc_mean_reward.nd rfl (Or.inl rfl)) (fun _ _ _ _ _ => pts_nil) (fun _ _ _ _ _ => (pe_fld (pv 1) rfl))) pa_nil)) (pa_cons (pe_callB call_len_seq (by rfl) T.n_len PySem.boot_len (pa_cons (pv 0) pa_nil)) pa_nil))))), ?_⟩
    refine to_ret (to_make (to_cons (to_cb (to_cons ?_))))
    refine comp_objs (R := EvAt A) (stays_val (f := fun n : Int => V.int n)) (fun e : Evt => ((e.reward : Nat) : Int)) hl (fun s r => r.same s) h9 (fun Z hZ => ⟨_, rfl, hZ⟩) ?_ fun D H1 _ s1 r1 => ?_
    · intro x e H1 D hx ⟨de, pr, he, _⟩ s1 hD Z hZ
      exact ⟨_, rfl, e, _, de, _, _, rfl, he, T.cl_Event, T.no_Event_reward, ev_reward x pr, hZ _ _ (Same.refl _) rfl (fun z => nomatch z)⟩
    · have r2 := r1.vals
      obtain ⟨as, e1, e2, _⟩ := (hl.same s1 fun _ _ q => q.same s1).ex
      refine ⟨D, _, rfl, SqL.of r2, _, rfl, l, _, rfl, .inl (SqL.of e1), ?_⟩
      have es0 : (es.map fun e : Evt => ((e.reward : Nat) : Int)).sum = (((es.map Kp432.Event.reward).sum : Nat) : Int) := by
        rw [← LwM.sum_cast, List.map_map]
        rfl
      rw [es0]
      refine mk_rat (d := es.length) (by rw [List.length_map, e2]) h0 (Nat.lt_trans (lt60 (Nat.lt_of_le_of_lt h9 (by decide))) (Nat.pow_lt_pow_right (by decide) (by decide))) fun z H2 s2 r3 => k z H2 (s1.trans s2) ?_
      unfold Kp432.meanReward
      rw [if_neg (by cases es with | nil => simp at h0 | cons _ _ => simp)]
      exact r3
theorem ok_fitted_estimate (T : Txt K mg A) : FnOk P w K mg base CX0 5 A.f_fitted_estimate A.d_fitted_estimate ["events", "context", "action"] (sp_fitted_estimate K A) := by
  refine T.fn_fitted_estimate.ok sc_fitted_estimate (fun vs H Q E h => ?_) (fun cdv Ar outer s H vs Q E hr h => ?_)
  · obtain ⟨l, es, c, x, rfl, _⟩ := h
    rfl
  · obtain ⟨l, es, c, x, rfl, hl, h9, k⟩ := h
    refine ⟨_, (pss_cons (ps_setLc (i := 3) (own := [("event", 5)]) (g := gName 5) (tt := (tTest (tOp rEq (tFld K (tVar 5) "action") (tVar 2)))) (te := (tVar 5)) (by rfl) sc_fitted_estimate.nd rfl rfl (sw_true rfl rfl rfl (by decide +kernel)) (pi_list (pv 0)) (blkOk_by (own := [("event", 5)]) (N := ["events", "context", "action", "with_action", "with_both", "event"]) (sc := defScope s_fitted_estimate) (by decide +kernel)) (fun _ _ _ _ _ => pg_name (i := 5) sc_fitted_estimate.nd rfl (Or.inl rfl)) (fun _ _ _ _ _ => (pts_one (pt_cmpR op_eq (pe_fld (pv 5) rfl) (pv 2) (nomark _)))) (fun _ _ _ _ _ => (pv 5)))
        (pss_cons (ps_setLc (i := 4) (own := [("event", 5)]) (g := gName 5) (tt := (tTest (tOp rEq (tFld K (tVar 5) "context") (tVar 1)))) (te := (tVar 5)) (by rfl) sc_fitted_estimate.nd rfl rfl (sw_true rfl rfl rfl (by decide +kernel)) (pi_list (pv 3)) (blkOk_by (own := [("event", 5)]) (N := ["events", "context", "action", "with_action", "with_both", "event"]) (sc := defScope s_fitted_estimate) (by decide +kernel)) (fun _ _ _ _ _ => pg_name (i := 5) sc_fitted_estimate.nd rfl (Or.inl rfl)) (fun _ _ _ _ _ => (pts_one (pt_cmpR op_eq (pe_fld (pv 5) rfl) (pv 1) (nomark _)))) (fun _ _ _ _ _ => (pv 5)))
        (pss_cons (ps_if (pt_cmpR op_gt (pe_callB call_len_seq (by rfl) T.n_len PySem.boot_len (pa_cons (pv 4) pa_nil)) pe_int (nomark _)) (pss_one (ps_ret (pe_call (ok_mean_reward T) (hr.mono (by decide)) rfl T.g_mean_reward T.fn_mean_reward.kp (bi_mean_reward T) .nil pass0 (pa_cons (pv 4) pa_nil)))) pss_nil)
        (pss_cons (ps_if (pt_cmpR op_gt (pe_callB call_len_seq (by rfl) T.n_len PySem.boot_len (pa_cons (pv 3) pa_nil)) pe_int (nomark _)) (pss_one (ps_ret (pe_call (ok_mean_reward T) (hr.mono (by decide)) rfl T.g_mean_reward T.fn_mean_reward.kp (bi_mean_reward T) .nil pass0 (pa_cons (pv 3) pa_nil)))) pss_nil)
        (pss_one (ps_ret (pe_call (ok_whole T) (hr.mono (by decide)) rfl T.g_whole T.fn_whole.kp (bi_whole T) .nil pass0 (pa_cons pe_int pa_nil)))))))), ?_⟩
    obtain ⟨as, e1, e2, e3⟩ := hl.ex
    refine to_seq (to_asg (comp_filter (R := EvAt A) (fun e : Evt => e.action == x) (by show 5 < 6; decide) e1 e2 h9 (fun Z hZ => ⟨_, rfl, hZ⟩) e3 ?_ fun D1 H1 n1 s1 hb => ?_))
    · intro a e H1 ⟨de, pr, he, _⟩ hx s1 Z hZ
      refine ⟨_, rfl, a, _, de, _, _, rfl, s1 _ _ he, T.cl_Event, T.no_Event_action, ev_action e pr, _, rfl, rfl, _, rfl, ?_⟩
      rw [nat_beq]
      exact hZ
    · obtain ⟨bs, b1, b2, b3, b4⟩ := hb
      refine to_name (to_nx (to_seq (to_asg (comp_filter (R := EvAt A) (fun e : Evt => e.context == c) (by show 5 < 6; decide) b1 b2 (Nat.le_trans (List.length_filter_le _ _) h9) (fun Z hZ => ⟨_, rfl, hZ⟩) (fun i a y ha hy => (b4 i a y ha hy).same s1) ?_ fun D2 H2 n2 s2 hb2 => ?_))))
      · intro a e H2 ⟨de, pr, he, _⟩ hx s2 Z hZ
        refine ⟨_, rfl, a, _, de, _, _, rfl, s2 _ _ he, T.cl_Event, T.no_Event_context, ev_context e pr, _, rfl, rfl, _, rfl, ?_⟩
        rw [nat_beq]
        exact hZ
      · obtain ⟨cs, c1, c2, c3, c4⟩ := hb2
        have eb : (es.filter fun e : Evt => e.action == x).filter (fun e : Evt => e.context == c) = es.filter fun e : Evt => e.context == c && e.action == x := List.filter_filter
        rw [eb] at c2 c4
        have hk : Gives A H Q (if (es.filter fun e : Evt => e.context == c && e.action == x).isEmpty then Kp432.meanReward (es.filter fun e : Evt => e.action == x) else Kp432.meanReward (es.filter fun e : Evt => e.context == c && e.action == x)) := k
        have l1 : LstAt (EvAt A) H2 D1 (es.filter fun e : Evt => e.action == x) := ⟨bs, s2 _ _ b1, b2, fun i a y ha hy => (b4 i a y ha hy).same (s1.trans s2)⟩
        have l2 : LstAt (EvAt A) H2 D2 (es.filter fun e : Evt => e.context == c && e.action == x) := ⟨cs, c1, c2, fun i a y ha hy => (c4 i a y ha hy).same s2⟩
        refine ⟨_, rfl, D2, _, rfl, .inl (SqL.of c1), _, _, rfl, rfl, _, rfl, ?_⟩
        rw [List.length_map, c2]
        by_cases z : (0 : Int) < ((es.filter fun e : Evt => e.context == c && e.action == x).length : Int)
        · rw [decide_eq_true z]
          refine iteT ⟨_, rfl, D2, _, rfl, l2, by omega, Nat.le_trans (List.length_filter_le _ _) h9, fun q H3 s3 r3 => hk q H3 ((s1.trans s2).trans s3) ?_⟩
          rw [if_neg (by rw [List.isEmpty_iff]; intro e; rw [e] at z; simp at z)]
          exact r3
        · rw [decide_eq_false z]
          have emp : (es.filter fun e : Evt => e.context == c && e.action == x).isEmpty = true := by
            rw [List.isEmpty_iff]
            exact List.eq_nil_of_length_eq_zero (by omega)
          rw [emp, if_pos rfl] at hk
          refine iteF ⟨_, rfl, D1, _, rfl, .inl (SqL.of (s2 _ _ b1)), _, _, rfl, rfl, _, rfl, ?_⟩
          rw [List.length_map, b2]
          by_cases z1 : (0 : Int) < ((es.filter fun e : Evt => e.action == x).length : Int)
          · rw [decide_eq_true z1]
            exact iteT ⟨_, rfl, D1, _, rfl, l1, by omega, Nat.le_trans (List.length_filter_le _ _) h9, fun q H3 s3 r3 => hk q H3 ((s1.trans s2).trans s3) r3⟩
          · rw [decide_eq_false z1]
            have e0 : (es.filter fun e : Evt => e.action == x) = [] := List.eq_nil_of_length_eq_zero (by omega)
            rw [e0] at hk
            exact iteF ⟨0, rfl, fun q H3 s3 r3 => hk q H3 ((s1.trans s2).trans s3) r3⟩
end
end Lw
end
/-! LwState -/
section
set_option Elab.async false
set_option linter.all false
set_option maxRecDepth 100000
set_option maxHeartbeats 4000000
/-! a new study -/
namespace Lw
open PySem PySem.Spec PyProof.Rows L2
open Kp432 (Fraction Study Policy)
/-- what S says stays where the list that is being made grows -/
structure StaysD {β : Type} (S : Addr → Hp → V → β → Prop) : Prop where
  same : ∀ {D : Addr} {H1 H2 : Hp} {v : V} {y : β}, Same H1 H2 → S D H1 v y → S D H2 v y
  grow : ∀ {D : Addr} {H1 : Hp} {xs zs : List V} {v : V} {y : β}, H1 D = some (.lst xs) → S D H1 v y → S D (L2.upd H1 D (.lst zs)) v y
theorem comp_ofD {J : It} {n : Nat} {G : Hp → Prop} {Y : Nat → Hp → V → Hp → Prop} (w : Walk J n G Y) {wi : TI} {g : TG} {te : TE} {vs : List Nat} {σ : L2.St} {H : Hp} {Q : VK} {β : Type} {S : Addr → Hp → V → β → Prop} (st : StaysD S) (ys : List β)
    (hlen : ys.length = n) (small : n ≤ 1000) (hG : ∀ H1, Same H H1 → G H1) (hwi : ∀ R : It → Hp → Prop, R J H → wi σ H R)
    (step : ∀ (i : Nat) (y : β) (x : V) (H1 H2 : Hp) (D : Addr), ys[i]? = some y → H D = none → Same H H1 → (∃ acc, H1 D = some (.lst acc)) → Y i H1 x H2 → ∀ R : VK, (∀ v H3, Same H1 H3 → S D H3 v y → R v H3) →
      g x (wipe σ vs) H2 fun σ2 H4 => wipe σ2 vs = wipe σ vs ∧ te σ2 H4 R)
    (k : ∀ D H1, H D = none → Same H H1 → LstV (S D) H1 D ys → Q (.ref D) H1) : tLc wi g tYes te vs σ H Q := by
  refine hwi _ fun D nD => lc_it w (fun i H1 => Same H H1 ∧ ∃ acc : List V, H1 D = some (.lst acc) ∧ acc.length = i ∧ ∀ (j : Nat) (v : V) (y : β), acc[j]? = some v → ys[j]? = some y → S D H1 v y) ?_ ?_ ?_ ?_
  · exact ⟨Same.new nD, [], upd_same, rfl, fun j v y hv => by simp at hv⟩
  · rintro i H1 hi ⟨s1, _⟩
    exact hG H1 s1
  · rintro i x H1 H2 hi ⟨s1, acc, hD, hl, hS⟩ hY
    obtain ⟨y, hy⟩ : ∃ y, ys[i]? = some y := ⟨ys[i]'(by omega), List.getElem?_eq_getElem (by omega)⟩
    refine step i y x H1 H2 D hy nD s1 ⟨acc, hD⟩ hY _ fun v H3 s3 hv => ?_
    have hD3 := s3 _ _ hD
    refine ⟨acc, hD3, by rw [hl]; exact size1000 (by omega), Same.upd_new (s1.trans s3) nD, acc ++ [v], upd_same, by rw [List.length_append, hl]; rfl, ?_⟩
    intro j u z hu hz
    by_cases hj : j < acc.length
    · rw [List.getElem?_append_left hj] at hu
      exact st.grow hD3 (st.same s3 (hS j u z hu hz))
    · rw [List.getElem?_append_right (by omega)] at hu
      have e0 : j - acc.length = 0 := by
        have := (List.getElem?_eq_some_iff.mp hu).1
        simp at this
        omega
      rw [e0] at hu
      have eu : v = u := Option.some.inj hu
      have ej : j = i := by omega
      subst ej
      rw [hy] at hz
      have ez : y = z := Option.some.inj hz
      subst eu ez
      exact st.grow hD3 hv
  · rintro H1 ⟨s1, acc, hD, hl, hS⟩
    exact k D H1 nD s1 ⟨acc, hD, by omega, hS⟩
/-- all but the instance p as it was -/
def SameBut (p : Addr) (H H' : Hp) : Prop := ∀ b o, H b = some o → b ≠ p → H' b = some o
theorem SameBut.refl {p : Addr} {H : Hp} : SameBut p H H := fun _ _ h _ => h
theorem SameBut.then {p : Addr} {H H1 H2 : Hp} (a : SameBut p H H1) (b : Same H1 H2) : SameBut p H H2 := fun c o h n => b c o (a c o h n)
theorem SameBut.put {p : Addr} {H H1 : Hp} {o : HO} (a : SameBut p H H1) : SameBut p H (L2.upd H1 p o) := fun c u h n => by
  rw [upd_ne n]
  exact a c u h n
/-- the rows of a grid: all alike, all new -/
structure GridAt (H0 H : Hp) (D : Addr) (n k : Nat) (v : V) : Prop where
  ex : ∃ as : List Addr, H D = some (.lst (as.map V.ref)) ∧ as.length = n ∧ ∀ a ∈ as, H a = some (.lst (List.replicate k v)) ∧ H0 a = none ∧ a ≠ D
def sp_Event_init (K : PySem.W.Frag) (A : Ad) : Sp := fun vs H Q _ => ∃ (p dx pr : Addr) (e : Evt), vs = [.ref p, nat e.context, nat e.action, nat e.reward, .ref pr] ∧ H p = some (.ins A.c_Event dx []) ∧
  ∀ H', H' p = some (.ins A.c_Event dx (evF e pr)) → SameBut p H H' → Q .non H'
def sp_Policy_init (K : PySem.W.Frag) (A : Ad) : Sp := fun vs H Q _ => ∃ (p dx l : Addr), vs = [.ref p, .ref l] ∧ H p = some (.ins A.c_Policy dx []) ∧
  ∀ H', H' p = some (.ins A.c_Policy dx (polF l)) → SameBut p H H' → Q .non H'
def sp_grid (K : PySem.W.Frag) (A : Ad) : Sp := fun vs H Q _ => ∃ (n k : Nat) (v : V), vs = [nat n, nat k, v] ∧ n ≤ 1000 ∧ k ≤ 1000 ∧ ∀ D H1, H D = none → Same H H1 → GridAt H H1 D n k v → Q (.ref D) H1
theorem rep_flat {k : Nat} {v : V} : (List.replicate k [v]).flatten = List.replicate k v := by
  induction k with
  | zero => rfl
  | succ k ih =>
    rw [List.replicate_succ, List.flatten_cons, ih]
    rfl
def rowS (H0 : Hp) (k : Nat) (v : V) : Addr → Hp → V → Nat → Prop := fun D H u _ => ∃ a, u = .ref a ∧ H a = some (.lst (List.replicate k v)) ∧ H0 a = none ∧ a ≠ D
theorem stays_row {H0 : Hp} {k : Nat} {v : V} : StaysD (rowS H0 k v) where
  same := fun s h => by
    obtain ⟨a, e, h1, h2, h3⟩ := h
    exact ⟨a, e, s _ _ h1, h2, h3⟩
  grow := fun _ h => by
    obtain ⟨a, e, h1, h2, h3⟩ := h
    exact ⟨a, e, by rw [upd_ne h3]; exact h1, h2, h3⟩
section
variable {P : Program} {w : World} {K : PySem.W.Frag} {mg : Str → Option Value} {base : Heap} {A : Ad}
/-- a new event -/
theorem mk_event {H : Hp} {Q : VK} {E : XK} {pr : Addr} {e : Evt} (hp : RatAt A H pr e.propensity) (k : ∀ (p : Addr) (H' : Hp), Same H H' → EvAt A H' p e → Q (.ref p) H') :
    ∀ x dx, H x = none → H dx = none → dx ≠ x → sp_Event_init K A (.ref x :: ([nat e.context, nat e.action, nat e.reward, .ref pr] ++ [])) (upd (upd H dx (.own x)) x (.ins A.c_Event dx [])) (fun v H2 => v = .non ∧ Q (.ref x) H2) E := by
  intro x dx nx nd ne
  refine ⟨x, dx, pr, e, rfl, upd_same, fun H' h kp => ⟨rfl, ?_⟩⟩
  have s := Same.made nx nd kp
  exact k x H' s ⟨dx, pr, h, hp.same s⟩
theorem ok_Event_init (T : Txt K mg A) : FnOk P w K mg base CX0 1 A.f_Event_init A.d_Event_init ["self", "context", "action", "reward", "propensity"] (sp_Event_init K A) := by
  refine T.fn_Event_init.ok sc_Event_init (fun vs H Q E h => ?_) (fun cdv Ar outer s H vs Q E hr h => ?_)
  · obtain ⟨p, dx, pr, e, rfl, _⟩ := h
    rfl
  · obtain ⟨p, dx, pr, e, rfl, hp, k⟩ := h
    refine ⟨_, (pss_cons (ps_fld (pv 0) (pv 1) rfl)
        (pss_cons (ps_fld (pv 0) (pv 2) rfl)
        (pss_cons (ps_fld (pv 0) (pv 3) rfl)
        (pss_one (ps_fld (pv 0) (pv 4) rfl))))), ?_⟩
    refine ⟨_, rfl, _, rfl, p, _, dx, _, rfl, hp, T.cl_Event, T.no_Event_context, (by show 0 < 1000; decide), ?_⟩
    refine ⟨_, rfl, _, rfl, p, _, dx, _, rfl, upd_same, T.cl_Event, T.no_Event_action, (by show 1 < 1000; decide), ?_⟩
    refine ⟨_, rfl, _, rfl, p, _, dx, _, rfl, upd_same, T.cl_Event, T.no_Event_reward, (by show 2 < 1000; decide), ?_⟩
    refine ⟨_, rfl, _, rfl, p, _, dx, _, rfl, upd_same, T.cl_Event, T.no_Event_propensity, (by show 3 < 1000; decide), ?_⟩
    exact k _ upd_same (SameBut.refl.put.put.put.put)
theorem ok_Policy_init (T : Txt K mg A) : FnOk P w K mg base CX0 1 A.f_Policy_init A.d_Policy_init ["self", "weights"] (sp_Policy_init K A) := by
  refine T.fn_Policy_init.ok sc_Policy_init (fun vs H Q E h => ?_) (fun cdv Ar outer s H vs Q E hr h => ?_)
  · obtain ⟨p, dx, l, rfl, _⟩ := h
    rfl
  · obtain ⟨p, dx, l, rfl, hp, k⟩ := h
    refine ⟨_, (pss_one (ps_fld (pv 0) (pv 1) rfl)), ?_⟩
    refine ⟨_, rfl, _, rfl, p, _, dx, _, rfl, hp, T.cl_Policy, T.no_Policy_weights, (by show 0 < 1000; decide), ?_⟩
    exact k _ upd_same (SameBut.refl.put)
theorem ok_grid (T : Txt K mg A) : FnOk P w K mg base CX0 1 A.f_grid A.d_grid ["contexts", "actions", "value"] (sp_grid K A) := by
  refine T.fn_grid.ok sc_grid (fun vs H Q E h => ?_) (fun cdv Ar outer s H vs Q E hr h => ?_)
  · obtain ⟨n, m, v, rfl, _⟩ := h
    rfl
  · obtain ⟨n, m, v, rfl, hn, hm, k⟩ := h
    refine ⟨_, (pss_one (ps_ret (pe_lc (own := [("context", 3)]) (g := gName 3) (tt := tYes) (te := (tOp rRep (tLst (tCons (tVar 2) tNil)) (tVar 1))) (by rfl) sc_grid.nd (pi_range1 (by rfl) T.n_range (pa_cons (pv 0) pa_nil)) (blkOk_by (own := [("context", 3)]) (N := ["contexts", "actions", "value", "context"]) (sc := defScope s_grid) (by decide +kernel)) (fun _ _ _ _ _ => pg_name (i := 3) sc_grid.nd rfl (Or.inl rfl)) (fun _ _ _ _ _ => pts_nil) (fun _ _ _ _ _ => (pe_op op_rep (pe_lst (pa_cons (pv 2) pa_nil)) (pv 1)))))), ?_⟩
    refine to_ret (comp_ofD (walk_range (lo := 0) (n := n)) (stays_row (H0 := H) (k := m) (v := v)) (List.range n) List.length_range hn (fun _ _ => trivial) ?_ ?_ ?_)
    · intro R hR
      refine ⟨_, rfl, n, rfl, by omega, by omega, ?_⟩
      exact hR
    · rintro i y x H1 H2 D hy nD s1 ⟨acc, hD⟩ ⟨rfl, rfl⟩ R hR
      refine ⟨rfl, _, rfl, (by show 1 ≤ sizeLine; decide), fun p hp => ?_⟩
      have sp : Same H2 (L2.upd H2 p (.lst [v])) := Same.new hp
      refine ⟨_, rfl, p, m, _, rfl, rfl, upd_same, by omega, by omega, ?_, fun q hq => ?_⟩
      · show 1 * (m : Int).toNat ≤ sizeLine
        have : m < sizeLine := size1000 hm
        omega
      · have sq : Same H2 (L2.upd (L2.upd H2 p (.lst [v])) q (.lst (List.replicate (m : Int).toNat [v]).flatten)) := sp.trans (Same.new hq)
        have nq : H2 q = none := sp.free hq
        refine hR _ _ sq ⟨q, rfl, ?_, s1.free nq, fun e => ?_⟩
        · rw [upd_same, rep_flat]
          rfl
        · rw [e, hD] at nq
          cases nq
    · intro D H1 nD s1 hl
      have r : LstAt (fun H' a (_ : Nat) => H' a = some (.lst (List.replicate m v)) ∧ H a = none ∧ a ≠ D) H1 D (List.range n) := LstV.refs hl
      obtain ⟨as, e1, e2, e3⟩ := r.ex
      rw [List.length_range] at e2
      refine k D H1 nD s1 ⟨as, e1, e2, fun a ha => ?_⟩
      obtain ⟨i, hi, ei⟩ := List.getElem_of_mem ha
      exact e3 i a i (by rw [← ei]; exact List.getElem?_eq_getElem hi) (List.getElem?_range (by omega))
end
end Lw
end
/-! LwState2 -/
section
set_option Elab.async false
set_option linter.all false
set_option maxRecDepth 100000
set_option maxHeartbeats 4000000
/-! a new study, made -/
namespace Lw
open PySem PySem.Spec PyProof.Rows L2
open Kp432 (Fraction Study Policy)
def sp_Study_init (K : PySem.W.Frag) (A : Ad) : Sp := fun vs H Q _ => ∃ (p dx : Addr) (n k : Nat), vs = [.ref p, nat n, nat k] ∧ H p = some (.ins A.c_Study dx []) ∧ 1 ≤ n ∧ n ≤ 6 ∧ 1 ≤ k ∧ k ≤ 5 ∧
  ∀ H' M, StAt A H' p (LwM.fresh n k) M → (∀ m ∈ M, H m = none) → SameBut p H H' → Q .non H'
/-- a policy with the same weights everywhere, its weights at l; made where H0 was -/
structure PolG (A : Ad) (H0 H : Hp) (n k : Nat) (p l D : Addr) : Prop where
  ins : ∃ dx, H p = some (.ins A.c_Policy dx (polF l))
  np : H0 p = none
  nl : H0 l = none
  lD : l ≠ D
  rows : ∃ as : List Addr, H l = some (.lst (as.map V.ref)) ∧ as.length = n ∧ ∀ a ∈ as, H a = some (.lst (List.replicate k (nat 1))) ∧ H0 a = none ∧ a ≠ D
theorem PolG.same {A : Ad} {H0 H H' : Hp} {n k : Nat} {p l D : Addr} (h : PolG A H0 H n k p l D) (s : Same H H') : PolG A H0 H' n k p l D := by
  obtain ⟨dx, e⟩ := h.ins
  obtain ⟨as, h1, h2, h3⟩ := h.rows
  exact ⟨⟨dx, s _ _ e⟩, h.np, h.nl, h.lD, as, s _ _ h1, h2, fun a ha => ⟨s _ _ (h3 a ha).1, (h3 a ha).2⟩⟩
theorem PolG.grow {A : Ad} {H0 H : Hp} {n k : Nat} {p l D : Addr} {xs zs : List V} (h : PolG A H0 H n k p l D) (hD : H D = some (.lst xs)) : PolG A H0 (L2.upd H D (.lst zs)) n k p l D := by
  obtain ⟨dx, e⟩ := h.ins
  obtain ⟨as, h1, h2, h3⟩ := h.rows
  refine ⟨⟨dx, ?_⟩, h.np, h.nl, h.lD, as, ?_, h2, fun a ha => ⟨?_, (h3 a ha).2⟩⟩
  · rw [upd_ne (ne_of e hD (by intro z; cases z))]
    exact e
  · rw [upd_ne h.lD]
    exact h1
  · rw [upd_ne (h3 a ha).2.2]
    exact (h3 a ha).1
theorem PolG.put {A : Ad} {H0 H : Hp} {n k : Nat} {p l D x : Addr} {o u : HO} (h : PolG A H0 H n k p l D) (hx : H0 x = some u) : PolG A H0 (L2.upd H x o) n k p l D := by
  obtain ⟨dx, e⟩ := h.ins
  obtain ⟨as, h1, h2, h3⟩ := h.rows
  have ne : ∀ {b}, H0 b = none → b ≠ x := fun hb => Ne.symm (ne_of_none hx hb)
  exact ⟨⟨dx, by rw [upd_ne (ne h.np)]; exact e⟩, h.np, h.nl, h.lD, as, by rw [upd_ne (ne h.nl)]; exact h1, h2, fun a ha => ⟨by rw [upd_ne (ne (h3 a ha).2.1)]; exact (h3 a ha).1, (h3 a ha).2⟩⟩
theorem SameBut.trans {p : Addr} {H H1 H2 : Hp} (a : SameBut p H H1) (b : SameBut p H1 H2) : SameBut p H H2 := fun c o h n => b c o (a c o h n) n
theorem SameBut.of {p : Addr} {H H1 : Hp} (s : Same H H1) : SameBut p H H1 := fun c o h _ => s c o h
theorem SameBut.upd {p : Addr} {H : Hp} {o : HO} : SameBut p H (L2.upd H p o) := SameBut.refl.put
theorem SameBut.free {p b : Addr} {H H1 : Hp} (s : SameBut p H H1) (n : H1 b = none) (nb : b ≠ p) : H b = none := by
  cases e : H b with
  | none => rfl
  | some o =>
    rw [s b o e nb] at n
    cases n
theorem rep_ne {m : Nat} {as : List Addr} {z : Nat} (hm : 1 ≤ m) : HO.lst (List.replicate m (nat z)) ≠ HO.lst (as.map V.ref) := fun e => by
  injection e with e
  cases as with
  | nil =>
    have := congrArg List.length e
    rw [List.length_replicate] at this
    simp at this
    omega
  | cons a as =>
    have hd : m = (m - 1) + 1 := by omega
    rw [hd, List.replicate_succ, List.map_cons] at e
    injection e with e1 _
    cases e1
section
variable {P : Program} {w : World} {K : PySem.W.Frag} {mg : Str → Option Value} {base : Heap} {A : Ad}
theorem ok_Study_init (T : Txt K mg A) : FnOk P w K mg base CX0 5 A.f_Study_init A.d_Study_init ["self", "contexts", "actions"] (sp_Study_init K A) := by
  refine T.fn_Study_init.ok sc_Study_init (fun vs H Q E h => ?_) (fun cdv Ar outer s H vs Q E hr h => ?_)
  · obtain ⟨p, dx, n, k, rfl, _⟩ := h
    rfl
  · obtain ⟨p, dx, n, m, rfl, hp, n1, n6, k1, k5, k⟩ := h
    obtain ⟨t_POLICIES, k_POLICIES⟩ := T.k_POLICIES
    refine ⟨_, (pss_cons (ps_fld (pv 0) (pv 1) rfl)
        (pss_cons (ps_fld (pv 0) (pv 2) rfl)
        (pss_cons (ps_fld (pv 0) (pe_lst pa_nil) rfl)
        (pss_cons (ps_fld (pv 0) (pe_lc (own := [("number", 3)]) (g := gName 3) (tt := tYes) (te := (tMake A.c_Policy (sp_Policy_init K A) [] E0 (tCons (tCall (sp_grid K A) [] E0 (tCons (tVar 1) (tCons (tVar 2) (tCons (tC (.int 1)) tNil)))) tNil))) (by rfl) sc_Study_init.nd (pi_range1 (by rfl) T.n_range (pa_cons (pe_glob (v := .int 3) rfl k_POLICIES ⟨_, rfl⟩) pa_nil)) (blkOk_by (own := [("number", 3)]) (N := ["self", "contexts", "actions", "number"]) (sc := defScope s_Study_init) (by decide +kernel)) (fun _ _ _ _ _ => pg_name (i := 3) sc_Study_init.nd rfl (Or.inl rfl)) (fun _ _ _ _ _ => pts_nil) (fun _ _ _ _ _ => (pe_make T.mk_Policy (ok_Policy_init T) (hr.mono (by decide)) rfl T.g_Policy (bi_Policy_init T) .nil pass0 (pa_cons (pe_call (ok_grid T) (hr.mono (by decide)) rfl T.g_grid T.fn_grid.kp (bi_grid T) .nil pass0 (pa_cons (pv 1) (pa_cons (pv 2) (pa_cons pe_int pa_nil)))) pa_nil)))) rfl)
        (pss_cons (ps_fld (pv 0) (pe_call (ok_grid T) (hr.mono (by decide)) rfl T.g_grid T.fn_grid.kp (bi_grid T) .nil pass0 (pa_cons (pv 1) (pa_cons (pv 2) (pa_cons (pe_call (ok_whole T) (hr.mono (by decide)) rfl T.g_whole T.fn_whole.kp (bi_whole T) .nil pass0 (pa_cons pe_int pa_nil)) pa_nil)))) rfl)
        (pss_cons (ps_fld (pv 0) (pe_op op_rep (pe_lst (pa_cons pe_int pa_nil)) (pv 1)) rfl)
        (pss_one (ps_fld (pv 0) (pe_call (ok_grid T) (hr.mono (by decide)) rfl T.g_grid T.fn_grid.kp (bi_grid T) .nil pass0 (pa_cons (pv 1) (pa_cons (pv 2) (pa_cons pe_int pa_nil)))) rfl)))))))), ?_⟩
    refine ⟨_, rfl, _, rfl, p, _, dx, _, rfl, hp, T.cl_Study, T.no_Study_contexts, (by show 0 < 1000; decide), ?_⟩
    refine ⟨_, rfl, _, rfl, p, _, dx, _, rfl, upd_same, T.cl_Study, T.no_Study_actions, (by show 1 < 1000; decide), ?_⟩
    -- events
    refine ⟨Nat.zero_le _, fun ev nev => ?_⟩
    have pev : p ≠ ev := fun e => by
      rw [← e, upd_same] at nev
      cases nev
    refine ⟨_, rfl, p, _, dx, _, rfl, (upd_ne pev).trans upd_same, T.cl_Study, T.no_Study_events, (by show 2 < 1000; decide), ?_⟩
    have q3 := upd_same (H := L2.upd (L2.upd (L2.upd H p (.ins A.c_Study dx (putF "contexts" (nat n) []))) p (.ins A.c_Study dx (putF "actions" (nat m) (putF "contexts" (nat n) [])))) ev (.lst [])) (a := p) (o := .ins A.c_Study dx (putF "events" (.ref ev) (putF "actions" (nat m) (putF "contexts" (nat n) []))))
    have e3 : (L2.upd (L2.upd (L2.upd (L2.upd H p (.ins A.c_Study dx (putF "contexts" (nat n) []))) p (.ins A.c_Study dx (putF "actions" (nat m) (putF "contexts" (nat n) [])))) ev (.lst [])) p (.ins A.c_Study dx (putF "events" (.ref ev) (putF "actions" (nat m) (putF "contexts" (nat n) []))))) ev = some (.lst []) := (upd_ne (Ne.symm pev)).trans upd_same
    have nev0 : H ev = none := by
      rw [upd_ne (Ne.symm pev), upd_ne (Ne.symm pev)] at nev
      exact nev
    have k3 : SameBut p H (L2.upd (L2.upd (L2.upd (L2.upd H p (.ins A.c_Study dx (putF "contexts" (nat n) []))) p (.ins A.c_Study dx (putF "actions" (nat m) (putF "contexts" (nat n) [])))) ev (.lst [])) p (.ins A.c_Study dx (putF "events" (.ref ev) (putF "actions" (nat m) (putF "contexts" (nat n) []))))) := (SameBut.then (SameBut.refl.put.put) (Same.new nev)).put
    clear nev
    refine to_nx (to_seq (to_fld ?_))
    generalize (L2.upd (L2.upd (L2.upd (L2.upd H p (.ins A.c_Study dx (putF "contexts" (nat n) []))) p (.ins A.c_Study dx (putF "actions" (nat m) (putF "contexts" (nat n) [])))) ev (.lst [])) p (.ins A.c_Study dx (putF "events" (.ref ev) (putF "actions" (nat m) (putF "contexts" (nat n) []))))) = H3 at q3 e3 k3 ⊢
    -- policies
    refine ⟨_, rfl, by decide, by decide, fun D nD => lc_it (walk_range (lo := 0) (n := 3)) (fun i H1 => Same H3 H1 ∧ ∃ pl wl : List Addr, H1 D = some (.lst (pl.map V.ref)) ∧ pl.length = i ∧ wl.length = i ∧ wl.Nodup ∧
      ∀ (j : Nat) (q l : Addr), pl[j]? = some q → wl[j]? = some l → PolG A H3 H1 n m q l D) ⟨Same.new nD, [], [], upd_same, rfl, rfl, List.nodup_nil, fun j q l hq => by simp at hq⟩ (fun _ _ _ _ => trivial) ?_ ?_⟩
    · rintro i x H1 H2 hi ⟨s1, pl, wl, hD, hpl, hwl, nd, hg⟩ ⟨rfl, rfl⟩
      refine ⟨rfl, ?_⟩
      refine ⟨_, rfl, _, rfl, n, m, nat 1, rfl, by omega, by omega, fun g H4 ng s2 gr => ?_⟩
      intro q dq nq ndq neq
      refine ⟨q, dq, g, rfl, upd_same, fun H5 h5 kp => ⟨rfl, ?_⟩⟩
      have s3 := Same.made nq ndq kp
      have gD : g ≠ D := fun e => by
        rw [e, hD] at ng
        cases ng
      refine ⟨pl.map V.ref, s3 _ _ (s2 _ _ hD), by rw [List.length_map, hpl]; exact size1000 (by omega), Same.upd_new ((s1.trans s2).trans s3) nD, pl ++ [q], wl ++ [g], ?_, ?_, ?_, ?_, ?_⟩
      · rw [upd_same, List.map_append]
        rfl
      · rw [List.length_append, hpl]
        rfl
      · rw [List.length_append, hwl]
        rfl
      · refine List.nodup_append.mpr ⟨nd, by simp, fun l hl l' hl' => ?_⟩
        rw [List.mem_singleton.mp hl']
        intro e
        obtain ⟨j, hj, ej⟩ := List.getElem_of_mem hl
        obtain ⟨as, r1, _⟩ := (hg j _ l (List.getElem?_eq_getElem (show j < pl.length by omega)) (by rw [← ej]; exact List.getElem?_eq_getElem hj)).rows
        rw [e, ng] at r1
        cases r1
      · intro j u l hu hl
        have hD5 := s3 _ _ (s2 _ _ hD)
        by_cases hlt : j < pl.length
        · rw [List.getElem?_append_left hlt] at hu
          rw [List.getElem?_append_left (by omega)] at hl
          exact ((hg j u l hu hl).same (s2.trans s3)).grow hD5
        · rw [List.getElem?_append_right (by omega)] at hu
          rw [List.getElem?_append_right (by omega)] at hl
          have z : j - pl.length = 0 := by
            have := (List.getElem?_eq_some_iff.mp hu).1
            simp at this
            omega
          have z' : j - wl.length = 0 := by omega
          rw [z] at hu
          rw [z'] at hl
          have eu : q = u := Option.some.inj hu
          have el : g = l := Option.some.inj hl
          subst eu el
          obtain ⟨as, r1, r2, r3⟩ := gr.ex
          have hp5 : PolG A H3 H5 n m q g D := ⟨⟨dq, h5⟩, (s1.trans s2).free nq, s1.free ng, gD, as, s3 _ _ r1, r2, fun a ha => ⟨s3 _ _ (r3 a ha).1, s1.free (r3 a ha).2.1, fun e => ?_⟩⟩
          · exact hp5.grow hD5
          · have := (r3 a ha).2.1
            rw [e, hD] at this
            cases this
    · rintro H4 ⟨s4, pl, wl, hD, hpl, hwl, nd, hg⟩
      refine ⟨_, rfl, p, _, dx, _, rfl, s4 _ _ q3, T.cl_Study, T.no_Study_policies, (by show 3 < 1000; decide), ?_⟩
      have dp : D ≠ p := Ne.symm (ne_of_none q3 nD)
      have evp : ev ≠ p := Ne.symm pev
      have q5 := upd_same (H := H4) (a := p) (o := .ins A.c_Study dx (putF "policies" (.ref D) (putF "events" (.ref ev) (putF "actions" (nat m) (putF "contexts" (nat n) [])))))
      have k45 : SameBut p H4 (L2.upd H4 p (.ins A.c_Study dx (putF "policies" (.ref D) (putF "events" (.ref ev) (putF "actions" (nat m) (putF "contexts" (nat n) [])))))) := SameBut.upd
      refine to_nx (to_seq (to_fld ?_))
      generalize (L2.upd H4 p (.ins A.c_Study dx (putF "policies" (.ref D) (putF "events" (.ref ev) (putF "actions" (nat m) (putF "contexts" (nat n) [])))))) = H5 at q5 k45 ⊢
      -- model
      refine ⟨_, rfl, _, rfl, 0, rfl, fun z H6 s6 rz => ?_⟩
      refine ⟨n, m, .ref z, rfl, by omega, by omega, fun D2 H7 n2 s7 g2 => ?_⟩
      have q7 := s7 _ _ (s6 _ _ q5)
      refine ⟨_, rfl, p, _, dx, _, rfl, q7, T.cl_Study, T.no_Study_model, (by show 4 < 1000; decide), ?_⟩
      have q8 := upd_same (H := H7) (a := p) (o := .ins A.c_Study dx (putF "model" (.ref D2) (putF "policies" (.ref D) (putF "events" (.ref ev) (putF "actions" (nat m) (putF "contexts" (nat n) []))))))
      have k78 : SameBut p H7 (L2.upd H7 p (.ins A.c_Study dx (putF "model" (.ref D2) (putF "policies" (.ref D) (putF "events" (.ref ev) (putF "actions" (nat m) (putF "contexts" (nat n) []))))))) := SameBut.upd
      refine to_nx (to_seq (to_fld ?_))
      generalize (L2.upd H7 p (.ins A.c_Study dx (putF "model" (.ref D2) (putF "policies" (.ref D) (putF "events" (.ref ev) (putF "actions" (nat m) (putF "contexts" (nat n) []))))))) = H8 at q8 k78 ⊢
      -- weights
      refine ⟨(by show 1 ≤ sizeLine; decide), fun t nt => ⟨_, rfl, t, n, _, rfl, rfl, upd_same, by omega, by omega, ?_, fun tw ntw => ?_⟩⟩
      · show 1 * (n : Int).toNat ≤ sizeLine
        have : n < sizeLine := size1000 (by omega)
        omega
      have st : Same H8 (L2.upd H8 t (.lst [.int 1])) := Same.new nt
      have s9 : Same H8 (L2.upd (L2.upd H8 t (.lst [.int 1])) tw (.lst (List.replicate (n : Int).toNat [.int 1]).flatten)) := st.trans (Same.new ntw)
      have w9 : (L2.upd (L2.upd H8 t (.lst [.int 1])) tw (.lst (List.replicate (n : Int).toNat [.int 1]).flatten)) tw = some (.lst (List.replicate n (nat 1))) := by
        rw [upd_same, rep_flat]
        rfl
      have nw8 : H8 tw = none := st.free ntw
      refine ⟨_, rfl, p, _, dx, _, rfl, s9 _ _ q8, T.cl_Study, T.no_Study_truth_weights, (by show 5 < 1000; decide), ?_⟩
      generalize (L2.upd (L2.upd H8 t (.lst [.int 1])) tw (.lst (List.replicate (n : Int).toNat [.int 1]).flatten)) = H9 at s9 w9 ⊢
      have q10 := upd_same (H := H9) (a := p) (o := .ins A.c_Study dx (putF "truth_weights" (.ref tw) (putF "model" (.ref D2) (putF "policies" (.ref D) (putF "events" (.ref ev) (putF "actions" (nat m) (putF "contexts" (nat n) [])))))))
      have k910 : SameBut p H9 (L2.upd H9 p (.ins A.c_Study dx (putF "truth_weights" (.ref tw) (putF "model" (.ref D2) (putF "policies" (.ref D) (putF "events" (.ref ev) (putF "actions" (nat m) (putF "contexts" (nat n) [])))))))) := SameBut.upd
      refine to_nx (to_fld ?_)
      generalize (L2.upd H9 p (.ins A.c_Study dx (putF "truth_weights" (.ref tw) (putF "model" (.ref D2) (putF "policies" (.ref D) (putF "events" (.ref ev) (putF "actions" (nat m) (putF "contexts" (nat n) [])))))))) = H10 at q10 k910 ⊢
      -- rewards
      refine ⟨_, rfl, _, rfl, n, m, nat 0, rfl, by omega, by omega, fun D3 H11 n3 s11 g3 => ?_⟩
      refine ⟨_, rfl, p, _, dx, _, rfl, s11 _ _ q10, T.cl_Study, T.no_Study_truth_rewards, (by show 6 < 1000; decide), ?_⟩
      -- what stands in the end
      have t11 : SameBut p H11 (L2.upd H11 p (.ins A.c_Study dx (putF "truth_rewards" (.ref D3) (putF "truth_weights" (.ref tw) (putF "model" (.ref D2) (putF "policies" (.ref D) (putF "events" (.ref ev) (putF "actions" (nat m) (putF "contexts" (nat n) []))))))))) := SameBut.upd
      have q12 := upd_same (H := H11) (a := p) (o := .ins A.c_Study dx (putF "truth_rewards" (.ref D3) (putF "truth_weights" (.ref tw) (putF "model" (.ref D2) (putF "policies" (.ref D) (putF "events" (.ref ev) (putF "actions" (nat m) (putF "contexts" (nat n) []))))))))
      show Q .non (L2.upd H11 p _)
      generalize (L2.upd H11 p (.ins A.c_Study dx (putF "truth_rewards" (.ref D3) (putF "truth_weights" (.ref tw) (putF "model" (.ref D2) (putF "policies" (.ref D) (putF "events" (.ref ev) (putF "actions" (nat m) (putF "contexts" (nat n) []))))))))) = H12 at t11 q12 ⊢
      have t10 : SameBut p H10 H12 := (SameBut.of s11).trans t11
      have t9 : SameBut p H9 H12 := k910.trans t10
      have t8 : SameBut p H8 H12 := (SameBut.of s9).trans t9
      have t7 : SameBut p H7 H12 := k78.trans t8
      have t6 : SameBut p H6 H12 := (SameBut.of s7).trans t7
      have t5 : SameBut p H5 H12 := (SameBut.of s6).trans t6
      have t4 : SameBut p H4 H12 := k45.trans t5
      have t3 : SameBut p H3 H12 := (SameBut.of s4).trans t4
      have u46 : SameBut p H4 H6 := k45.then s6
      have u48 : SameBut p H4 H8 := (u46.then s7).trans k78
      have u68 : SameBut p H6 H8 := (SameBut.of s7).trans k78
      have u810 : SameBut p H8 H10 := (SameBut.of s9).trans k910
      have u410 : SameBut p H4 H10 := u48.trans u810
      have u610 : SameBut p H6 H10 := u68.trans u810
      have d2p : D2 ≠ p := Ne.symm (ne_of_none (s6 _ _ q5) n2)
      have twp : tw ≠ p := Ne.symm (ne_of_none q8 nw8)
      have d3p : D3 ≠ p := Ne.symm (ne_of_none q10 n3)
      have e4 := s4 _ _ e3
      have b3 : (LwM.fresh n m).policies.length = 3 := rfl
      have wlH3 : ∀ l ∈ wl, H3 l = none ∧ l ≠ D ∧ ∃ as : List Addr, H4 l = some (.lst (as.map V.ref)) ∧ as.length = n := fun l hl => by
        obtain ⟨j, hj, ej⟩ := List.getElem_of_mem hl
        have g := hg j _ l (List.getElem?_eq_getElem (show j < pl.length by omega)) (by rw [← ej]; exact List.getElem?_eq_getElem hj)
        obtain ⟨as, r1, r2, _⟩ := g.rows
        exact ⟨g.nl, g.lD, as, r1, r2⟩
      have np : ∀ {b}, H3 b = none → b ≠ p := fun hb => Ne.symm (ne_of_none q3 hb)
      obtain ⟨dz, hz6⟩ := id rz
      have zp : z ≠ p := fun e => by
        rw [e, s6 _ _ q5] at hz6
        injection hz6 with hz6
        injection hz6 with _ _ hz6
        have this := congrArg (fun l => (List.head? l).map Prod.fst) hz6
        exact absurd (show some ("contexts" : Str) = some ("top" : Str) from this) (by decide +kernel)
      have wl6 : ∀ l ∈ wl, ∃ o, H6 l = some o := fun l hl => by
        obtain ⟨w1, _, as, w2, _⟩ := wlH3 l hl
        exact ⟨_, u46 _ _ w2 (np w1)⟩
      have wl8 : ∀ l ∈ wl, ∃ o, H8 l = some o := fun l hl => by
        obtain ⟨w1, _, as, w2, _⟩ := wlH3 l hl
        exact ⟨_, u48 _ _ w2 (np w1)⟩
      have wl10 : ∀ l ∈ wl, ∃ o, H10 l = some o := fun l hl => by
        obtain ⟨w1, _, as, w2, _⟩ := wlH3 l hl
        exact ⟨_, u410 _ _ w2 (np w1)⟩
      obtain ⟨as2, a21, a22, a23⟩ := g2.ex
      obtain ⟨as3, a31, a32, a33⟩ := g3.ex
      have D2at : H8 D2 = some (.lst (as2.map V.ref)) := k78 _ _ a21 d2p
      have lst : ∀ x ∈ [ev, D, D2, tw, D3], x ≠ p := fun x hx => by
        simp only [List.mem_cons, List.not_mem_nil, or_false] at hx
        rcases hx with rfl | rfl | rfl | rfl | rfl <;> assumption
      have free : ∀ x ∈ ev :: D :: D2 :: tw :: D3 :: wl, H x = none := fun x hx => by
        simp only [List.mem_cons] at hx
        rcases hx with rfl | rfl | rfl | rfl | rfl | hx
        · exact nev0
        · exact k3.free nD dp
        · exact k3.free (s4.free (k45.free (s6.free n2) d2p)) d2p
        · exact k3.free (s4.free (k45.free (s6.free (s7.free (k78.free nw8 twp))) twp)) twp
        · exact k3.free (s4.free (k45.free (s6.free (s7.free (k78.free (s9.free (k910.free n3 d3p)) d3p))) d3p)) d3p
        · exact k3.free (wlH3 x hx).1 (np (wlH3 x hx).1)
      have k12 : SameBut p H H12 := k3.trans t3
      refine k H12 (ev :: D :: D2 :: tw :: D3 :: wl) ⟨ev, D, D2, tw, D3, pl, wl, ?_⟩ free k12
      have ev10 : H10 ev = some (.lst []) := u410 _ _ e4 evp
      have D10 : H10 D = some (.lst (pl.map V.ref)) := u410 _ _ hD dp
      have D210 : H10 D2 = some (.lst (as2.map V.ref)) := u810 _ _ D2at d2p
      have tw10 : H10 tw = some (.lst (List.replicate n (nat 1))) := k910 _ _ w9 twp
      refine ⟨rfl, ⟨dx, q12⟩, ⟨[], t3 _ _ e3 evp, rfl, fun i a x ha => by simp at ha⟩, t4 _ _ hD dp, hpl, hwl, ?_, ?_, ?_, ?_, ?_⟩
      · intro i u l r hu hl hr
        have er : r = List.replicate n (List.replicate m 1) := LwM.rep_mem (List.mem_of_getElem? hr)
        subst er
        have g := hg i u l hu hl
        obtain ⟨du, hu4⟩ := g.ins
        obtain ⟨as, r1, r2, r3⟩ := g.rows
        refine ⟨⟨du, t4 _ _ hu4 (np g.np)⟩, as, t4 _ _ r1 (np g.nl), by rw [r2, List.length_replicate], fun j a x ha hx => ?_, fun a ha hm => ?_⟩
        · rw [LwM.rep_mem (List.mem_of_getElem? hx)]
          have q := r3 a (List.mem_of_getElem? ha)
          show H12 a = some (.lst ((List.replicate m 1).map nat))
          rw [List.map_replicate]
          exact t4 _ _ q.1 (np q.2.1)
        · obtain ⟨a4, a3, aD⟩ := r3 a ha
          have ap := np a3
          simp only [List.mem_cons] at hm
          rcases hm with rfl | rfl | rfl | rfl | rfl | hm
          · rw [e3] at a3
            cases a3
          · exact aD rfl
          · rw [u46 _ _ a4 ap] at n2
            cases n2
          · rw [u48 _ _ a4 ap] at nw8
            cases nw8
          · rw [u410 _ _ a4 ap] at n3
            cases n3
          · obtain ⟨_, _, bs, w2, _⟩ := wlH3 a hm
            rw [a4] at w2
            exact rep_ne k1 (Option.some.inj w2)
      · refine ⟨as2, t7 _ _ a21 d2p, by rw [a22]; show n = (List.replicate n (List.replicate m (Kp432.ofNat 0))).length; rw [List.length_replicate], fun j a x ha hx => ?_, fun a ha hm => ?_⟩
        · rw [LwM.rep_mem (List.mem_of_getElem? hx)]
          obtain ⟨a7, a6, aD2⟩ := a23 a (List.mem_of_getElem? ha)
          have ap : a ≠ p := Ne.symm (ne_of_none (s6 _ _ q5) a6)
          refine ⟨List.replicate m z, ?_, by rw [List.length_replicate, List.length_replicate], fun i y x hy hx => ?_⟩
          · rw [List.map_replicate]
            exact t7 _ _ a7 ap
          · rw [LwM.rep_mem (List.mem_of_getElem? hy), LwM.rep_mem (List.mem_of_getElem? hx)]
            exact ⟨dz, t6 _ _ hz6 zp⟩
        · obtain ⟨a7, a6, aD2⟩ := a23 a ha
          have ap : a ≠ p := Ne.symm (ne_of_none (s6 _ _ q5) a6)
          simp only [List.mem_cons] at hm
          rcases hm with rfl | rfl | rfl | rfl | rfl | hm
          · rw [u46 _ _ e4 evp] at a6
            cases a6
          · rw [u46 _ _ hD dp] at a6
            cases a6
          · exact aD2 rfl
          · rw [k78 _ _ a7 ap] at nw8
            cases nw8
          · rw [u810 _ _ (k78 _ _ a7 ap) ap] at n3
            cases n3
          · obtain ⟨o, ho⟩ := wl6 a hm
            rw [ho] at a6
            cases a6
      · show H12 tw = some (.lst ((List.replicate n 1).map nat))
        rw [List.map_replicate]
        exact t9 _ _ w9 twp
      · refine ⟨as3, t11 _ _ a31 d3p, by rw [a32]; show n = (List.replicate n (List.replicate m 0)).length; rw [List.length_replicate], fun j a x ha hx => ?_, fun a ha hm => ?_⟩
        · rw [LwM.rep_mem (List.mem_of_getElem? hx)]
          obtain ⟨a11, a10, aD3⟩ := a33 a (List.mem_of_getElem? ha)
          have ap : a ≠ p := Ne.symm (ne_of_none q10 a10)
          show H12 a = some (.lst ((List.replicate m 0).map nat))
          rw [List.map_replicate]
          exact t11 _ _ a11 ap
        · obtain ⟨a11, a10, aD3⟩ := a33 a ha
          simp only [List.mem_cons] at hm
          rcases hm with rfl | rfl | rfl | rfl | rfl | hm
          · rw [ev10] at a10
            cases a10
          · rw [D10] at a10
            cases a10
          · rw [D210] at a10
            cases a10
          · rw [tw10] at a10
            cases a10
          · exact aD3 rfl
          · obtain ⟨o, ho⟩ := wl10 a hm
            rw [ho] at a10
            cases a10
      · have nin : ∀ {x}, (∀ l ∈ wl, x ≠ l) → x ∉ wl := fun h hx => h _ hx rfl
        have c1 : ev ≠ D := fun e => by rw [← e, e3] at nD; cases nD
        have c2 : ev ≠ D2 := fun e => by rw [← e, u46 _ _ e4 evp] at n2; cases n2
        have c3 : ev ≠ tw := fun e => by rw [← e, u48 _ _ e4 evp] at nw8; cases nw8
        have c4 : ev ≠ D3 := fun e => by rw [← e, ev10] at n3; cases n3
        have c5 : D ≠ D2 := fun e => by rw [← e, u46 _ _ hD dp] at n2; cases n2
        have c6 : D ≠ tw := fun e => by rw [← e, u48 _ _ hD dp] at nw8; cases nw8
        have c7 : D ≠ D3 := fun e => by rw [← e, D10] at n3; cases n3
        have c8 : D2 ≠ tw := fun e => by rw [← e, D2at] at nw8; cases nw8
        have c9 : D2 ≠ D3 := fun e => by rw [← e, D210] at n3; cases n3
        have c10 : tw ≠ D3 := fun e => by rw [← e, tw10] at n3; cases n3
        have f1 : ev ∉ wl := nin fun l hl e => by
          have := (wlH3 l hl).1
          rw [← e, e3] at this
          cases this
        have f2 : D ∉ wl := nin fun l hl e => (wlH3 l hl).2.1 e.symm
        have f3 : D2 ∉ wl := nin fun l hl e => by
          obtain ⟨o, ho⟩ := wl6 l hl
          rw [← e, n2] at ho
          cases ho
        have f4 : tw ∉ wl := nin fun l hl e => by
          obtain ⟨o, ho⟩ := wl8 l hl
          rw [← e, nw8] at ho
          cases ho
        have f5 : D3 ∉ wl := nin fun l hl e => by
          obtain ⟨o, ho⟩ := wl10 l hl
          rw [← e, n3] at ho
          cases ho
        simp only [List.nodup_cons, List.mem_cons, not_or]
        exact ⟨⟨c1, c2, c3, c4, f1⟩, ⟨c5, c6, c7, f2⟩, ⟨c8, c9, f3⟩, ⟨c10, f4⟩, f5, nd⟩
end
end Lw
end
/-! LwMove -/
section
set_option Elab.async false
set_option linter.all false
set_option maxRecDepth 100000
set_option maxHeartbeats 4000000
/-! a study whose parts change -/
namespace Lw
open PySem PySem.Spec PyProof.Rows L2
open Kp432 (Fraction Study Policy)
section
variable {A : Ad} {H H' : Hp} {a : Addr} {s : Study} {ev po mo tw tr : Addr} {pl wl M : List Addr}
/-- the five lists and the weights' lists stand apart -/
structure Apart (ev po mo tw tr : Addr) (wl : List Addr) : Prop where
  a1 : ev ≠ po
  a2 : ev ≠ mo
  a3 : ev ≠ tw
  a4 : ev ≠ tr
  a5 : ev ∉ wl
  b2 : po ≠ mo
  b3 : po ≠ tw
  b4 : po ≠ tr
  b5 : po ∉ wl
  c3 : mo ≠ tw
  c4 : mo ≠ tr
  c5 : mo ∉ wl
  d4 : tw ≠ tr
  d5 : tw ∉ wl
  e5 : tr ∉ wl
  nd : wl.Nodup
theorem StIn.apart (h : StIn A H a s ev po mo tw tr pl wl M) : Apart ev po mo tw tr wl := by
  have n := h.nd
  rw [h.mu] at n
  simp only [List.nodup_cons, List.mem_cons, not_or] at n
  obtain ⟨⟨a1, a2, a3, a4, a5⟩, ⟨b2, b3, b4, b5⟩, ⟨c3, c4, c5⟩, ⟨d4, d5⟩, e5, nd⟩ := n
  exact ⟨a1, a2, a3, a4, a5, b2, b3, b4, b5, c3, c4, c5, d4, d5, e5, nd⟩
theorem ne_mem {x y : Addr} {l : List Addr} (h : x ∉ l) (hy : y ∈ l) : y ≠ x := fun e => h (e ▸ hy)
theorem StIn.inM (h : StIn A H a s ev po mo tw tr pl wl M) : ev ∈ M ∧ po ∈ M ∧ mo ∈ M ∧ tw ∈ M ∧ tr ∈ M ∧ ∀ l ∈ wl, l ∈ M := by
  rw [h.mu]
  refine ⟨by simp, by simp, by simp, by simp, by simp, fun l hl => by simp [hl]⟩
/-- the policies, where a list that is none of theirs is changed -/
theorem StIn.pats (h : StIn A H a s ev po mo tw tr pl wl M) {m : Addr} (k : But H H' m) (hm : m ∈ M) (hw : m ∉ wl) : ∀ (i : Nat) (p l : Addr) (r : Policy), pl[i]? = some p → wl[i]? = some l → s.policies[i]? = some r →
    (∃ dx, H' p = some (.ins A.c_Policy dx (polF l))) ∧ RowsAt NatsAt H' l r M := fun i p l r h1 h2 h3 => by
  obtain ⟨⟨dx, e⟩, q⟩ := h.pat i p l r h1 h2 h3
  exact ⟨⟨dx, k.ins e⟩, k.nrows q (ne_mem hw (List.mem_of_getElem? h2)) hm⟩
theorem StIn.events (h : StIn A H a s ev po mo tw tr pl wl M) (k : But H H' ev) {es : List Evt} (n : LstAt (EvAt A) H' ev es) : StIn A H' a { s with events := es } ev po mo tw tr pl wl M := by
  have ap := h.apart
  have im := h.inM
  obtain ⟨dx, o⟩ := h.obj
  exact ⟨h.mu, ⟨dx, k.ins o⟩, n, k.keep _ _ h.pol (Ne.symm ap.a1), h.plen, h.wlen, h.pats k im.1 ap.a5, k.frows h.mod (Ne.symm ap.a2) im.1, k.keep _ _ h.tw (Ne.symm ap.a3), k.nrows h.tr (Ne.symm ap.a4) im.1, h.nd⟩
theorem StIn.model (h : StIn A H a s ev po mo tw tr pl wl M) (k : But H H' mo) {m : List (List Fraction)} (n : RowsAt (RatsAt A) H' mo m M) : StIn A H' a { s with model := m } ev po mo tw tr pl wl M := by
  have ap := h.apart
  have im := h.inM
  obtain ⟨dx, o⟩ := h.obj
  exact ⟨h.mu, ⟨dx, k.ins o⟩, k.evs h.evs ap.a2, k.keep _ _ h.pol ap.b2, h.plen, h.wlen, h.pats k im.2.2.1 ap.c5, n, k.keep _ _ h.tw (Ne.symm ap.c3), k.nrows h.tr (Ne.symm ap.c4) im.2.2.1, h.nd⟩
theorem StIn.tweights (h : StIn A H a s ev po mo tw tr pl wl M) (k : But H H' tw) {ws : List Nat} (n : NatsAt H' tw ws) : StIn A H' a { s with contextWeights := ws } ev po mo tw tr pl wl M := by
  have ap := h.apart
  have im := h.inM
  obtain ⟨dx, o⟩ := h.obj
  exact ⟨h.mu, ⟨dx, k.ins o⟩, k.evs h.evs ap.a3, k.keep _ _ h.pol ap.b3, h.plen, h.wlen, h.pats k im.2.2.2.1 ap.d5, k.frows h.mod ap.c3 im.2.2.2.1, n, k.nrows h.tr (Ne.symm ap.d4) im.2.2.2.1, h.nd⟩
theorem StIn.trewards (h : StIn A H a s ev po mo tw tr pl wl M) (k : But H H' tr) {rs : List (List Nat)} (n : RowsAt NatsAt H' tr rs M) : StIn A H' a { s with truth := rs } ev po mo tw tr pl wl M := by
  have ap := h.apart
  have im := h.inM
  obtain ⟨dx, o⟩ := h.obj
  exact ⟨h.mu, ⟨dx, k.ins o⟩, k.evs h.evs ap.a4, k.keep _ _ h.pol ap.b4, h.plen, h.wlen, h.pats k im.2.2.2.2.1 ap.e5, k.frows h.mod ap.c4 im.2.2.2.2.1, k.keep _ _ h.tw ap.d4, n, h.nd⟩
/-- the weights of one policy -/
theorem StIn.weights (h : StIn A H a s ev po mo tw tr pl wl M) {i : Nat} {l : Addr} (hl : wl[i]? = some l) (k : But H H' l) {r : Policy} (n : RowsAt NatsAt H' l r M) : StIn A H' a { s with policies := s.policies.set i r } ev po mo tw tr pl wl M := by
  have ap := h.apart
  have im := h.inM
  obtain ⟨dx, o⟩ := h.obj
  have lw := List.mem_of_getElem? hl
  have lM := im.2.2.2.2.2 l lw
  have ne : ∀ {x}, x ∉ wl → x ≠ l := fun hx e => hx (e ▸ lw)
  refine ⟨h.mu, ⟨dx, k.ins o⟩, k.evs h.evs (ne ap.a5), k.keep _ _ h.pol (ne ap.b5), ?_, ?_, fun j p l' r' h1 h2 h3 => ?_, k.frows h.mod (ne ap.c5) lM, k.keep _ _ h.tw (ne ap.d5), k.nrows h.tr (ne ap.e5) lM, h.nd⟩
  · show pl.length = (s.policies.set i r).length
    rw [List.length_set]
    exact h.plen
  · show wl.length = (s.policies.set i r).length
    rw [List.length_set]
    exact h.wlen
  · have h3' : (s.policies.set i r)[j]? = some r' := h3
    by_cases e : j = i
    · subst e
      rw [hl] at h2
      have el : l = l' := Option.some.inj h2
      subst el
      have hj : j < s.policies.length := by
        have := (List.getElem?_eq_some_iff.mp h3').1
        rwa [List.length_set] at this
      rw [List.getElem?_set_self hj] at h3'
      have er : r = r' := Option.some.inj h3'
      subst er
      obtain ⟨⟨dp, e1⟩, _⟩ := h.pat j p l _ h1 hl (List.getElem?_eq_getElem hj)
      exact ⟨⟨dp, k.ins e1⟩, n⟩
    · rw [List.getElem?_set_ne (Ne.symm e)] at h3'
      obtain ⟨⟨dp, e1⟩, q⟩ := h.pat j p l' r' h1 h2 h3'
      have nl : l' ≠ l := fun z => by
        rw [z] at h2
        exact e (nd_ix ap.nd h2 hl)
      exact ⟨⟨dp, k.ins e1⟩, k.nrows q nl lM⟩
end
/-- rows ahead of a longer list of changing lists -/
theorem RowsAt.mono {α : Type} {R : Hp → Addr → α → Prop} {H : Hp} {l : Addr} {xs : List α} {M M' : List Addr} (h : RowsAt R H l xs M) (k : ∀ x ∈ M', x ∈ M ∨ ∀ a, (∃ o, H a = some o) → a ≠ x) (tr : ∀ a x, R H a x → ∃ o, H a = some o) : RowsAt R H l xs M' := by
  obtain ⟨as, h1, h2, h3, h4⟩ := h.ex
  refine ⟨as, h1, h2, h3, fun a ha hm => ?_⟩
  rcases k a hm with q | q
  · exact h4 a ha q
  · obtain ⟨i, hi, e⟩ := List.getElem_of_mem ha
    exact q a (tr a _ (h3 i a (xs[i]'(by omega)) (by rw [← e]; exact List.getElem?_eq_getElem hi) (List.getElem?_eq_getElem (by omega)))) rfl
/-- what may have moved -/
structure Moved (M M' : List Addr) (H H' : Hp) : Prop where
  keep : ∀ b o, H b = some o → b ∉ M → H' b = some o
  new : ∀ m ∈ M', m ∈ M ∨ H m = none
theorem Moved.of {M : List Addr} {H H' : Hp} (s : Same H H') : Moved M M H H' := ⟨fun b o e _ => s b o e, fun m hm => .inl hm⟩
theorem Moved.but {M : List Addr} {H H' : Hp} {m : Addr} (k : But H H' m) (hm : m ∈ M) : Moved M M H H' := ⟨fun b o e n => k.keep b o e fun z => n (z ▸ hm), fun m hm => .inl hm⟩
theorem Moved.then {M M' : List Addr} {H H1 H2 : Hp} (a : Moved M M' H H1) (s : Same H1 H2) : Moved M M' H H2 := ⟨fun b o e n => s b o (a.keep b o e n), a.new⟩
theorem Moved.after {M M' : List Addr} {H H1 H2 : Hp} (s : Same H H1) (a : Moved M M' H1 H2) : Moved M M' H H2 := ⟨fun b o e n => a.keep b o (s b o e) n, fun m hm => (a.new m hm).imp id fun h => s.free h⟩
/-- an operation's promise: an error by its code, else the answer in a new list and the study as it is then -/
structure DoneOp (A : Ad) (H : Hp) (Q : VK) (E : XK) (a : Addr) (s : Study) (M : List Addr) (c : Kp432.Call) : Prop where
  bad : ∀ code : Int, code < 0 → Kp432.step (some s) c = (some s, Kp432.single code) → Bad A H E code
  good : ∀ (s' : Study) (z : Int) (zs : List Int), 0 ≤ z → Kp432.step (some s) c = (some s', ⟨z, zs⟩) → ∀ (p : Addr) (H' : Hp) (M' : List Addr), H p = none → H' p = some (.lst ((z :: zs).map V.int)) → StAt A H' a s' M' → Moved M M' H H' → Q (.ref p) H'
end Lw
end
/-! LwChange -/
section
set_option Elab.async false
set_option linter.all false
set_option maxRecDepth 100000
set_option maxHeartbeats 4000000
/-! the calls that change a study -/
namespace Lw
open PySem PySem.Spec PyProof.Rows L2
open Kp432 (Fraction Study Policy)
def sp_create (K : PySem.W.Frag) (A : Ad) : Sp := fun vs H Q E => ∃ n k : Nat, vs = [nat n, nat k] ∧ (¬ (1 ≤ n ∧ n ≤ 6 ∧ 1 ≤ k ∧ k ≤ 5) → Bad A H E (-22)) ∧
  (1 ≤ n ∧ n ≤ 6 ∧ 1 ≤ k ∧ k ≤ 5 → ∀ p H' M, H p = none → StAt A H' p (LwM.fresh n k) M → (∀ m ∈ M, H m = none) → Same H H' → Q (.ref p) H')
def sp_keep_event (K : PySem.W.Frag) (A : Ad) : Sp := fun vs H Q E => ∃ (a e : Addr) (s : Study) (M : List Addr) (ev : Evt), vs = [.ref a, .ref e] ∧ StAt A H a s M ∧ EvAt A H e ev ∧ (¬ s.events.length < 40 → Bad A H E (-28)) ∧
  (s.events.length < 40 → ∀ p H', H p = none → H' p = some (.lst [nat (s.events.length + 1)]) → StAt A H' a { s with events := s.events ++ [ev] } M → Moved M M H H' → Q (.ref p) H')
def sp_add_event (K : PySem.W.Frag) (A : Ad) : Sp := fun vs H Q E => ∃ (a : Addr) (s : Study) (M : List Addr) (c x r n d : Nat), vs = [.ref a, nat c, nat x, nat r, nat n, nat d] ∧ StAt A H a s M ∧ LwM.Good s ∧ DoneOp A H Q E a s M (.addEvent c x r n d)
def sp_remove_last (K : PySem.W.Frag) (A : Ad) : Sp := fun vs H Q E => ∃ (a : Addr) (s : Study) (M : List Addr), vs = [.ref a] ∧ StAt A H a s M ∧ LwM.Good s ∧ DoneOp A H Q E a s M .removeLast
def sp_log_event (K : PySem.W.Frag) (A : Ad) : Sp := fun vs H Q E => ∃ (a : Addr) (s : Study) (M : List Addr) (k c x r : Nat), vs = [.ref a, nat k, nat c, nat x, nat r] ∧ StAt A H a s M ∧ LwM.Good s ∧ DoneOp A H Q E a s M (.logEvent k c x r)
theorem LstAt.snoc {α : Type} {R : Hp → Addr → α → Prop} {H : Hp} {l : Addr} {as : List Addr} {xs : List α} {b : Addr} {y : α} (h1 : H l = some (.lst ((as ++ [b]).map V.ref))) (h2 : as.length = xs.length) (h3 : ∀ (i : Nat) (a : Addr) (x : α), as[i]? = some a → xs[i]? = some x → R H a x) (hb : R H b y) :
    LstAt R H l (xs ++ [y]) := by
  refine ⟨as ++ [b], h1, by rw [List.length_append, List.length_append, h2]; rfl, fun i a x ha hx => ?_⟩
  by_cases hi : i < as.length
  · rw [List.getElem?_append_left hi] at ha
    rw [List.getElem?_append_left (by omega)] at hx
    exact h3 i a x ha hx
  · rw [List.getElem?_append_right (by omega)] at ha hx
    have z : i - as.length = 0 := by
      have := (List.getElem?_eq_some_iff.mp ha).1
      simp at this
      omega
    have z' : i - xs.length = 0 := by omega
    rw [z] at ha
    rw [z'] at hx
    cases Option.some.inj ha
    cases Option.some.inj hx
    exact hb
theorem upd_none {H : Hp} {a b : Addr} {o : HO} (h : L2.upd H a o b = none) : b ≠ a ∧ H b = none := by
  by_cases e : b = a
  · rw [e, upd_same] at h
    cases h
  · rw [upd_ne e] at h
    exact ⟨e, h⟩
section
variable {P : Program} {w : World} {K : PySem.W.Frag} {mg : Str → Option Value} {base : Heap} {A : Ad}
theorem ok_create (T : Txt K mg A) : FnOk P w K mg base (L2.CX P w) 7 A.f_create A.d_create ["contexts", "actions"] (sp_create K A) := by
  refine T.fn_create.okX sc_create (fun vs H Q E h => ?_) (fun cdv Ar outer s H vs Q E hr h => ?_)
  · obtain ⟨n, m, rfl, _⟩ := h
    rfl
  · obtain ⟨n, m, rfl, bad, k⟩ := h
    obtain ⟨t_MOST_CONTEXTS, k_MOST_CONTEXTS⟩ := T.k_MOST_CONTEXTS
    obtain ⟨t_MOST_ACTIONS, k_MOST_ACTIONS⟩ := T.k_MOST_ACTIONS
    refine ⟨_, (pss_cons (ps_expr (pe_call (ok_check_range T) (hr.mono (by decide)) rfl T.g_check_range T.fn_check_range.kp (bi_check_range T) .nil (passes_call (takes_of rfl rfl rfl rfl) (fun _ _ _ _ h => h)) (pa_cons (pv 0) (pa_cons pe_int (pa_cons (pe_glob (v := .int 6) rfl k_MOST_CONTEXTS ⟨_, rfl⟩) pa_nil)))))
        (pss_cons (ps_expr (pe_call (ok_check_range T) (hr.mono (by decide)) rfl T.g_check_range T.fn_check_range.kp (bi_check_range T) .nil (passes_call (takes_of rfl rfl rfl rfl) (fun _ _ _ _ h => h)) (pa_cons (pv 1) (pa_cons pe_int (pa_cons (pe_glob (v := .int 5) rfl k_MOST_ACTIONS ⟨_, rfl⟩) pa_nil)))))
        (pss_one (ps_ret (pe_make T.mk_Study (ok_Study_init T) (hr.mono (by decide)) rfl T.g_Study (bi_Study_init T) .nil pass0 (pa_cons (pv 0) (pa_cons (pv 1) pa_nil))))))), ?_⟩
    refine ⟨_, rfl, n, 1, 6, rfl, fun h1 => ?_, fun h1 => bad (by omega)⟩
    refine ⟨_, rfl, m, 1, 5, rfl, fun h2 => ?_, fun h2 => bad (by omega)⟩
    refine ⟨_, rfl, _, rfl, ?_⟩
    intro x dx nx nd ne
    refine ⟨x, dx, n, m, rfl, upd_same, by omega, by omega, by omega, by omega, fun H' M st hm sb => ⟨rfl, ?_⟩⟩
    exact k ⟨by omega, by omega, by omega, by omega⟩ x H' M nx st (fun y hy => (upd_none (upd_none (hm y hy)).2).2) (Same.made nx nd sb)
theorem ok_keep_event (T : Txt K mg A) : FnOk P w K mg base (L2.CX P w) 5 A.f_keep_event A.d_keep_event ["study", "event"] (sp_keep_event K A) := by
  refine T.fn_keep_event.okX sc_keep_event (fun vs H Q E h => ?_) (fun cdv Ar outer s H vs Q E hr h => ?_)
  · obtain ⟨a, e, s, M, ev, rfl, _⟩ := h
    rfl
  · obtain ⟨a, e, s, M, ev, rfl, st, he, bad, k⟩ := h
    refine ⟨_, (pss_cons (ps_expr (pe_call (ok_check_room T) (hr.mono (by decide)) rfl T.g_check_room T.fn_check_room.kp (bi_check_room T) .nil (passes_call (takes_of rfl rfl rfl rfl) (fun _ _ _ _ h => h)) (pa_cons (pv 0) pa_nil)))
        (pss_cons (ps_expr (pe_bm PySem.F.plainAttrs_list PySem.F.slot_list_append PySem.F.type_list_append mt_append (pe_fld (pv 0) rfl) (pa_cons (pv 1) pa_nil)))
        (pss_one (ps_ret (pe_lst (pa_cons (pe_callB call_len_seq (by rfl) T.n_len PySem.boot_len (pa_cons (pe_fld (pv 0) rfl) pa_nil)) pa_nil)))))), ?_⟩
    refine ⟨_, rfl, a, s, M, rfl, st, fun h1 => ?_, fun h1 => bad h1⟩
    obtain ⟨evs, po, mo, tw, tr, pl, wl, si⟩ := st.ex
    obtain ⟨dx, o⟩ := si.obj
    obtain ⟨as, e1, e2, e3⟩ := si.evs.ex
    have bt : But H (L2.upd H evs (.lst ((as ++ [e]).map V.ref))) evs := But.upd e1
    refine ⟨_, rfl, a, _, dx, _, _, rfl, o, T.cl_Study, T.no_Study_events, st_events .., .inl ⟨rfl, _, SqL.of e1⟩, _, rfl, evs, _, _, rfl, rfl, e1, ?_, ?_⟩
    · rw [List.length_map, e2]
      exact size1000 (by omega)
    have ee : as.map V.ref ++ [V.ref e] = (as ++ [e]).map V.ref := by rw [List.map_append]; rfl
    rw [ee]
    have si' := si.events bt (LstAt.snoc upd_same e2 (fun i a x ha hx => bt.ev (e3 i a x ha hx)) (bt.ev he))
    obtain ⟨dx', o'⟩ := si'.obj
    refine ⟨_, rfl, a, _, dx', _, _, rfl, o', T.cl_Study, T.no_Study_events, st_events .., evs, _, rfl, .inl (SqL.of upd_same), (by show 1 ≤ sizeLine; decide), fun p hp => ?_⟩
    have n1 := upd_none hp
    refine k h1 p _ n1.2 ?_ ⟨evs, po, mo, tw, tr, pl, wl, si'.same (Same.new hp)⟩ ((Moved.but bt si.inM.1).then (Same.new hp))
    rw [upd_same, List.length_map, List.length_append, e2]
    rfl
end
end Lw
end
/-! LwChange2 -/
section
set_option Elab.async false
set_option linter.all false
set_option maxRecDepth 100000
set_option maxHeartbeats 4000000
namespace Lw
open PySem PySem.Spec PyProof.Rows L2
open Kp432 (Fraction Study Policy)
section
variable {P : Program} {w : World} {K : PySem.W.Frag} {mg : Str → Option Value} {base : Heap} {A : Ad}
theorem ok_add_event (T : Txt K mg A) : FnOk P w K mg base (L2.CX P w) 7 A.f_add_event A.d_add_event ["study", "context", "action", "reward", "num", "den"] (sp_add_event K A) := by
  refine T.fn_add_event.okX sc_add_event (fun vs H Q E h => ?_) (fun cdv Ar outer s H vs Q E hr h => ?_)
  · obtain ⟨a, s, M, c, x, r, n, d, rfl, _⟩ := h
    rfl
  · obtain ⟨a, s, M, c, x, r, n, d, rfl, st, gs, dn⟩ := h
    obtain ⟨t_MOST_DEN, k_MOST_DEN⟩ := T.k_MOST_DEN
    refine ⟨_, (pss_cons (ps_expr (pe_call (ok_check_decision T) (hr.mono (by decide)) rfl T.g_check_decision T.fn_check_decision.kp (bi_check_decision T) .nil (passes_call (takes_of rfl rfl rfl rfl) (fun _ _ _ _ h => h)) (pa_cons (pv 0) (pa_cons (pv 1) (pa_cons (pv 2) pa_nil)))))
        (pss_cons (ps_expr (pe_call (ok_check_reward T) (hr.mono (by decide)) rfl T.g_check_reward T.fn_check_reward.kp (bi_check_reward T) .nil (passes_call (takes_of rfl rfl rfl rfl) (fun _ _ _ _ h => h)) (pa_cons (pv 3) pa_nil)))
        (pss_cons (ps_expr (pe_call (ok_check_range T) (hr.mono (by decide)) rfl T.g_check_range T.fn_check_range.kp (bi_check_range T) .nil (passes_call (takes_of rfl rfl rfl rfl) (fun _ _ _ _ h => h)) (pa_cons (pv 5) (pa_cons pe_int (pa_cons (pe_glob (v := .int 1000) rfl k_MOST_DEN ⟨_, rfl⟩) pa_nil)))))
        (pss_cons (ps_expr (pe_call (ok_check_range T) (hr.mono (by decide)) rfl T.g_check_range T.fn_check_range.kp (bi_check_range T) .nil (passes_call (takes_of rfl rfl rfl rfl) (fun _ _ _ _ h => h)) (pa_cons (pv 4) (pa_cons pe_int (pa_cons (pv 5) pa_nil)))))
        (pss_one (ps_ret (pe_call (ok_keep_event T) (hr.mono (by decide)) rfl T.g_keep_event T.fn_keep_event.kp (bi_keep_event T) .nil (passes_call (takes_of rfl rfl rfl rfl) (fun _ _ _ _ h => h)) (pa_cons (pv 0) (pa_cons (pe_make T.mk_Event (ok_Event_init T) (hr.mono (by decide)) rfl T.g_Event (bi_Event_init T) .nil pass0 (pa_cons (pv 1) (pa_cons (pv 2) (pa_cons (pv 3) (pa_cons (pe_make T.mk_Ratio (ok_Ratio_init T) (hr.mono (by decide)) rfl T.g_Ratio (bi_Ratio_init T) .nil pass0 (pa_cons (pv 4) (pa_cons (pv 5) pa_nil))) pa_nil))))) pa_nil))))))))), ?_⟩
    refine ⟨_, rfl, _, rfl, _, rfl, a, s, M, c, x, rfl, st, fun h1 => ?_, fun h1 => dn.bad _ (by decide) (LwM.add_2 h1)⟩
    refine ⟨_, rfl, r, rfl, fun h2 => ?_, fun h2 => dn.bad _ (by decide) (LwM.add_22 h1 (by omega))⟩
    refine ⟨_, rfl, d, 1, 1000, rfl, fun h3 => ?_, fun h3 => dn.bad _ (by decide) (LwM.add_22 h1 (by omega))⟩
    refine ⟨_, rfl, _, rfl, n, 1, d, rfl, fun h4 => ?_, fun h4 => dn.bad _ (by decide) (LwM.add_22 h1 (by omega))⟩
    have h5 : r ≤ 100 ∧ 1 ≤ n ∧ n ≤ d ∧ d ≤ 1000 := by omega
    refine ⟨_, rfl, _, rfl, _, rfl, _, rfl, _, rfl, _, rfl, ?_⟩
    intro q dq nq ndq neq
    refine ⟨q, dq, n, d, rfl, upd_same, by omega, Nat.lt_trans (lt60 (Nat.lt_of_le_of_lt (show d ≤ 1000 by omega) (by decide))) (Nat.pow_lt_pow_right (by decide) (by decide)), fun H1 r1 kp => ⟨rfl, ?_⟩⟩
    have s1 := Same.made nq ndq kp
    intro e de nie nde nee
    refine ⟨e, de, q, ⟨c, x, r, Kp432.fraction (n : Nat) d⟩, rfl, upd_same, fun H2 hE kp2 => ⟨rfl, ?_⟩⟩
    have s2 := Same.made nie nde kp2
    have he : EvAt A H2 e ⟨c, x, r, Kp432.fraction (n : Nat) d⟩ := ⟨de, q, hE, r1.same s2⟩
    have s12 := s1.trans s2
    refine ⟨a, e, s, M, _, rfl, st.same s12, he, fun h6 => (dn.bad _ (by decide) (LwM.add_28 h1 h5 h6)).same s12, fun h6 p H3 np hp st3 mv => ?_⟩
    exact dn.good _ _ _ (by omega) (LwM.add_ok h1 h5 h6) p H3 M (s12.free np) hp st3 (Moved.after s12 mv)
theorem ok_remove_last (T : Txt K mg A) : FnOk P w K mg base (L2.CX P w) 5 A.f_remove_last A.d_remove_last ["study"] (sp_remove_last K A) := by
  refine T.fn_remove_last.okX sc_remove_last (fun vs H Q E h => ?_) (fun cdv Ar outer s H vs Q E hr h => ?_)
  · obtain ⟨a, s, M, rfl, _⟩ := h
    rfl
  · obtain ⟨a, s, M, rfl, st, gs, dn⟩ := h
    refine ⟨_, (pss_cons (ps_expr (pe_call (ok_check_events T) (hr.mono (by decide)) rfl T.g_check_events T.fn_check_events.kp (bi_check_events T) .nil (passes_call (takes_of rfl rfl rfl rfl) (fun _ _ _ _ h => h)) (pa_cons (pe_fld (pv 0) rfl) (pa_cons pe_int pa_nil))))
        (pss_cons (ps_expr (pe_bm0 PySem.F.plainAttrs_list PySem.F.slot_list_pop PySem.F.type_list_pop mt_pop (pe_fld (pv 0) rfl)))
        (pss_one (ps_ret (pe_lst (pa_cons (pe_callB call_len_seq (by rfl) T.n_len PySem.boot_len (pa_cons (pe_fld (pv 0) rfl) pa_nil)) pa_nil)))))), ?_⟩
    obtain ⟨evs, po, mo, tw, tr, pl, wl, si⟩ := st.ex
    obtain ⟨dx, o⟩ := si.obj
    obtain ⟨as, e1, e2, e3⟩ := si.evs.ex
    refine ⟨_, rfl, a, _, dx, _, _, rfl, o, T.cl_Study, T.no_Study_events, st_events .., evs, _, 1, rfl, e1, fun h1 => ?_, fun h1 => dn.bad _ (by decide) (LwM.rem_33 (List.eq_nil_of_length_eq_zero (by rw [List.length_map] at h1; omega)))⟩
    rw [List.length_map, e2] at h1
    have bt : But H (L2.upd H evs (.lst (as.map V.ref).dropLast)) evs := But.upd e1
    obtain ⟨la, hla⟩ : ∃ la, (as.map V.ref)[(as.map V.ref).length - 1]? = some la := ⟨_, List.getElem?_eq_getElem (by rw [List.length_map, e2]; omega)⟩
    refine ⟨_, rfl, a, _, dx, _, _, rfl, o, T.cl_Study, T.no_Study_events, st_events .., .inl ⟨rfl, _, SqL.of e1⟩, evs, _, _, rfl, rfl, e1, hla, ?_⟩
    have si' := si.events (es := s.events.dropLast) bt ⟨as.dropLast, by rw [upd_same, List.map_dropLast], by rw [List.length_dropLast, List.length_dropLast, e2], fun i b x hb hx => ?_⟩
    · obtain ⟨dx', o'⟩ := si'.obj
      refine ⟨_, rfl, a, _, dx', _, _, rfl, o', T.cl_Study, T.no_Study_events, st_events .., evs, _, rfl, .inl (SqL.of upd_same), (by show 1 ≤ sizeLine; decide), fun p hp => ?_⟩
      have n1 := upd_none hp
      refine dn.good _ _ _ (by omega) (LwM.rem_ok h1) p _ M n1.2 ?_ ⟨evs, po, mo, tw, tr, pl, wl, si'.same (Same.new hp)⟩ ((Moved.but bt si.inM.1).then (Same.new hp))
      rw [upd_same, List.length_dropLast, List.length_map, e2]
      rfl
    · have hi : i < s.events.length - 1 := by
        have := (List.getElem?_eq_some_iff.mp hx).1
        rwa [List.length_dropLast] at this
      refine bt.ev (e3 i b x ?_ ?_)
      · rw [List.getElem?_dropLast, if_pos (by omega)] at hb
        exact hb
      · rw [List.getElem?_dropLast, if_pos hi] at hx
        exact hx
theorem ok_log_event (T : Txt K mg A) : FnOk P w K mg base (L2.CX P w) 7 A.f_log_event A.d_log_event ["study", "policy", "context", "action", "reward"] (sp_log_event K A) := by
  refine T.fn_log_event.okX sc_log_event (fun vs H Q E h => ?_) (fun cdv Ar outer s H vs Q E hr h => ?_)
  · obtain ⟨a, s, M, k, c, x, r, rfl, _⟩ := h
    rfl
  · obtain ⟨a, s, M, k, c, x, r, rfl, st, gs, dn⟩ := h
    refine ⟨_, (pss_cons (ps_expr (pe_call (ok_check_policy T) (hr.mono (by decide)) rfl T.g_check_policy T.fn_check_policy.kp (bi_check_policy T) .nil (passes_call (takes_of rfl rfl rfl rfl) (fun _ _ _ _ h => h)) (pa_cons (pv 1) pa_nil)))
        (pss_cons (ps_expr (pe_call (ok_check_decision T) (hr.mono (by decide)) rfl T.g_check_decision T.fn_check_decision.kp (bi_check_decision T) .nil (passes_call (takes_of rfl rfl rfl rfl) (fun _ _ _ _ h => h)) (pa_cons (pv 0) (pa_cons (pv 2) (pa_cons (pv 3) pa_nil)))))
        (pss_cons (ps_expr (pe_call (ok_check_reward T) (hr.mono (by decide)) rfl T.g_check_reward T.fn_check_reward.kp (bi_check_reward T) .nil (passes_call (takes_of rfl rfl rfl rfl) (fun _ _ _ _ h => h)) (pa_cons (pv 4) pa_nil)))
        (pss_cons (ps_set (i := 5) sc_log_event.nd rfl (Or.inl rfl) (pe_meth (pe_ix ix_list (pe_fld (pv 0) rfl) (pv 1) (fun _ _ => rfl)) T.cl_Policy T.me_Policy_chance (ok_Policy_chance T) (hr.mono (by decide)) (bi_Policy_chance T) .nil pass0 (pa_cons (pv 2) (pa_cons (pv 3) pa_nil))))
        (pss_cons (ps_expr (pe_call (ok_check_positive T) (hr.mono (by decide)) rfl T.g_check_positive T.fn_check_positive.kp (bi_check_positive T) .nil (passes_call (takes_of rfl rfl rfl rfl) (fun _ _ _ _ h => h)) (pa_cons (pv 5) pa_nil)))
        (pss_one (ps_ret (pe_call (ok_keep_event T) (hr.mono (by decide)) rfl T.g_keep_event T.fn_keep_event.kp (bi_keep_event T) .nil (passes_call (takes_of rfl rfl rfl rfl) (fun _ _ _ _ h => h)) (pa_cons (pv 0) (pa_cons (pe_make T.mk_Event (ok_Event_init T) (hr.mono (by decide)) rfl T.g_Event (bi_Event_init T) .nil pass0 (pa_cons (pv 2) (pa_cons (pv 3) (pa_cons (pv 4) (pa_cons (pv 5) pa_nil))))) pa_nil)))))))))), ?_⟩
    refine ⟨_, rfl, k, rfl, fun h0 => ?_, fun h0 => dn.bad _ (by decide) (LwM.log_2 (by omega))⟩
    refine ⟨_, rfl, _, rfl, _, rfl, a, s, M, c, x, rfl, st, fun h1 => ?_, fun h1 => dn.bad _ (by decide) (LwM.log_2 (by omega))⟩
    have h01 : k < 3 ∧ c < s.contexts ∧ x < s.actions := ⟨h0, h1⟩
    refine ⟨_, rfl, r, rfl, fun h2 => ?_, fun h2 => dn.bad _ (by decide) (LwM.log_22 h01 h2)⟩
    obtain ⟨evs, po, mo, tw, tr, dx, o, us, pa, p1, p2, hpol⟩ := st.policy (k := k) (by rw [gs.poln]; exact h0)
    have gp := LwM.pol_at gs h0
    obtain ⟨l, Ml, ⟨dp, hp⟩, _⟩ := id hpol
    refine ⟨_, rfl, a, _, dx, _, _, rfl, o, T.cl_Study, T.no_Study_policies, st_policies .., _, rfl, po, _, _, _, rfl, rfl, SqL.of p1, at_of (j := k) rfl p2, pa, dp, _, rfl, hp, pol_no l (by decide +kernel), _, rfl, _, rfl,
      pa, _, c, x, s.contexts, s.actions, rfl, hpol, gp, gs.a5, h1.1, h1.2, fun q H1 s1 r1 => ?_⟩
    refine ⟨_, rfl, q, _, rfl, r1, fun h3 => ?_, fun h3 => (dn.bad _ (by decide) (LwM.log_33 h01 h2 (Classical.not_not.mp h3))).same s1⟩
    refine ⟨_, rfl, _, rfl, _, rfl, _, rfl, _, rfl, ?_⟩
    intro e de nie nde nee
    refine ⟨e, de, q, ⟨c, x, r, Kp432.chance (Kp432.policyAt s k) c x⟩, rfl, upd_same, fun H2 hE kp2 => ⟨rfl, ?_⟩⟩
    have s2 := Same.made nie nde kp2
    have he : EvAt A H2 e ⟨c, x, r, Kp432.chance (Kp432.policyAt s k) c x⟩ := ⟨de, q, hE, r1.same s2⟩
    have s12 := s1.trans s2
    refine ⟨a, e, s, M, _, rfl, st.same s12, he, fun h6 => (dn.bad _ (by decide) (LwM.log_28 h01 h2 h3 h6)).same s12, fun h6 p H3 np hp st3 mv => ?_⟩
    exact dn.good _ _ _ (by omega) (LwM.log_ok h01 h2 h3 h6) p H3 M (s12.free np) hp st3 (Moved.after s12 mv)
end
end Lw
end
/-! LwChange3 -/
section
set_option Elab.async false
set_option linter.all false
set_option maxRecDepth 100000
set_option maxHeartbeats 4000000
namespace Lw
open PySem PySem.Spec PyProof.Rows L2
open Kp432 (Fraction Study Policy)
/-- a row that is handed in: a list of its own -/
structure RowArg (H : Hp) (r : Addr) (l : List Nat) (M : List Addr) : Prop where
  at_ : NatsAt H r l
  out : r ∉ M
def sp_set_policy (K : PySem.W.Frag) (A : Ad) : Sp := fun vs H Q E => ∃ (a r : Addr) (s : Study) (M : List Addr) (k c : Nat) (l : List Nat), vs = [.ref a, nat k, nat c, .ref r] ∧ StAt A H a s M ∧ LwM.Good s ∧ RowArg H r l M ∧ DoneOp A H Q E a s M (.setPolicy k c l)
def sp_copy_policy (K : PySem.W.Frag) (A : Ad) : Sp := fun vs H Q E => ∃ (a : Addr) (s : Study) (M : List Addr) (k t : Nat), vs = [.ref a, nat k, nat t] ∧ StAt A H a s M ∧ LwM.Good s ∧ DoneOp A H Q E a s M (.copyPolicy k t)
def sp_set_model (K : PySem.W.Frag) (A : Ad) : Sp := fun vs H Q E => ∃ (a r : Addr) (s : Study) (M : List Addr) (c : Nat) (l : List Nat), vs = [.ref a, nat c, .ref r] ∧ StAt A H a s M ∧ LwM.Good s ∧ RowArg H r l M ∧ DoneOp A H Q E a s M (.setModel c l)
def sp_set_truth (K : PySem.W.Frag) (A : Ad) : Sp := fun vs H Q E => ∃ (a r : Addr) (s : Study) (M : List Addr) (c n : Nat) (l : List Nat), vs = [.ref a, nat c, nat n, .ref r] ∧ StAt A H a s M ∧ LwM.Good s ∧ RowArg H r l M ∧ DoneOp A H Q E a s M (.setTruth c n l)
def sp_fit_model (K : PySem.W.Frag) (A : Ad) : Sp := fun vs H Q E => ∃ (a : Addr) (s : Study) (M : List Addr), vs = [.ref a] ∧ StAt A H a s M ∧ LwM.Good s ∧ DoneOp A H Q E a s M .fitModel
/-- all the lists that may change are there -/
theorem StIn.tracked {A : Ad} {H : Hp} {a : Addr} {s : Study} {ev po mo tw tr : Addr} {pl wl M : List Addr} (h : StIn A H a s ev po mo tw tr pl wl M) : ∀ m ∈ M, ∃ xs, H m = some (.lst xs) := fun m hm => by
  rw [h.mu] at hm
  simp only [List.mem_cons] at hm
  rcases hm with rfl | rfl | rfl | rfl | rfl | hm
  · obtain ⟨as, e, _⟩ := h.evs.ex
    exact ⟨_, e⟩
  · exact ⟨_, h.pol⟩
  · obtain ⟨as, e, _⟩ := h.mod.ex
    exact ⟨_, e⟩
  · exact ⟨_, h.tw⟩
  · obtain ⟨as, e, _⟩ := h.tr.ex
    exact ⟨_, e⟩
  · obtain ⟨j, hj, ej⟩ := List.getElem_of_mem hm
    have p1 := h.plen
    have p2 := h.wlen
    obtain ⟨_, q⟩ := h.pat j _ m _ (List.getElem?_eq_getElem (show j < pl.length by omega)) (by rw [← ej]; exact List.getElem?_eq_getElem hj) (List.getElem?_eq_getElem (show j < s.policies.length by omega))
    obtain ⟨as, e, _⟩ := q.ex
    exact ⟨_, e⟩
theorem StIn.new_out {A : Ad} {H : Hp} {a D : Addr} {s : Study} {ev po mo tw tr : Addr} {pl wl M : List Addr} (h : StIn A H a s ev po mo tw tr pl wl M) (n : H D = none) : D ∉ M := fun hm => by
  obtain ⟨xs, e⟩ := h.tracked D hm
  rw [n] at e
  cases e
/-- one row of a list of rows is put in another's place -/
theorem RowsAt.put {α : Type} {R : Hp → Addr → α → Prop} {H' : Hp} {l : Addr} {as : List Addr} {xs : List α} {M : List Addr} {i : Nat} {r : Addr} {x : α} (h1 : H' l = some (.lst ((as.set i r).map V.ref))) (h2 : as.length = xs.length)
    (h3 : ∀ (j : Nat) (a : Addr) (y : α), as[j]? = some a → xs[j]? = some y → R H' a y) (h4 : ∀ a ∈ as, a ∉ M) (hr : R H' r x) (hm : r ∉ M) : RowsAt R H' l (xs.set i x) M := by
  refine ⟨as.set i r, h1, by rw [List.length_set, List.length_set, h2], fun j a y ha hy => ?_, fun a ha => ?_⟩
  · by_cases e : j = i
    · subst e
      have hj : j < as.length := by
        have := (List.getElem?_eq_some_iff.mp ha).1
        rwa [List.length_set] at this
      rw [List.getElem?_set_self hj] at ha
      rw [List.getElem?_set_self (by omega)] at hy
      cases Option.some.inj ha
      cases Option.some.inj hy
      exact hr
    · rw [List.getElem?_set_ne (Ne.symm e)] at ha hy
      exact h3 j a y ha hy
  · rcases LwM.set_mem ha with h | rfl
    · exact h4 a h
    · exact hm
theorem ixN_of {n c : Nat} (h : c < n) : ixN n (c : Int) = some c := by
  unfold ixN
  rw [if_pos (by omega), if_pos (by omega)]
  simp
theorem set_ref {as : List Addr} {i : Nat} {r : Addr} : (as.map V.ref).set i (.ref r) = (as.set i r).map V.ref := (List.map_set).symm
section
variable {P : Program} {w : World} {K : PySem.W.Frag} {mg : Str → Option Value} {base : Heap} {A : Ad}
theorem ok_set_policy (T : Txt K mg A) : FnOk P w K mg base (L2.CX P w) 8 A.f_set_policy A.d_set_policy ["study", "policy", "context", "weights"] (sp_set_policy K A) := by
  refine T.fn_set_policy.okX sc_set_policy (fun vs H Q E h => ?_) (fun cdv Ar outer s H vs Q E hr h => ?_)
  · obtain ⟨a, r, s, M, k, c, l, rfl, _⟩ := h
    rfl
  · obtain ⟨a, r, s, M, k, c, l, rfl, st, gs, ra, dn⟩ := h
    refine ⟨_, (pss_cons (ps_expr (pe_call (ok_check_policy T) (hr.mono (by decide)) rfl T.g_check_policy T.fn_check_policy.kp (bi_check_policy T) .nil (passes_call (takes_of rfl rfl rfl rfl) (fun _ _ _ _ h => h)) (pa_cons (pv 1) pa_nil)))
        (pss_cons (ps_expr (pe_call (ok_check_context T) (hr.mono (by decide)) rfl T.g_check_context T.fn_check_context.kp (bi_check_context T) .nil (passes_call (takes_of rfl rfl rfl rfl) (fun _ _ _ _ h => h)) (pa_cons (pv 0) (pa_cons (pv 2) pa_nil))))
        (pss_cons (ps_expr (pe_call (ok_check_weights T) (hr.mono (by decide)) rfl T.g_check_weights T.fn_check_weights.kp (bi_check_weights T) .nil (passes_call (takes_of rfl rfl rfl rfl) (fun _ _ _ _ h => h)) (pa_cons (pv 0) (pa_cons (pv 3) pa_nil))))
        (pss_cons (ps_set (i := 4) sc_set_policy.nd rfl (Or.inl rfl) (pe_ix ix_list (pe_fld (pv 0) rfl) (pv 1) (fun _ _ => rfl)))
        (pss_cons (ps_asg (pv 3) (pg_sub (pe_fld (pv 4) rfl) (pv 2) set_list))
        (pss_one (ps_ret (pe_lst (pa_cons (pe_callB (cr_sum (by rfl)) (by rfl) T.n_sum (by decide +kernel) (pa_cons (pv 3) pa_nil)) pa_nil))))))))), ?_⟩
    refine ⟨_, rfl, k, rfl, fun h0 => ?_, fun h0 => dn.bad _ (by decide) (LwM.setp_2 (by omega))⟩
    refine ⟨_, rfl, _, rfl, a, s, M, c, rfl, st, fun h1 => ?_, fun h1 => dn.bad _ (by decide) (LwM.setp_2 (by omega))⟩
    refine ⟨_, rfl, _, rfl, a, r, s, M, l, rfl, st, ra.at_, gs.a1, fun h2 => ?_, fun h2 => dn.bad _ (by decide) (LwM.setp_22 ⟨h0, h1⟩ h2)⟩
    obtain ⟨evs, po, mo, tw, tr, pl, wl, si⟩ := st.ex
    obtain ⟨dx, o⟩ := si.obj
    have pn := gs.poln
    obtain ⟨pa, hpa⟩ : ∃ pa, pl[k]? = some pa := ⟨_, List.getElem?_eq_getElem (by rw [si.plen]; omega)⟩
    obtain ⟨wa, hwa⟩ : ∃ wa, wl[k]? = some wa := ⟨_, List.getElem?_eq_getElem (by rw [si.wlen]; omega)⟩
    have hpk : s.policies[k]? = some (Kp432.policyAt s k) := by
      unfold Kp432.policyAt
      rw [List.getD_eq_getElem?_getD, List.getElem?_eq_getElem (by omega)]
      rfl
    obtain ⟨⟨dp, hp⟩, hrows⟩ := si.pat k pa wa _ hpa hwa hpk
    obtain ⟨rs, r1, r2, r3, r4⟩ := hrows.ex
    have gp := LwM.pol_at gs h0
    have wM := si.inM.2.2.2.2.2 wa (List.mem_of_getElem? hwa)
    have bt : But H (L2.upd H wa (.lst ((rs.map V.ref).set c (.ref r)))) wa := But.upd r1
    refine ⟨_, rfl, a, _, dx, _, _, rfl, o, T.cl_Study, T.no_Study_policies, st_policies .., _, rfl, po, _, _, _, rfl, rfl, SqL.of si.pol, at_of (j := k) (v := V.ref pa) rfl (by rw [List.getElem?_map, hpa]; rfl), ?_⟩
    refine ⟨_, rfl, _, rfl, pa, _, dp, _, _, rfl, hp, T.cl_Policy, T.no_Policy_weights, pol_weights wa, _, rfl, wa, _, _, c, rfl, rfl, r1, ixN_of (by rw [List.length_map, r2, gp.len]; exact h1), ?_⟩
    have rM : r ≠ wa := fun e => ra.out (e ▸ wM)
    have rat : NatsAt (L2.upd H wa (.lst ((rs.map V.ref).set c (.ref r)))) r l := bt.keep _ _ ra.at_ rM
    have si' := si.weights hwa bt (r := (Kp432.policyAt s k).set c l) (RowsAt.put (by rw [upd_same, set_ref]) r2 (fun j b y hb hy => bt.keep _ _ (r3 j b y hb hy) (fun e => r4 b (List.mem_of_getElem? hb) (e ▸ wM))) r4 rat ra.out)
    have rat' : (L2.upd H wa (.lst ((rs.map V.ref).set c (.ref r)))) r = some (.lst ((l.map fun n : Nat => (n : Int)).map V.int)) := by
      rw [← ints_of]
      exact rat
    refine ⟨_, rfl, r, _, rfl, SqL.of rat', (by show 1 ≤ sizeLine; decide), fun p hp => ?_⟩
    have n1 := upd_none hp
    refine dn.good _ _ _ (by omega) (LwM.setp_ok ⟨h0, h1⟩ h2) p _ M n1.2 ?_ ⟨evs, po, mo, tw, tr, pl, wl, si'.same (Same.new hp)⟩ ((Moved.but bt wM).then (Same.new hp))
    rw [upd_same, LwM.sum_cast]
    rfl
theorem ok_set_model (T : Txt K mg A) : FnOk P w K mg base (L2.CX P w) 8 A.f_set_model A.d_set_model ["study", "context", "estimates"] (sp_set_model K A) := by
  refine T.fn_set_model.okX sc_set_model (fun vs H Q E h => ?_) (fun cdv Ar outer s H vs Q E hr h => ?_)
  · obtain ⟨a, r, s, M, c, l, rfl, _⟩ := h
    rfl
  · obtain ⟨a, r, s, M, c, l, rfl, st, gs, ra, dn⟩ := h
    refine ⟨_, (pss_cons (ps_expr (pe_call (ok_check_context T) (hr.mono (by decide)) rfl T.g_check_context T.fn_check_context.kp (bi_check_context T) .nil (passes_call (takes_of rfl rfl rfl rfl) (fun _ _ _ _ h => h)) (pa_cons (pv 0) (pa_cons (pv 1) pa_nil))))
        (pss_cons (ps_expr (pe_call (ok_check_rewards T) (hr.mono (by decide)) rfl T.g_check_rewards T.fn_check_rewards.kp (bi_check_rewards T) .nil (passes_call (takes_of rfl rfl rfl rfl) (fun _ _ _ _ h => h)) (pa_cons (pv 0) (pa_cons (pv 2) pa_nil))))
        (pss_cons (ps_asg (pe_lc (own := [("estimate", 3)]) (g := gName 3) (tt := tYes) (te := (tCall (sp_whole K A) [] E0 (tCons (tVar 3) tNil))) (by rfl) sc_set_model.nd (pi_list (pv 2)) (blkOk_by (own := [("estimate", 3)]) (N := ["study", "context", "estimates", "estimate"]) (sc := defScope s_set_model) (by decide +kernel)) (fun _ _ _ _ _ => pg_name (i := 3) sc_set_model.nd rfl (Or.inl rfl)) (fun _ _ _ _ _ => pts_nil) (fun _ _ _ _ _ => (pe_call (ok_whole T) (hr.mono (by decide)) rfl T.g_whole T.fn_whole.kp (bi_whole T) .nil pass0 (pa_cons (pv 3) pa_nil)))) (pg_sub (pe_fld (pv 0) rfl) (pv 1) set_list))
        (pss_one (ps_ret (pe_lst (pa_cons pe_int pa_nil))))))), ?_⟩
    refine ⟨_, rfl, _, rfl, a, s, M, c, rfl, st, fun h1 => ?_, fun h1 => dn.bad _ (by decide) (LwM.setm_2 h1)⟩
    refine ⟨_, rfl, _, rfl, a, r, s, M, l, rfl, st, ra.at_, fun h2 => ?_, fun h2 => dn.bad _ (by decide) (LwM.setm_22 h1 h2)⟩
    refine to_nx (to_seq (to_asg ?_))
    have hl9 : l.length ≤ 1000 := by
      have := gs.a5
      omega
    have r0 := ra.at_
    refine comp_of (walk_list (K := K) (a := r) (xs := l.map nat)) (stays_rat (A := A)) (l.map Kp432.ofNat) (by rw [List.length_map, List.length_map]) (by rw [List.length_map]; exact hl9) (fun H1 s1 => SqL.of (s1 _ _ r0)) (fun Z hZ => ⟨_, rfl, r, rfl, ⟨_, SqL.of r0⟩, hZ⟩) ?_ ?_
    · rintro i y x H1 H2 D hy s1 ⟨acc, hD⟩ ⟨rfl, hx⟩ Z hZ
      rw [List.getElem?_map] at hx hy
      cases e : l[i]? with
      | none =>
        rw [e] at hx
        cases hx
      | some n =>
        rw [e] at hx hy
        cases Option.some.inj hx
        cases Option.some.inj hy
        exact ⟨rfl, _, rfl, n, rfl, fun q H3 s3 r3 => hZ _ _ s3 ⟨q, rfl, r3⟩ (rat_ne r3 (s3 _ _ hD))⟩
    · intro D H1 nD s1 hD
      have hr := hD.refs
      obtain ⟨evs, po, mo, tw, tr, pl, wl, si0⟩ := st.ex
      have si := si0.same s1
      obtain ⟨dx, o⟩ := si.obj
      obtain ⟨rs, m1, m2, m3, m4⟩ := si.mod.ex
      have im := si.inM
      have bt : But H1 (L2.upd H1 mo (.lst ((rs.map V.ref).set c (.ref D)))) mo := But.upd m1
      have DM : D ∉ M := si0.new_out nD
      refine ⟨_, rfl, a, _, dx, _, _, rfl, o, T.cl_Study, T.no_Study_model, st_model .., _, rfl, mo, _, _, c, rfl, rfl, m1, ixN_of (by rw [List.length_map, m2, gs.mod.len]; exact h1), ?_⟩
      have Dmo : D ≠ mo := fun e => DM (e ▸ im.2.2.1)
      have si' := si.model bt (m := s.model.set c (l.map Kp432.ofNat)) (RowsAt.put (by rw [upd_same, set_ref]) m2 (fun j b y hb hy => bt.rats (m3 j b y hb hy) (fun e => m4 b (List.mem_of_getElem? hb) (e ▸ im.2.2.1))) m4 (bt.rats hr Dmo) DM)
      refine ⟨(by show 1 ≤ sizeLine; decide), fun p hp => ?_⟩
      have n1 := upd_none hp
      refine dn.good _ _ _ (by omega) (LwM.setm_ok h1 h2) p _ M (s1.free n1.2) upd_same ⟨evs, po, mo, tw, tr, pl, wl, si'.same (Same.new hp)⟩ (Moved.after s1 ((Moved.but bt im.2.2.1).then (Same.new hp)))
theorem ok_set_truth (T : Txt K mg A) : FnOk P w K mg base (L2.CX P w) 8 A.f_set_truth A.d_set_truth ["study", "context", "weight", "rewards"] (sp_set_truth K A) := by
  refine T.fn_set_truth.okX sc_set_truth (fun vs H Q E h => ?_) (fun cdv Ar outer s H vs Q E hr h => ?_)
  · obtain ⟨a, r, s, M, c, n, l, rfl, _⟩ := h
    rfl
  · obtain ⟨a, r, s, M, c, n, l, rfl, st, gs, ra, dn⟩ := h
    obtain ⟨t_MOST_WEIGHT, k_MOST_WEIGHT⟩ := T.k_MOST_WEIGHT
    refine ⟨_, (pss_cons (ps_expr (pe_call (ok_check_context T) (hr.mono (by decide)) rfl T.g_check_context T.fn_check_context.kp (bi_check_context T) .nil (passes_call (takes_of rfl rfl rfl rfl) (fun _ _ _ _ h => h)) (pa_cons (pv 0) (pa_cons (pv 1) pa_nil))))
        (pss_cons (ps_expr (pe_call (ok_check_range T) (hr.mono (by decide)) rfl T.g_check_range T.fn_check_range.kp (bi_check_range T) .nil (passes_call (takes_of rfl rfl rfl rfl) (fun _ _ _ _ h => h)) (pa_cons (pv 2) (pa_cons pe_int (pa_cons (pe_glob (v := .int 1000) rfl k_MOST_WEIGHT ⟨_, rfl⟩) pa_nil)))))
        (pss_cons (ps_expr (pe_call (ok_check_rewards T) (hr.mono (by decide)) rfl T.g_check_rewards T.fn_check_rewards.kp (bi_check_rewards T) .nil (passes_call (takes_of rfl rfl rfl rfl) (fun _ _ _ _ h => h)) (pa_cons (pv 0) (pa_cons (pv 3) pa_nil))))
        (pss_cons (ps_asg (pv 2) (pg_sub (pe_fld (pv 0) rfl) (pv 1) set_list))
        (pss_cons (ps_asg (pv 3) (pg_sub (pe_fld (pv 0) rfl) (pv 1) set_list))
        (pss_one (ps_ret (pe_lst (pa_cons pe_int pa_nil))))))))), ?_⟩
    refine ⟨_, rfl, _, rfl, a, s, M, c, rfl, st, fun h1 => ?_, fun h1 => dn.bad _ (by decide) (LwM.sett_2 h1)⟩
    refine ⟨_, rfl, n, 1, 1000, rfl, fun h2 => ?_, fun h2 => dn.bad _ (by decide) (LwM.sett_22 h1 (by omega))⟩
    refine ⟨_, rfl, _, rfl, a, r, s, M, l, rfl, st, ra.at_, fun h3 => ?_, fun h3 => dn.bad _ (by decide) (LwM.sett_22 h1 fun z => h3 z.2)⟩
    obtain ⟨evs, po, mo, tw, tr, pl, wl, si⟩ := st.ex
    obtain ⟨dx, o⟩ := si.obj
    have im := si.inM
    have bt : But H (L2.upd H tw (.lst ((s.contextWeights.map nat).set c (nat n)))) tw := But.upd si.tw
    have si1 := si.tweights bt (ws := s.contextWeights.set c n) (by show L2.upd H tw _ tw = _; rw [upd_same, List.map_set])
    refine ⟨_, rfl, _, rfl, a, _, dx, _, _, rfl, o, T.cl_Study, T.no_Study_truth_weights, st_tw .., _, rfl, tw, _, _, c, rfl, rfl, si.tw, ixN_of (by rw [List.length_map, gs.twn]; exact h1), ?_⟩
    obtain ⟨dx1, o1⟩ := si1.obj
    obtain ⟨rs, r1, r2, r3, r4⟩ := si1.tr.ex
    have rtw : r ≠ tw := fun e => ra.out (e ▸ im.2.2.2.1)
    have rtr : r ≠ tr := fun e => ra.out (e ▸ im.2.2.2.2.1)
    have rat1 := bt.keep _ _ ra.at_ rtw
    have bt2 : But (L2.upd H tw (.lst ((s.contextWeights.map nat).set c (nat n)))) (L2.upd (L2.upd H tw (.lst ((s.contextWeights.map nat).set c (nat n)))) tr (.lst ((rs.map V.ref).set c (.ref r)))) tr := But.upd r1
    have si2 := si1.trewards bt2 (rs := s.truth.set c l) (RowsAt.put (by rw [upd_same, set_ref]) r2 (fun j b y hb hy => bt2.keep _ _ (r3 j b y hb hy) (fun e => r4 b (List.mem_of_getElem? hb) (e ▸ im.2.2.2.2.1))) r4 (bt2.keep _ _ rat1 rtr) ra.out)
    refine ⟨_, rfl, _, rfl, a, _, dx1, _, _, rfl, o1, T.cl_Study, T.no_Study_truth_rewards, st_tr .., _, rfl, tr, _, _, c, rfl, rfl, r1, ixN_of (by rw [List.length_map, r2]; show c < s.truth.length; rw [gs.trn]; exact h1), ?_⟩
    refine ⟨(by show 1 ≤ sizeLine; decide), fun p hp => ?_⟩
    have n1 := upd_none hp
    have n2 := upd_none n1.2
    refine dn.good _ _ _ (by omega) (LwM.sett_ok h1 ⟨⟨by omega, by omega⟩, h3⟩) p _ M n2.2 upd_same ⟨evs, po, mo, tw, tr, pl, wl, si2.same (Same.new hp)⟩ ?_
    exact ⟨fun b q e nb => Same.new hp _ _ (bt2.keep _ _ (bt.keep _ _ e fun z => nb (z ▸ im.2.2.2.1)) fun z => nb (z ▸ im.2.2.2.2.1)), fun m hm => .inl hm⟩
theorem ok_fit_model (T : Txt K mg A) : FnOk P w K mg base CX0 6 A.f_fit_model A.d_fit_model ["study"] (sp_fit_model K A) := by
  refine T.fn_fit_model.ok sc_fit_model (fun vs H Q E h => ?_) (fun cdv Ar outer s H vs Q E hr h => ?_)
  · obtain ⟨a, s, M, rfl, _⟩ := h
    rfl
  · obtain ⟨a, s, M, rfl, st, gs, dn⟩ := h
    refine ⟨_, (pss_cons (ps_for PassesOwn.never rfl (pi_range1 (by rfl) T.n_range (pa_cons (pe_fld (pv 0) rfl) pa_nil)) (pg_name (i := 1) sc_fit_model.nd rfl (Or.inr rfl)) (pss_cons (ps_setLc (i := 2) (own := [("action", 3)]) (g := gName 3) (tt := tYes) (te := (tCall (sp_fitted_estimate K A) [] E0 (tCons (tFld K (tVar 0) "events") (tCons (tVar 1) (tCons (tVar 3) tNil))))) (by rfl) sc_fit_model.nd rfl rfl (sw_true rfl rfl rfl (by decide +kernel)) (pi_range1 (by rfl) T.n_range (pa_cons (pe_fld (pv 0) rfl) pa_nil)) (blkOk_by (own := [("action", 3)]) (N := ["study", "context", "row", "action"]) (sc := defScope s_fit_model) (by decide +kernel)) (fun _ _ _ _ _ => pg_name (i := 3) sc_fit_model.nd rfl (Or.inl rfl)) (fun _ _ _ _ _ => pts_nil) (fun _ _ _ _ _ => (pe_call (ok_fitted_estimate T) (hr.mono (by decide)) rfl T.g_fitted_estimate T.fn_fitted_estimate.kp (bi_fitted_estimate T) .nil pass0 (pa_cons (pe_fld (pv 0) rfl) (pa_cons (pv 1) (pa_cons (pv 3) pa_nil))))))
          (pss_one (ps_asg (pv 2) (pg_sub (pe_fld (pv 0) rfl) (pv 1) set_list)))))
        (pss_one (ps_ret (pe_lst (pa_cons (pe_callB call_len_seq (by rfl) T.n_len PySem.boot_len (pa_cons (pe_fld (pv 0) rfl) pa_nil)) pa_nil))))), ?_⟩
    obtain ⟨evs, po, mo, tw, tr, pl, wl, si⟩ := st.ex
    obtain ⟨dx, o⟩ := si.obj
    have c6 := gs.c6
    have a5 := gs.a5
    refine ⟨_, rfl, a, _, dx, _, _, rfl, o, T.cl_Study, T.no_Study_contexts, st_contexts .., s.contexts, rfl, by omega, by omega, for_range (lo := 0) (n := s.contexts) (fun i σ H' => ∃ (v1 v2 v3 : Option V) (m : List (List Fraction)), σ = [some (.ref a), v1, v2, v3] ∧ m.length = s.contexts ∧
      (∀ j, j < i → m[j]? = some ((List.range s.actions).map fun x => Kp432.fitted s j x)) ∧ StIn A H' a { s with model := m } evs po mo tw tr pl wl M ∧ Moved M M H H') ⟨none, none, none, s.model, rfl, gs.mod.len, fun j hj => absurd hj (by omega), si, Moved.of (Same.refl H)⟩ ?_ ?_⟩
    · rintro i σ H1 hi ⟨v1, v2, v3, m, rfl, hm, hj, si1, mv⟩
      obtain ⟨dx1, o1⟩ := si1.obj
      refine to_name (to_seq (to_asg ?_))
      refine comp_of (walk_range (lo := 0) (n := s.actions)) (stays_rat (A := A)) ((List.range s.actions).map fun x => Kp432.fitted s i x) (by rw [List.length_map, List.length_range]) (by omega) (fun _ _ => trivial) (fun Z hZ => ⟨_, rfl, a, _, dx1, _, _, rfl, o1, T.cl_Study, T.no_Study_actions, st_actions .., s.actions, rfl, by omega, by omega, hZ⟩) ?_ ?_
      · rintro x y u H2 H3 D hy s2 ⟨acc, hD⟩ ⟨rfl, rfl⟩ Z hZ
        rw [List.getElem?_map] at hy
        have hx : x < s.actions := by
          cases e : (List.range s.actions)[x]? with
          | none =>
            rw [e] at hy
            cases hy
          | some q =>
            have := (List.getElem?_eq_some_iff.mp e).1
            rwa [List.length_range] at this
        rw [List.getElem?_range hx] at hy
        cases Option.some.inj hy
        have e0 : V.int (0 + (x : Int)) = nat x := congrArg V.int (Int.zero_add _)
        have e1 : V.int (0 + (i : Int)) = nat i := congrArg V.int (Int.zero_add _)
        obtain ⟨dx2, o2⟩ := (si1.same s2).obj
        refine ⟨rfl, _, rfl, a, _, dx2, _, _, rfl, o2, T.cl_Study, T.no_Study_events, st_events .., _, rfl, _, rfl, evs, s.events, i, x, ?_, (si1.same s2).evs, Nat.le_trans gs.evn (by decide), fun q H4 s4 r4 => hZ _ _ s4 ⟨q, rfl, r4⟩ (rat_ne r4 (s4 _ _ hD))⟩
        rw [← e0, ← e1]
        rfl
      · intro D H2 nD s2 hD
        have si2 := si1.same s2
        obtain ⟨dx2, o2⟩ := si2.obj
        obtain ⟨rs, m1, m2, m3, m4⟩ := si2.mod.ex
        have im := si2.inM
        have DM : D ∉ M := si1.new_out nD
        have Dmo : D ≠ mo := fun e => DM (e ▸ im.2.2.1)
        have bt : But H2 (L2.upd H2 mo (.lst ((rs.map V.ref).set i (.ref D)))) mo := But.upd m1
        refine ⟨_, rfl, _, rfl, a, _, dx2, _, _, rfl, o2, T.cl_Study, T.no_Study_model, st_model .., _, rfl, mo, _, (0 : Int) + (i : Int), i, rfl, rfl, m1, ?_, ?_⟩
        · rw [Int.zero_add]
          exact ixN_of (by rw [List.length_map, m2]; show i < m.length; omega)
        · have si3 := si2.model bt (m := m.set i ((List.range s.actions).map fun x => Kp432.fitted s i x)) (RowsAt.put (by rw [upd_same, set_ref]) m2 (fun j b y hb hy => bt.rats (m3 j b y hb hy) (fun e => m4 b (List.mem_of_getElem? hb) (e ▸ im.2.2.1))) m4 (bt.rats hD.refs Dmo) DM)
          refine ⟨_, _, _, _, rfl, by rw [List.length_set]; exact hm, fun j hji => ?_, si3, ?_⟩
          · by_cases e : j = i
            · subst e
              rw [List.getElem?_set_self (by omega)]
            · rw [List.getElem?_set_ne (Ne.symm e)]
              exact hj j (by omega)
          · exact ⟨fun b q e nb => bt.keep _ _ (s2 _ _ (mv.keep _ _ e nb)) fun z => nb (z ▸ im.2.2.1), fun m hm => .inl hm⟩
    · rintro σ H1 ⟨v1, v2, v3, m, rfl, hm, hj, si1, mv⟩
      obtain ⟨dx1, o1⟩ := si1.obj
      obtain ⟨as, e1, e2, _⟩ := si1.evs.ex
      have em : m = Kp432.fit s := by
        refine List.ext_getElem? fun j => ?_
        unfold Kp432.fit
        by_cases h : j < s.contexts
        · rw [hj j h, List.getElem?_map, List.getElem?_range h]
          rfl
        · rw [List.getElem?_eq_none (by omega), List.getElem?_eq_none (by rw [List.length_map, List.length_range]; omega)]
      subst em
      refine ⟨_, rfl, a, _, dx1, _, _, rfl, o1, T.cl_Study, T.no_Study_events, st_events .., evs, _, rfl, .inl (SqL.of e1), (by show 1 ≤ sizeLine; decide), fun p hp => ?_⟩
      refine dn.good _ _ _ (by omega) LwM.fit_ok p _ M ?_ ?_ ⟨evs, po, mo, tw, tr, pl, wl, si1.same (Same.new hp)⟩ (mv.then (Same.new hp))
      · cases e : H p with
        | none => rfl
        | some q =>
          exfalso
          by_cases hpM : p ∈ M
          · obtain ⟨xs, e'⟩ := si1.tracked p hpM
            rw [e'] at hp
            cases hp
          · rw [mv.keep _ _ e hpM] at hp
            cases hp
      · rw [upd_same, List.length_map, e2]
        rfl
end
end Lw
end
/-! LwCopy -/
section
set_option Elab.async false
set_option linter.all false
set_option maxRecDepth 100000
set_option maxHeartbeats 4000000
namespace Lw
open PySem PySem.Spec PyProof.Rows L2
open Kp432 (Fraction Study Policy)
def rListOf (K : PySem.W.Frag) : List V → Hp → VK → Prop := fun xs H Q => ∃ p ys, xs = [.ref p] ∧ (SqL K H p ys ∨ SqT K H p ys) ∧ ∀ l, H l = none → Q (.ref l) (L2.upd H l (.lst ys))
/-- a copy of a row -/
def copyS (H0 : Hp) : Addr → Hp → V → List Nat → Prop := fun D H v row => ∃ b, v = .ref b ∧ NatsAt H b row ∧ H0 b = none ∧ b ≠ D
theorem stays_copy {H0 : Hp} : StaysD (copyS H0) where
  same := fun s h => by
    obtain ⟨b, e, h1, h2, h3⟩ := h
    exact ⟨b, e, h1.same s, h2, h3⟩
  grow := fun _ h => by
    obtain ⟨b, e, h1, h2, h3⟩ := h
    exact ⟨b, e, (upd_ne h3).trans h1, h2, h3⟩
theorem nodup_set {x : Addr} : ∀ {l : List Addr} {i : Nat}, l.Nodup → x ∉ l → (l.set i x).Nodup
  | [], _, h, _ => h
  | a :: l, 0, h, n => by
    rw [List.nodup_cons] at h
    show (x :: l).Nodup
    exact List.nodup_cons.mpr ⟨fun m => n (List.mem_cons_of_mem _ m), h.2⟩
  | a :: l, i + 1, h, n => by
    rw [List.nodup_cons] at h
    show (a :: l.set i x).Nodup
    refine List.nodup_cons.mpr ⟨fun m => ?_, nodup_set h.2 fun m => n (List.mem_cons_of_mem _ m)⟩
    rcases LwM.set_mem m with m | rfl
    · exact h.1 m
    · exact n List.mem_cons_self
section
variable {P : Program} {w : World} {K : PySem.W.Frag} {mg : Str → Option Value} {base : Heap} {A : Ad}
theorem ok_copy_policy (T : Txt K mg A) : FnOk P w K mg base (L2.CX P w) 6 A.f_copy_policy A.d_copy_policy ["study", "source", "target"] (sp_copy_policy K A) := by
  refine T.fn_copy_policy.okX sc_copy_policy (fun vs H Q E h => ?_) (fun cdv Ar outer s H vs Q E hr h => ?_)
  · obtain ⟨a, s, M, k, t, rfl, _⟩ := h
    rfl
  · obtain ⟨a, s, M, k, t, rfl, st, gs, dn⟩ := h
    refine ⟨_, (pss_cons (ps_expr (pe_call (ok_check_policy T) (hr.mono (by decide)) rfl T.g_check_policy T.fn_check_policy.kp (bi_check_policy T) .nil (passes_call (takes_of rfl rfl rfl rfl) (fun _ _ _ _ h => h)) (pa_cons (pv 1) pa_nil)))
        (pss_cons (ps_expr (pe_call (ok_check_policy T) (hr.mono (by decide)) rfl T.g_check_policy T.fn_check_policy.kp (bi_check_policy T) .nil (passes_call (takes_of rfl rfl rfl rfl) (fun _ _ _ _ h => h)) (pa_cons (pv 2) pa_nil)))
        (pss_cons (ps_set (i := 3) sc_copy_policy.nd rfl (Or.inl rfl) (pe_fld (pe_ix ix_list (pe_fld (pv 0) rfl) (pv 1) (fun _ _ => rfl)) rfl))
        (pss_cons (ps_asg (pe_make T.mk_Policy (ok_Policy_init T) (hr.mono (by decide)) rfl T.g_Policy (bi_Policy_init T) .nil pass0 (pa_cons (pe_lc (own := [("row", 4)]) (g := gName 4) (tt := tYes) (te := (tCB (rListOf K) (tCons (tVar 4) tNil))) (by rfl) sc_copy_policy.nd (pi_list (pv 3)) (blkOk_by (own := [("row", 4)]) (N := ["study", "source", "target", "rows", "row"]) (sc := defScope s_copy_policy) (by decide +kernel)) (fun _ _ _ _ _ => pg_name (i := 4) sc_copy_policy.nd rfl (Or.inl rfl)) (fun _ _ _ _ _ => pts_nil) (fun _ _ _ _ _ => (pe_callTy call_list_of (by rfl) T.n_list (by decide +kernel) (pa_cons (pv 4) pa_nil)))) pa_nil)) (pg_sub (pe_fld (pv 0) rfl) (pv 2) set_list))
        (pss_one (ps_ret (pe_lst (pa_cons pe_int pa_nil)))))))), ?_⟩
    refine ⟨_, rfl, k, rfl, fun h0 => ?_, fun h0 => dn.bad _ (by decide) (LwM.copy_2 (by omega))⟩
    refine ⟨_, rfl, t, rfl, fun h1 => ?_, fun h1 => dn.bad _ (by decide) (LwM.copy_2 (by omega))⟩
    obtain ⟨evs, po, mo, tw, tr, pl, wl, si⟩ := st.ex
    obtain ⟨dx, o⟩ := si.obj
    have pn := gs.poln
    obtain ⟨pa, hpa⟩ : ∃ pa, pl[k]? = some pa := ⟨_, List.getElem?_eq_getElem (by rw [si.plen]; omega)⟩
    obtain ⟨wa, hwa⟩ : ∃ wa, wl[k]? = some wa := ⟨_, List.getElem?_eq_getElem (by rw [si.wlen]; omega)⟩
    have hpk : s.policies[k]? = some (Kp432.policyAt s k) := by
      unfold Kp432.policyAt
      rw [List.getD_eq_getElem?_getD, List.getElem?_eq_getElem (by omega)]
      rfl
    obtain ⟨⟨dp, hp⟩, hrows⟩ := si.pat k pa wa _ hpa hwa hpk
    obtain ⟨rs, r1, r2, r3, r4⟩ := hrows.ex
    have gp := LwM.pol_at gs h0
    have c6 := gs.c6
    refine ⟨_, rfl, a, _, dx, _, _, rfl, o, T.cl_Study, T.no_Study_policies, st_policies .., _, rfl, po, _, _, _, rfl, rfl, SqL.of si.pol, at_of (j := k) (v := V.ref pa) rfl (by rw [List.getElem?_map, hpa]; rfl), pa, _, dp, _, _, rfl, hp, T.cl_Policy, T.no_Policy_weights, pol_weights wa, ?_⟩
    refine to_name (to_nx (to_seq (to_asg (to_make (to_cons ?_)))))
    refine comp_ofD (walk_list (K := K) (a := wa) (xs := rs.map V.ref)) (stays_copy (H0 := H)) (Kp432.policyAt s k) (by rw [List.length_map, r2]) (by rw [List.length_map, r2, gp.len]; omega) (fun H1 s1 => SqL.of (s1 _ _ r1)) (fun Z hZ => ⟨_, rfl, wa, rfl, ⟨_, SqL.of r1⟩, hZ⟩) ?_ ?_
    · rintro i y x H1 H2 D hy nD s1 ⟨acc, hD⟩ ⟨rfl, hx⟩ Z hZ
      obtain ⟨b, hb, rfl⟩ := ref_at hx
      have hby := (r3 i b y hb hy).same s1
      refine ⟨rfl, _, rfl, b, _, rfl, .inl (SqL.of hby), fun q hq => ?_⟩
      refine hZ _ _ (Same.new hq) ⟨q, rfl, upd_same, s1.free hq, fun e => ?_⟩
      rw [e, hD] at hq
      cases hq
    · intro W H1 nW s1 hW
      intro q dq nq ndq neq
      refine ⟨q, dq, W, rfl, upd_same, fun H2 h2 kp => ⟨rfl, ?_⟩⟩
      have s2 := Same.made nq ndq kp
      have s12 := s1.trans s2
      have si2 := si.same s12
      obtain ⟨dx2, o2⟩ := si2.obj
      have im := si2.inM
      have ap := si2.apart
      have WM : W ∉ M := si.new_out nW
      have cp : LstAt (fun H' b row => NatsAt H' b row ∧ H b = none ∧ b ≠ W) H1 W (Kp432.policyAt s k) := LstV.refs hW
      obtain ⟨bs, b1, b2, b3⟩ := cp.ex
      have bt : But H2 (L2.upd H2 po (.lst ((pl.map V.ref).set t (.ref q)))) po := But.upd si2.pol
      have tlen : t < pl.length := by rw [si.plen]; omega
      refine ⟨_, rfl, a, _, dx2, _, _, rfl, o2, T.cl_Study, T.no_Study_policies, st_policies .., _, rfl, po, _, _, t, rfl, rfl, si2.pol, ixN_of (by rw [List.length_map]; exact tlen), ?_⟩
      refine ⟨(by show 1 ≤ sizeLine; decide), fun p hp => ?_⟩
      have n1 := upd_none hp
      have inW : ∀ x ∈ evs :: po :: mo :: tw :: tr :: wl.set t W, x ∈ M ∨ x = W := fun x hx => by
        rw [si.mu]
        simp only [List.mem_cons] at hx ⊢
        rcases hx with h | h | h | h | h | h
        · exact .inl (.inl h)
        · exact .inl (.inr (.inl h))
        · exact .inl (.inr (.inr (.inl h)))
        · exact .inl (.inr (.inr (.inr (.inl h))))
        · exact .inl (.inr (.inr (.inr (.inr (.inl h)))))
        · rcases LwM.set_mem h with h | h
          · exact .inl (.inr (.inr (.inr (.inr (.inr h)))))
          · exact .inr h
      have mk : ∀ x ∈ evs :: po :: mo :: tw :: tr :: wl.set t W, x ∈ M ∨ ∀ b, (∃ o, H b = some o) → b ≠ x := fun x hx => (inW x hx).imp id fun e b hb z => by
        obtain ⟨o, hb⟩ := hb
        rw [z, e, nW] at hb
        cases hb
      have sn := Same.new (H := L2.upd H2 po (.lst ((pl.map V.ref).set t (.ref q)))) (o := .lst [.int 0]) hp
      have poW : po ≠ W := fun e => WM (e ▸ im.2.1)
      have Wpo := Ne.symm poW
      have mp := im.2.1
      have Wat : L2.upd H2 po (.lst ((pl.map V.ref).set t (.ref q))) W = some (.lst (bs.map V.ref)) := bt.keep _ _ (s2 _ _ b1) Wpo
      have nrow : ∀ {l : Addr} {rs : List (List Nat)}, RowsAt NatsAt H l rs M → l ≠ po → RowsAt NatsAt (L2.upd H2 po (.lst ((pl.map V.ref).set t (.ref q)))) l rs (evs :: po :: mo :: tw :: tr :: wl.set t W) := fun h n =>
        bt.nrows ((h.mono mk fun a x e => ⟨_, e⟩).same s12 fun _ _ e => e.same s12) n (by simp)
      have frow : ∀ {l : Addr} {rs : List (List Fraction)}, RowsAt (RatsAt A) H l rs M → l ≠ po → RowsAt (RatsAt A) (L2.upd H2 po (.lst ((pl.map V.ref).set t (.ref q)))) l rs (evs :: po :: mo :: tw :: tr :: wl.set t W) := fun h n =>
        bt.frows ((h.mono mk fun a x e => (let ⟨as, e, _⟩ := e.ex; ⟨_, e⟩)).same s12 fun _ _ e => e.same s12) n (by simp)
      refine dn.good _ _ _ (by omega) (LwM.copy_ok ⟨h0, h1⟩) p _ (evs :: po :: mo :: tw :: tr :: wl.set t W) (s12.free n1.2) upd_same ⟨evs, po, mo, tw, tr, pl.set t q, wl.set t W, StIn.same ?_ sn⟩ ?_
      · refine ⟨rfl, ⟨dx2, bt.ins o2⟩, bt.evs si2.evs ap.a1, by rw [upd_same, set_ref], ?_, ?_, fun i u l r hu hl hr => ?_, frow si.mod (Ne.symm ap.b2), bt.keep _ _ si2.tw (Ne.symm ap.b3), nrow si.tr (Ne.symm ap.b4), ?_⟩
        · show (pl.set t q).length = (s.policies.set t _).length
          rw [List.length_set, List.length_set]
          exact si.plen
        · show (wl.set t W).length = (s.policies.set t _).length
          rw [List.length_set, List.length_set]
          exact si.wlen
        · have hr' : (s.policies.set t (Kp432.policyAt s k))[i]? = some r := hr
          by_cases e : i = t
          · subst e
            rw [List.getElem?_set_self (by omega)] at hu hr'
            rw [List.getElem?_set_self (by rw [si.wlen]; omega)] at hl
            cases Option.some.inj hu
            cases Option.some.inj hl
            cases Option.some.inj hr'
            refine ⟨⟨dq, bt.ins h2⟩, bs, Wat, b2, fun j b x hb hx => ?_, fun b hb hm => ?_⟩
            · obtain ⟨g1, g2, g3⟩ := b3 j b x hb hx
              refine bt.keep _ _ (g1.same s2) fun z => ?_
              rw [z, si.pol] at g2
              cases g2
            · obtain ⟨j, hj, ej⟩ := List.getElem_of_mem hb
              obtain ⟨g1, g2, g3⟩ := b3 j b _ (by rw [← ej]; exact List.getElem?_eq_getElem hj) (List.getElem?_eq_getElem (show j < (Kp432.policyAt s k).length by omega))
              rcases inW b hm with z | z
              · exact si.new_out g2 z
              · exact g3 z
          · rw [List.getElem?_set_ne (Ne.symm e)] at hu hl hr'
            obtain ⟨⟨du, e1⟩, e2⟩ := si.pat i u l r hu hl hr'
            exact ⟨⟨du, bt.ins (s12 _ _ e1)⟩, nrow e2 fun z => ap.b5 (z ▸ List.mem_of_getElem? hl)⟩
        · have nW' : ∀ x ∈ M, x ≠ W := fun x hx e => WM (e ▸ hx)
          have ns : ∀ {x}, x ∉ wl → x ≠ W → x ∉ wl.set t W := fun h1 h2 hm => (LwM.set_mem hm).elim h1 h2
          simp only [List.nodup_cons, List.mem_cons, not_or]
          exact ⟨⟨ap.a1, ap.a2, ap.a3, ap.a4, ns ap.a5 (nW' _ im.1)⟩, ⟨ap.b2, ap.b3, ap.b4, ns ap.b5 poW⟩, ⟨ap.c3, ap.c4, ns ap.c5 (nW' _ im.2.2.1)⟩, ⟨ap.d4, ns ap.d5 (nW' _ im.2.2.2.1)⟩, ns ap.e5 (nW' _ im.2.2.2.2.1),
            nodup_set ap.nd fun hm => WM (im.2.2.2.2.2 W hm)⟩
      · exact ⟨fun b u e nb => sn _ _ (bt.keep _ _ (s12 _ _ e) fun z => nb (z ▸ mp)), fun x hx => (inW x hx).imp id fun e => by rw [e]; exact nW⟩
end
end Lw
end
/-! LwMore -/
section
set_option Elab.async false
set_option linter.all false
set_option maxRecDepth 100000
set_option maxHeartbeats 4000000
/-! more of lists of fractions: the greatest one, one bottom, the tops over it; the seeds -/
namespace Lw
open PySem PySem.Spec PyProof.Rows L2
open Kp432 (Fraction Study Policy)
def sp_greatest (K : PySem.W.Frag) (A : Ad) : Sp := fun vs H Q _ => ∃ (l : Addr) (xs : List Fraction), vs = [.ref l] ∧ RatsAt A H l xs ∧ (∀ x ∈ xs, Sz x) ∧ 0 < xs.length ∧ ∀ c, RatAt A H c (LwM.gmax xs) → Q (.ref c) H
/-- one bottom for all, small enough -/
structure BotFit (xs : List Fraction) : Prop where
  ex : ∃ D : Nat, (∀ x ∈ xs, 0 < x.den ∧ x.den ∣ D) ∧ 0 < D ∧ D < 2 ^ 4500
def sp_common_bottom (K : PySem.W.Frag) (A : Ad) : Sp := fun vs H Q _ => ∃ (l : Addr) (xs : List Fraction), vs = [.ref l] ∧ RatsAt A H l xs ∧ BotFit xs ∧ Q (nat (LwM.botOf xs)) H
def sp_tops_over (K : PySem.W.Frag) (A : Ad) : Sp := fun vs H Q _ => ∃ (l : Addr) (xs : List Fraction) (B : Nat), vs = [.ref l, nat B] ∧ RatsAt A H l xs ∧ (∀ x ∈ xs, Sz x) ∧ B < 2 ^ 4500 ∧ xs.length ≤ 1000 ∧
  ∀ D H1, Same H H1 → H1 D = some (.lst ((xs.map (LwM.topOver B)).map V.int)) → Q (.ref D) H1
def sp_following_seed (K : PySem.W.Frag) (A : Ad) : Sp := fun vs H Q _ => ∃ s : Nat, vs = [nat s] ∧ s < 2 ^ 60 ∧ Q (nat (Kp432.nextSeed s)) H
def sp_resampled_sums (K : PySem.W.Frag) (A : Ad) : Sp := fun vs H Q _ => ∃ (l : Addr) (tops : List Int) (rounds s : Nat), vs = [.ref l, nat rounds, nat s] ∧ H l = some (.lst (tops.map V.int)) ∧ 0 < tops.length ∧ tops.length ≤ 1000 ∧ rounds ≤ 1000 ∧ s < 2 ^ 60 ∧
  ∀ D H1, Same H H1 → H1 D = some (.lst ((LwM.sumsOf tops tops.length s rounds).map V.int)) → Q (.ref D) H1
theorem to_lst0 {σ : L2.St} {H : Hp} {Q : VK} (h : ∀ p, H p = none → Q (.ref p) (L2.upd H p (.lst []))) : tLst tNil σ H Q := ⟨Nat.zero_le _, h⟩
theorem gmax_take {x0 : Fraction} {xs : List Fraction} : LwM.gmax (x0 :: xs) = (x0 :: xs).foldl LwM.pickG x0 := rfl
theorem foldl_snoc {α β : Type} (f : β → α → β) (b : β) (l : List α) (x : α) : (l ++ [x]).foldl f b = f (l.foldl f b) x := by
  rw [List.foldl_append]
  rfl
theorem pick_sz {xs : List Fraction} (h : ∀ x ∈ xs, Sz x) : ∀ (l : List Fraction) (z : Fraction), Sz z → (∀ x ∈ l, x ∈ xs) → Sz (l.foldl LwM.pickG z)
  | [], z, hz, _ => hz
  | x :: l, z, hz, k => pick_sz h l _ (by
      unfold LwM.pickG
      split
      · exact h x (k x List.mem_cons_self)
      · exact hz) fun y hy => k y (List.mem_cons_of_mem _ hy)
theorem z0 {i : Nat} : (0 : Int) + (i : Int) = (i : Int) := Int.zero_add _
theorem next_lt (s : Nat) : Kp432.nextSeed s < 2147483648 := Nat.mod_lt _ (by decide)
section
variable {P : Program} {w : World} {K : PySem.W.Frag} {mg : Str → Option Value} {base : Heap} {A : Ad}
theorem ok_greatest (T : Txt K mg A) : FnOk P w K mg base CX0 2 A.f_greatest A.d_greatest ["ratios"] (sp_greatest K A) := by
  refine T.fn_greatest.ok sc_greatest (fun vs H Q E h => ?_) (fun cdv Ar outer s H vs Q E hr h => ?_)
  · obtain ⟨l, xs, rfl, _⟩ := h
    rfl
  · obtain ⟨l, xs, rfl, hl, sz, h0, k⟩ := h
    refine ⟨_, (pss_cons (ps_set (i := 1) sc_greatest.nd rfl (Or.inl rfl) (pe_ix ix_list (pv 0) pe_int (fun _ _ => rfl)))
        (pss_cons (ps_for PassesOwn.never rfl (pi_list (pv 0)) (pg_name (i := 2) sc_greatest.nd rfl (Or.inl rfl)) (pss_one (ps_if (pt_val (pe_meth (pv 1) T.cl_Ratio T.me_Ratio_below (ok_Ratio_below T) (hr.mono (by decide)) (bi_Ratio_below T) .nil pass0 (pa_cons (pv 2) pa_nil))) (pss_one (ps_set (i := 1) sc_greatest.nd rfl (Or.inl rfl) (pv 2))) pss_nil)))
        (pss_one (ps_ret (pv 1))))), ?_⟩
    obtain ⟨as, h1, h2, h3⟩ := hl.ex
    cases xs with
    | nil => exact absurd h0 (by simp)
    | cons x0 xr =>
      have ha0 : as[0]? = some (as[0]'(by rw [h2]; simp)) := List.getElem?_eq_getElem _
      have sz0 := sz x0 List.mem_cons_self
      refine ⟨_, rfl, l, _, 0, V.ref _, rfl, rfl, SqL.of h1, at_of (j := 0) rfl (by rw [List.getElem?_map, ha0]; rfl), ?_⟩
      refine ⟨_, rfl, l, rfl, ⟨_, SqL.of h1⟩, for_list (K := K) (a := l) (xs := as.map V.ref) (fun i σ H' => ∃ (r : Addr) (v : Option V), σ = [some (.ref l), some (.ref r), v] ∧ H' = H ∧ RatAt A H r (((x0 :: xr).take i).foldl LwM.pickG x0))
        ⟨_, none, rfl, rfl, h3 0 _ x0 ha0 rfl⟩ (fun i σ H' _ hw => ?_) ?_ ?_⟩
      · obtain ⟨_, _, _, rfl, _⟩ := hw
        exact SqL.of h1
      · rintro i y σ H' hi ⟨r, v, rfl, rfl, r2⟩
        obtain ⟨a, ha, rfl⟩ := ref_at hi
        obtain ⟨x, hx⟩ := get_of_len h2 ha
        obtain ⟨dr, hr2⟩ := id r2
        have sr : Sz (((x0 :: xr).take i).foldl LwM.pickG x0) := pick_sz sz _ _ sz0 fun y hy => List.mem_of_mem_take hy
        refine ⟨_, rfl, r, dr, _, rfl, hr2, rat_no _ (by decide +kernel) (by decide +kernel), _, rfl, r, a, _, x, rfl, r2, h3 i a x ha hx, sr, sz x (List.mem_of_getElem? hx), _, rfl, ?_⟩
        have e := foldl_snoc LwM.pickG x0 ((x0 :: xr).take i) x
        rw [← take_snoc hx] at e
        by_cases c : Kp432.less (((x0 :: xr).take i).foldl LwM.pickG x0) x = true
        · refine (congrArg (fun b => ite (b = true) _ _) c).mpr (iteT ⟨_, rfl, a, some (.ref a), rfl, rfl, ?_⟩)
          rw [e]
          unfold LwM.pickG at c ⊢
          rw [if_pos c]
          exact h3 i a x ha hx
        · rw [Bool.not_eq_true] at c
          refine (congrArg (fun b => ite (b = true) _ _) c).mpr (iteF ⟨r, some (.ref a), rfl, rfl, ?_⟩)
          rw [e]
          have e2 : LwM.pickG (((x0 :: xr).take i).foldl LwM.pickG x0) x = ((x0 :: xr).take i).foldl LwM.pickG x0 := if_neg (by rw [c]; decide)
          rw [e2]
          exact r2
      · rintro σ H' ⟨r, v, rfl, rfl, r2⟩
        rw [List.length_map, h2, List.take_length] at r2
        exact ⟨_, rfl, k r r2⟩
theorem ok_common_bottom (T : Txt K mg A) : FnOk P w K mg base CX0 2 A.f_common_bottom A.d_common_bottom ["ratios"] (sp_common_bottom K A) := by
  refine T.fn_common_bottom.ok sc_common_bottom (fun vs H Q E h => ?_) (fun cdv Ar outer s H vs Q E hr h => ?_)
  · obtain ⟨l, xs, rfl, _⟩ := h
    rfl
  · obtain ⟨l, xs, rfl, hl, bf, k⟩ := h
    refine ⟨_, (pss_cons (ps_set (i := 1) sc_common_bottom.nd rfl (Or.inl rfl) pe_int)
        (pss_cons (ps_for PassesOwn.never rfl (pi_list (pv 0)) (pg_name (i := 2) sc_common_bottom.nd rfl (Or.inl rfl)) (pss_one (ps_set (i := 1) sc_common_bottom.nd rfl (Or.inl rfl) (pe_op op_mulW (pe_op op_fdivW (pv 1) (pe_call (ok_common_divisor T) (hr.mono (by decide)) rfl T.g_common_divisor T.fn_common_divisor.kp (bi_common_divisor T) .nil pass0 (pa_cons (pv 1) (pa_cons (pe_fld (pv 2) rfl) pa_nil)))) (pe_fld (pv 2) rfl)))))
        (pss_one (ps_ret (pv 1))))), ?_⟩
    obtain ⟨as, h1, h2, h3⟩ := hl.ex
    obtain ⟨D, hD, d0, d9⟩ := bf.ex
    refine ⟨_, rfl, l, rfl, ⟨_, SqL.of h1⟩, for_list (K := K) (a := l) (xs := as.map V.ref) (fun i σ H' => ∃ v : Option V, σ = [some (.ref l), some (nat (LwM.botOf (xs.take i))), v] ∧ H' = H)
      ⟨none, rfl, rfl⟩ (fun i σ H' _ hw => ?_) ?_ ?_⟩
    · obtain ⟨_, _, rfl⟩ := hw
      exact SqL.of h1
    · rintro i y σ H' hi ⟨v, rfl, rfl⟩
      obtain ⟨a, ha, rfl⟩ := ref_at hi
      obtain ⟨x, hx⟩ := get_of_len h2 ha
      obtain ⟨da, hda⟩ := h3 i a x ha hx
      obtain ⟨xp, xd⟩ := hD x (List.mem_of_getElem? hx)
      have dx : x.den < 2 ^ 4500 := Nat.lt_of_le_of_lt (Nat.le_of_dvd d0 xd) d9
      have b0 : 0 < LwM.botOf (xs.take i) := LwM.bot_pos d0 fun y hy => (hD y (List.mem_of_mem_take hy)).2
      have b9 : LwM.botOf (xs.take i) < 2 ^ 4500 := Nat.lt_of_le_of_lt (Nat.le_of_dvd d0 (LwM.bot_dvd fun y hy => (hD y (List.mem_of_mem_take hy)).2)) d9
      have g0 : 0 < Nat.gcd (LwM.botOf (xs.take i)) x.den := Nat.gcd_pos_of_pos_right _ xp
      have g9 : Nat.gcd (LwM.botOf (xs.take i)) x.den < 2 ^ 4500 := Nat.lt_of_le_of_lt (Nat.gcd_le_right _ xp) dx
      refine ⟨_, rfl, _, rfl, _, rfl, a, _, da, _, _, rfl, hda, T.cl_Ratio, T.no_Ratio_bottom, rat_bottom x, _, _, rfl, _, _, rfl, rfl, ?_, _, rfl, a, _, da, _, _, rfl, hda, T.cl_Ratio, T.no_Ratio_bottom, rat_bottom x, _, _, rfl, rfl, ?_, ?_⟩
      · exact wide_div (by omega) (by rw [Int.natAbs_natCast]; exact g9) (by decide) (by decide)
      · refine wide_mul (a := 4500) (b := 4500) ?_ (by rw [Int.natAbs_natCast]; exact dx) (by decide) (by decide) (by decide)
        have e : ((LwM.botOf (xs.take i) : Nat) : Int) / ((Nat.gcd (LwM.botOf (xs.take i)) x.den : Nat) : Int) = ((LwM.botOf (xs.take i) / Nat.gcd (LwM.botOf (xs.take i)) x.den : Nat) : Int) := rfl
        rw [e, Int.natAbs_natCast]
        exact Nat.lt_of_le_of_lt (Nat.div_le_self _ _) b9
      · refine ⟨some (.ref a), ?_, rfl⟩
        have e := foldl_snoc LwM.botStep 1 (xs.take i) x
        rw [← take_snoc hx] at e
        have e' : nat (LwM.botOf (xs.take (i + 1))) = V.int (((LwM.botOf (xs.take i) : Nat) : Int) / ((Nat.gcd (LwM.botOf (xs.take i)) x.den : Nat) : Int) * (x.den : Int)) := by
          show nat ((xs.take (i + 1)).foldl LwM.botStep 1) = _
          rw [e]
          rfl
        rw [e']
        rfl
    · rintro σ H' ⟨v, rfl, rfl⟩
      rw [List.length_map, h2, List.take_length]
      exact ⟨_, rfl, k⟩
theorem ok_tops_over (T : Txt K mg A) : FnOk P w K mg base CX0 1 A.f_tops_over A.d_tops_over ["ratios", "bottom"] (sp_tops_over K A) := by
  refine T.fn_tops_over.ok sc_tops_over (fun vs H Q E h => ?_) (fun cdv Ar outer s H vs Q E hr h => ?_)
  · obtain ⟨l, xs, B, rfl, _⟩ := h
    rfl
  · obtain ⟨l, xs, B, rfl, hl, sz, b9, h9, k⟩ := h
    refine ⟨_, (pss_one (ps_ret (pe_lc (own := [("ratio", 2)]) (g := gName 2) (tt := tYes) (te := (tOp (rI CMulW fun i j => .int (i * j)) (tFld K (tVar 2) "top") (tOp (rI CDivW fun i j => .int (i / j)) (tVar 1) (tFld K (tVar 2) "bottom")))) (by rfl) sc_tops_over.nd (pi_list (pv 0)) (blkOk_by (own := [("ratio", 2)]) (N := ["ratios", "bottom", "ratio"]) (sc := defScope s_tops_over) (by decide +kernel)) (fun _ _ _ _ _ => pg_name (i := 2) sc_tops_over.nd rfl (Or.inl rfl)) (fun _ _ _ _ _ => pts_nil) (fun _ _ _ _ _ => (pe_op op_mulW (pe_fld (pv 2) rfl) (pe_op op_fdivW (pv 1) (pe_fld (pv 2) rfl))))))), ?_⟩
    refine to_ret ?_
    refine comp_objs (R := RatAt A) (stays_val (f := fun n : Int => V.int n)) (LwM.topOver B) hl (fun s r => r.same s) h9 (fun Z hZ => ⟨_, rfl, hZ⟩) ?_ fun D H1 _ s1 r1 => k D H1 s1 r1.vals
    intro x a H1 D hx ⟨da, ha⟩ s1 hD Z hZ
    have sx := sz x hx
    refine ⟨_, rfl, a, _, da, _, _, rfl, ha, T.cl_Ratio, T.no_Ratio_top, rat_top x, _, rfl, _, rfl, a, _, da, _, _, rfl, ha, T.cl_Ratio, T.no_Ratio_bottom, rat_bottom x, _, _, rfl, rfl, ?_, _, _, rfl, rfl, ?_, ?_⟩
    · exact wide_div (by have := sx.pos; omega) (by rw [Int.natAbs_natCast]; exact sx.den) (by decide) (by decide)
    · refine wide_mul (a := 9000) (b := 4500) sx.num ?_ (by decide) (by decide) (by decide)
      have e : ((B : Nat) : Int) / ((x.den : Nat) : Int) = ((B / x.den : Nat) : Int) := rfl
      rw [e, Int.natAbs_natCast]
      exact Nat.lt_of_le_of_lt (Nat.div_le_self _ _) b9
    · exact hZ _ _ (Same.refl _) rfl (fun z => nomatch z)
theorem ok_following_seed (T : Txt K mg A) : FnOk P w K mg base CX0 1 A.f_following_seed A.d_following_seed ["seed"] (sp_following_seed K A) := by
  refine T.fn_following_seed.ok sc_following_seed (fun vs H Q E h => ?_) (fun cdv Ar outer s H vs Q E hr h => ?_)
  · obtain ⟨s, rfl, _⟩ := h
    rfl
  · obtain ⟨s, rfl, s9, k⟩ := h
    obtain ⟨t_MULTIPLIER, k_MULTIPLIER⟩ := T.k_MULTIPLIER
    obtain ⟨t_INCREMENT, k_INCREMENT⟩ := T.k_INCREMENT
    obtain ⟨t_MODULUS, k_MODULUS⟩ := T.k_MODULUS
    refine ⟨_, (pss_one (ps_ret (pe_op op_mod (pe_op op_add (pe_op op_mulW (pe_glob (v := .int 1103515245) rfl k_MULTIPLIER ⟨_, rfl⟩) (pv 0)) (pe_glob (v := .int 12345) rfl k_INCREMENT ⟨_, rfl⟩)) (pe_glob (v := .int 2147483648) rfl k_MODULUS ⟨_, rfl⟩)))), ?_⟩
    refine ⟨_, rfl, _, _, rfl, rfl, ?_, _, _, rfl, rfl, _, _, rfl, rfl, by show (0 : Int) < 2147483648; decide, ?_⟩
    · exact wide_mul (a := 60) (b := 60) (by decide) (by rw [Int.natAbs_natCast]; exact s9) (by decide) (by decide) (by decide)
    · exact k
theorem ok_resampled_sums (T : Txt K mg A) : FnOk P w K mg base CX0 2 A.f_resampled_sums A.d_resampled_sums ["numbers", "rounds", "seed"] (sp_resampled_sums K A) := by
  refine T.fn_resampled_sums.ok sc_resampled_sums (fun vs H Q E h => ?_) (fun cdv Ar outer s H vs Q E hr h => ?_)
  · obtain ⟨l, tops, rounds, s, rfl, _⟩ := h
    rfl
  · obtain ⟨l, tops, rounds, s, rfl, hl, n0, n9, r9, s9, k⟩ := h
    obtain ⟨t_CUT, k_CUT⟩ := T.k_CUT
    refine ⟨_, (pss_cons (ps_set (i := 3) sc_resampled_sums.nd rfl (Or.inl rfl) (pe_lst pa_nil))
        (pss_cons (ps_for PassesOwn.never rfl (pi_range1 (by rfl) T.n_range (pa_cons (pv 1) pa_nil)) (pg_name (i := 4) sc_resampled_sums.nd rfl (Or.inl rfl)) (pss_cons (ps_set (i := 5) sc_resampled_sums.nd rfl (Or.inl rfl) pe_int)
          (pss_cons (ps_for PassesOwn.never rfl (pi_range1 (by rfl) T.n_range (pa_cons (pe_callB call_len_seq (by rfl) T.n_len PySem.boot_len (pa_cons (pv 0) pa_nil)) pa_nil)) (pg_name (i := 6) sc_resampled_sums.nd rfl (Or.inl rfl)) (pss_cons (ps_set (i := 2) sc_resampled_sums.nd rfl (Or.inl rfl) (pe_call (ok_following_seed T) (hr.mono (by decide)) rfl T.g_following_seed T.fn_following_seed.kp (bi_following_seed T) .nil pass0 (pa_cons (pv 2) pa_nil)))
            (pss_one (ps_aug (i := 5) sc_resampled_sums.nd rfl (Or.inl rfl) (pe_ix ix_list (pv 0) (pe_op op_mod (pe_op op_fdivW (pv 2) (pe_glob (v := .int 65536) rfl k_CUT ⟨_, rfl⟩)) (pe_callB call_len_seq (by rfl) T.n_len PySem.boot_len (pa_cons (pv 0) pa_nil))) (fun _ _ => rfl)) ip_add))))
          (pss_one (ps_expr (pe_bm PySem.F.plainAttrs_list PySem.F.slot_list_append PySem.F.type_list_append mt_append (pv 3) (pa_cons (pv 5) pa_nil)))))))
        (pss_one (ps_ret (pv 3))))), ?_⟩
    refine to_seq (to_asg (to_lst0 fun D nD => to_name (to_nx (to_seq ?_))))
    have hDl : D ≠ l := fun e => by
      rw [e, hl] at nD
      cases nD
    refine ⟨_, rfl, rounds, rfl, by omega, by omega, for_range (lo := 0) (n := rounds) (fun i σ H' => ∃ v4 v5 v6 : Option V, σ = [some (.ref l), some (nat rounds), some (nat (LwM.sdn (i * tops.length) s)), some (.ref D), v4, v5, v6] ∧ LwM.sdn (i * tops.length) s < 2 ^ 60 ∧ Same H H' ∧
      H' D = some (.lst ((LwM.sumsOf tops tops.length s i).map V.int))) ⟨none, none, none, ?_, ?_, Same.new nD, upd_same⟩ ?_ ?_⟩
    · rw [Nat.zero_mul]
      rfl
    · rw [Nat.zero_mul]
      exact s9
    · rintro i σ H1 hi ⟨v4, v5, v6, rfl, sd9, s1, hD⟩
      refine to_name (to_seq (to_asg ?_))
      refine to_name (to_nx (to_seq ?_))
      have hl1 := s1 _ _ hl
      refine ⟨_, rfl, l, _, rfl, .inl (SqL.of hl1), tops.length, ?_, by omega, by omega, for_range (lo := 0) (n := tops.length) (fun j σ H' => ∃ v6 : Option V, σ = [some (.ref l), some (nat rounds), some (nat (LwM.sdn (i * tops.length + j) s)), some (.ref D), some (.int (0 + (i : Int))), some (.int (((List.range j).map fun m => tops.getD (LwM.place tops.length (LwM.sdn (i * tops.length) s) m) 0).sum)), v6] ∧
        LwM.sdn (i * tops.length + j) s < 2 ^ 60 ∧ H' = H1) ⟨v6, rfl, sd9, rfl⟩ ?_ ?_⟩
      · rw [List.length_map]
      · rintro j σ H2 hj ⟨w6, rfl, sj9, rfl⟩
        refine to_name (to_seq (to_asg ?_))
        refine ⟨_, rfl, _, rfl, sj9, to_name (to_nx ?_)⟩
        have n9 := next_lt (LwM.sdn (i * tops.length + j) s)
        have en : Kp432.nextSeed (LwM.sdn (i * tops.length + j) s) = LwM.sdn (i * tops.length + (j + 1)) s := rfl
        have pl : Kp432.nextSeed (LwM.sdn (i * tops.length + j) s) / 65536 % tops.length = LwM.place tops.length (LwM.sdn (i * tops.length) s) j := by
          unfold LwM.place
          rw [LwM.sdn_add]
          rfl
        have plt : LwM.place tops.length (LwM.sdn (i * tops.length) s) j < tops.length := LwM.place_lt n0
        refine ⟨_, rfl, _, rfl, _, rfl, _, _, rfl, rfl, wide_div (b := 60) (by decide) (by decide) (by decide) (by decide), _, rfl, l, _, rfl, .inl (SqL.of hl1), _, _, rfl, rfl, ?_, l, _, _, V.int (tops.getD (LwM.place tops.length (LwM.sdn (i * tops.length) s) j) 0), rfl, rfl, SqL.of hl1, ?_, _, _, rfl, rfl, ?_⟩
        · rw [List.length_map]
          show (0 : Int) < (tops.length : Int)
          omega
        · rw [← pl] at plt ⊢
          refine at_of (j := Kp432.nextSeed (LwM.sdn (i * tops.length + j) s) / 65536 % tops.length) ?_ ?_
          · rw [List.length_map]
            rfl
          · rw [List.getElem?_map, List.getD_eq_getElem?_getD, List.getElem?_eq_getElem plt]
            rfl
        · refine ⟨some (.int (0 + (j : Int))), ?_, ?_, rfl⟩
          · rw [List.range_succ, List.map_append, List.sum_append]
            have ez : ([j].map fun m => tops.getD (LwM.place tops.length (LwM.sdn (i * tops.length) s) m) 0).sum = tops.getD (LwM.place tops.length (LwM.sdn (i * tops.length) s) j) 0 := by simp
            rw [ez]
            rfl
          · rw [← Nat.add_assoc]
            exact Nat.lt_of_lt_of_le n9 (by decide)
      · rintro σ H2 ⟨w6, rfl, sn9, rfl⟩
        have len : (LwM.sumsOf tops tops.length s i).length = i := by
          unfold LwM.sumsOf
          rw [List.length_map, List.length_range]
        refine ⟨_, rfl, .inl ⟨rfl, _, SqL.of hD⟩, _, rfl, D, _, _, rfl, rfl, hD, ?_, ?_⟩
        · rw [List.length_map, len]
          exact size1000 (by omega)
        · have em : (i + 1) * tops.length = i * tops.length + tops.length := by rw [Nat.add_mul, Nat.one_mul]
          refine ⟨some (.int (0 + (i : Int))), some (.int (LwM.roundSum tops tops.length (LwM.sdn (i * tops.length) s))), w6, ?_, ?_, Same.upd_new s1 nD, ?_⟩
          · rw [em]
            rfl
          · rw [em]
            exact sn9
          · rw [upd_same]
            unfold LwM.sumsOf
            rw [List.range_succ, List.map_append, List.map_append]
            rfl
    · rintro σ H1 ⟨v4, v5, v6, rfl, sd9, s1, hD⟩
      exact ⟨_, rfl, k D H1 s1 hD⟩
end
end Lw
end
/-! LwAsk -/
section
set_option Elab.async false
set_option linter.all false
set_option maxRecDepth 100000
set_option maxHeartbeats 4000000
/-! the calls that ask -/
namespace Lw
open PySem PySem.Spec PyProof.Rows L2
open Kp432 (Fraction Study Policy)
def sp_checked_terms (K : PySem.W.Frag) (A : Ad) : Sp := fun vs H Q E => ∃ (a : Addr) (s : Study) (M : List Addr) (k kd l n : Nat), vs = [.ref a, nat k, nat kd, nat l, nat n] ∧ StAt A H a s M ∧ LwM.Good s ∧
  (¬ k < 3 → Bad A H E (-2)) ∧ (k < 3 → ¬ (kd ≤ 3 ∧ 1 ≤ l ∧ l ≤ 100000) → Bad A H E (-22)) ∧ (k < 3 → kd ≤ 3 ∧ 1 ≤ l ∧ l ≤ 100000 → ¬ n ≤ s.events.length → Bad A H E (-33)) ∧
  (k < 3 → kd ≤ 3 ∧ 1 ≤ l ∧ l ≤ 100000 → n ≤ s.events.length → ∀ D H1, Same H H1 → RatsAt A H1 D (Kp432.terms s (Kp432.policyAt s k) (est kd l)) → Q (.ref D) H1)
def sp_propensity (K : PySem.W.Frag) (A : Ad) : Sp := fun vs H Q E => ∃ (a : Addr) (s : Study) (M : List Addr) (k c x : Nat), vs = [.ref a, nat k, nat c, nat x] ∧ StAt A H a s M ∧ LwM.Good s ∧ DoneOp A H Q E a s M (.propensity k c x)
def sp_estimate (K : PySem.W.Frag) (A : Ad) : Sp := fun vs H Q E => ∃ (a : Addr) (s : Study) (M : List Addr) (k kd l : Nat), vs = [.ref a, nat k, nat kd, nat l] ∧ StAt A H a s M ∧ LwM.Good s ∧ DoneOp A H Q E a s M (.estimate k kd l)
def sp_variance (K : PySem.W.Frag) (A : Ad) : Sp := fun vs H Q E => ∃ (a : Addr) (s : Study) (M : List Addr) (k kd l : Nat), vs = [.ref a, nat k, nat kd, nat l] ∧ StAt A H a s M ∧ LwM.Good s ∧ DoneOp A H Q E a s M (.variance k kd l)
def sp_normalized (K : PySem.W.Frag) (A : Ad) : Sp := fun vs H Q E => ∃ (a : Addr) (s : Study) (M : List Addr) (k : Nat), vs = [.ref a, nat k] ∧ StAt A H a s M ∧ LwM.Good s ∧ DoneOp A H Q E a s M (.normalized k)
def sp_replay (K : PySem.W.Frag) (A : Ad) : Sp := fun vs H Q E => ∃ (a : Addr) (s : Study) (M : List Addr) (k : Nat), vs = [.ref a, nat k] ∧ StAt A H a s M ∧ LwM.Good s ∧ DoneOp A H Q E a s M (.replay k)
def sp_effective_size (K : PySem.W.Frag) (A : Ad) : Sp := fun vs H Q E => ∃ (a : Addr) (s : Study) (M : List Addr) (k : Nat), vs = [.ref a, nat k] ∧ StAt A H a s M ∧ LwM.Good s ∧ DoneOp A H Q E a s M (.effectiveSize k)
/-- [z] + r.pair() behind r -/
theorem cat_pair {K : PySem.W.Frag} {A : Ad} {H2 : Hp} {Q : VK} {E : XK} {p1 r : Addr} {z : Int} {x : Fraction} (hp1 : H2 p1 = some (.lst [.int z])) (hr : RatAt A H2 r x)
    (k : ∀ p H3, H2 p = none → Same H2 H3 → H3 p = some (.lst [.int z, .int x.num, .int (x.den : Int)]) → Q (.ref p) H3) : sp_Ratio_pair K A [.ref r] H2 (fun y H3 => rCat (.ref p1) y H3 Q) E := by
  refine ⟨r, x, rfl, hr, fun p2 n2 => ?_⟩
  have s1 : Same H2 (L2.upd H2 p2 (.lst [.int x.num, .int (x.den : Int)])) := Same.new n2
  refine ⟨p1, p2, _, _, rfl, rfl, s1 _ _ hp1, upd_same, (by show 3 ≤ sizeLine; decide), fun p3 n3 => ?_⟩
  exact k p3 _ (s1.free n3) (s1.trans (Same.new n3)) upd_same
/-- a policy of the study as the estimators want it -/
theorem ctx_of {A : Ad} {H : Hp} {a pa : Addr} {s : Study} {M : List Addr} {k : Nat} (st : StAt A H a s M) (gs : LwM.Good s) (hk : k < 3) (hp : PolIs A H pa (Kp432.policyAt s k)) : Ctx A H a pa s (Kp432.policyAt s k) :=
  ⟨⟨M, st⟩, hp, gs, LwM.pol_at gs hk⟩
section
variable {s : Study} {p : Policy} {kd l : Nat}
theorem lt1400 {D : Nat} (h : D < 2 ^ 650) : D < 2 ^ 1400 := Nat.lt_trans h (Nat.pow_lt_pow_right (by decide) (by decide))
theorem fit_terms (gs : LwM.Good s) (gp : LwM.GoodPol s.contexts s.actions p) (hl : l ≤ 100000) : VarFit (Kp432.terms s p (est kd l)) :=
  ⟨_, _, LwM.bd_terms gs gp hl, by unfold Kp432.terms; rw [List.length_map]; exact gs.evn, LwM.bigD_pos gs gp (LwM.pros_pro gs), lt1400 (LwM.bigD_lt gs gp (LwM.pros_pro gs) (LwM.pros_len gs)), by decide⟩
theorem fit_ones (gs : LwM.Good s) (gp : LwM.GoodPol s.contexts s.actions p) : Fit (Kp432.terms s p ⟨1, Kp432.ofNat 0⟩) :=
  ⟨_, 500000, 40, LwM.bd_ones gs gp, by unfold Kp432.terms; rw [List.length_map]; exact gs.evn, LwM.bigD_pos gs gp (LwM.pros_pro gs), big_lt (LwM.bigD_lt gs gp (LwM.pros_pro gs) (LwM.pros_len gs)), by decide, lt60 (by decide)⟩
theorem fit_weights (gs : LwM.Good s) (gp : LwM.GoodPol s.contexts s.actions p) : Fit (s.events.map (Kp432.weight p)) :=
  ⟨_, 5000, 40, LwM.bd_weights gs gp, by rw [List.length_map]; exact gs.evn, LwM.bigD_pos gs gp (LwM.pros_pro gs), big_lt (LwM.bigD_lt gs gp (LwM.pros_pro gs) (LwM.pros_len gs)), by decide, lt60 (by decide)⟩
theorem sq_lt {D : Nat} (h : D < 2 ^ 650) : D * D < 2 ^ 1300 := by
  have := Nat.mul_lt_mul'' h h
  rw [← Nat.pow_add] at this
  exact this
theorem fit_squares (gs : LwM.Good s) (gp : LwM.GoodPol s.contexts s.actions p) : Fit (s.events.map fun e => Kp432.square (Kp432.weight p e)) := by
  have d0 := LwM.bigD_pos gs gp (LwM.pros_pro gs)
  have d9 := LwM.bigD_lt gs gp (LwM.pros_pro gs) (LwM.pros_len gs)
  exact ⟨_, 25000000, 40, LwM.bd_squares gs gp, by rw [List.length_map]; exact gs.evn, Nat.mul_pos d0 d0, Nat.lt_trans (sq_lt d9) (Nat.pow_lt_pow_right (by decide) (by decide)), by decide, lt60 (by decide)⟩
theorem num_sumW (gs : LwM.Good s) (gp : LwM.GoodPol s.contexts s.actions p) : (Kp432.sumOfWeights s p).num.natAbs < 2 ^ 4500 := by
  have d0 := LwM.bigD_pos gs gp (LwM.pros_pro gs)
  have d9 := LwM.bigD_lt gs gp (LwM.pros_pro gs) (LwM.pros_len gs)
  have h := LwM.num_le (LwM.bd_sumW gs gp) d0
  have m : 200000 * LwM.bigD s p (LwM.pros s) < 2 ^ 60 * 2 ^ 650 := Nat.mul_lt_mul'' (by decide) d9
  rw [← Nat.pow_add] at m
  exact Nat.lt_of_le_of_lt h (Nat.lt_trans m (Nat.pow_lt_pow_right (by decide) (by decide)))
theorem num_sumSq (gs : LwM.Good s) (gp : LwM.GoodPol s.contexts s.actions p) : (LwM.sumSq s p).num.natAbs < 2 ^ 4500 := by
  have d0 := LwM.bigD_pos gs gp (LwM.pros_pro gs)
  have d9 := LwM.bigD_lt gs gp (LwM.pros_pro gs) (LwM.pros_len gs)
  have h := LwM.num_le (LwM.bd_sumSq gs gp) (Nat.mul_pos d0 d0)
  have m : 1000000000 * (LwM.bigD s p (LwM.pros s) * LwM.bigD s p (LwM.pros s)) < 2 ^ 60 * 2 ^ 1300 := Nat.mul_lt_mul'' (by decide) (sq_lt d9)
  rw [← Nat.pow_add] at m
  exact Nat.lt_of_le_of_lt h (Nat.lt_trans m (Nat.pow_lt_pow_right (by decide) (by decide)))
end
section
variable {P : Program} {w : World} {K : PySem.W.Frag} {mg : Str → Option Value} {base : Heap} {A : Ad}
theorem ok_propensity (T : Txt K mg A) : FnOk P w K mg base (L2.CX P w) 7 A.f_propensity A.d_propensity ["study", "policy", "context", "action"] (sp_propensity K A) := by
  refine T.fn_propensity.okX sc_propensity (fun vs H Q E h => ?_) (fun cdv Ar outer s H vs Q E hr h => ?_)
  · obtain ⟨a, s, M, k, c, x, rfl, _⟩ := h
    rfl
  · obtain ⟨a, s, M, k, c, x, rfl, st, gs, dn⟩ := h
    refine ⟨_, (pss_cons (ps_expr (pe_call (ok_check_policy T) (hr.mono (by decide)) rfl T.g_check_policy T.fn_check_policy.kp (bi_check_policy T) .nil (passes_call (takes_of rfl rfl rfl rfl) (fun _ _ _ _ h => h)) (pa_cons (pv 1) pa_nil)))
        (pss_cons (ps_expr (pe_call (ok_check_decision T) (hr.mono (by decide)) rfl T.g_check_decision T.fn_check_decision.kp (bi_check_decision T) .nil (passes_call (takes_of rfl rfl rfl rfl) (fun _ _ _ _ h => h)) (pa_cons (pv 0) (pa_cons (pv 2) (pa_cons (pv 3) pa_nil)))))
        (pss_one (ps_ret (pe_op op_cat (pe_lst (pa_cons pe_int pa_nil)) (pe_meth0 (pe_meth (pe_ix ix_list (pe_fld (pv 0) rfl) (pv 1) (fun _ _ => rfl)) T.cl_Policy T.me_Policy_chance (ok_Policy_chance T) (hr.mono (by decide)) (bi_Policy_chance T) .nil pass0 (pa_cons (pv 2) (pa_cons (pv 3) pa_nil))) T.cl_Ratio T.me_Ratio_pair (ok_Ratio_pair T) (hr.mono (by decide)) (bi_Ratio_pair T) .nil pass0)))))), ?_⟩
    refine ⟨_, rfl, k, rfl, fun h0 => ?_, fun h0 => dn.bad _ (by decide) (LwM.prop_2 (by omega))⟩
    refine ⟨_, rfl, _, rfl, _, rfl, a, s, M, c, x, rfl, st, fun h1 => ?_, fun h1 => dn.bad _ (by decide) (LwM.prop_2 (by omega))⟩
    have h01 : k < 3 ∧ c < s.contexts ∧ x < s.actions := ⟨h0, h1⟩
    refine ⟨(by show 1 ≤ sizeLine; decide), fun p1 n1 => ?_⟩
    have s1 : Same H (L2.upd H p1 (.lst [.int 0])) := Same.new n1
    obtain ⟨evs, po, mo, tw, tr, dx, o, us, pa, e1, e2, hpol⟩ := (st.same s1).policy (k := k) (by rw [gs.poln]; exact h0)
    have gp := LwM.pol_at gs h0
    obtain ⟨l, Ml, ⟨dp, hp⟩, _⟩ := id hpol
    refine ⟨_, rfl, a, _, dx, _, _, rfl, o, T.cl_Study, T.no_Study_policies, st_policies .., _, rfl, po, _, _, _, rfl, rfl, SqL.of e1, at_of (j := k) rfl e2, pa, dp, _, rfl, hp, pol_no l (by decide +kernel), _, rfl, _, rfl,
      pa, _, c, x, s.contexts, s.actions, rfl, hpol, gp, gs.a5, h1.1, h1.2, fun q H2 s2 r2 => ?_⟩
    obtain ⟨dq, hq⟩ := id r2
    refine ⟨q, dq, _, rfl, hq, rat_no _ (by decide +kernel) (by decide +kernel), ?_⟩
    have s12 := s1.trans s2
    refine cat_pair (K := K) (E := E0) (s2 _ _ upd_same) r2 fun p H3 n3 s3 hp3 => ?_
    exact dn.good _ _ _ (by omega) (LwM.prop_ok h01) p H3 M (s12.free n3) hp3 (st.same (s12.trans s3)) (Moved.of (s12.trans s3))
theorem ok_checked_terms (T : Txt K mg A) : FnOk P w K mg base (L2.CX P w) 9 A.f_checked_terms A.d_checked_terms ["study", "policy", "kind", "limit", "least"] (sp_checked_terms K A) := by
  refine T.fn_checked_terms.okX sc_checked_terms (fun vs H Q E h => ?_) (fun cdv Ar outer s H vs Q E hr h => ?_)
  · obtain ⟨a, s, M, k, kd, l, n, rfl, _⟩ := h
    rfl
  · obtain ⟨a, s, M, k, kd, l, n, rfl, st, gs, b1, b2, b3, kk⟩ := h
    refine ⟨_, (pss_cons (ps_expr (pe_call (ok_check_policy T) (hr.mono (by decide)) rfl T.g_check_policy T.fn_check_policy.kp (bi_check_policy T) .nil (passes_call (takes_of rfl rfl rfl rfl) (fun _ _ _ _ h => h)) (pa_cons (pv 1) pa_nil)))
        (pss_cons (ps_expr (pe_call (ok_check_estimator T) (hr.mono (by decide)) rfl T.g_check_estimator T.fn_check_estimator.kp (bi_check_estimator T) .nil (passes_call (takes_of rfl rfl rfl rfl) (fun _ _ _ _ h => h)) (pa_cons (pv 2) (pa_cons (pv 3) pa_nil))))
        (pss_cons (ps_expr (pe_call (ok_check_events T) (hr.mono (by decide)) rfl T.g_check_events T.fn_check_events.kp (bi_check_events T) .nil (passes_call (takes_of rfl rfl rfl rfl) (fun _ _ _ _ h => h)) (pa_cons (pe_fld (pv 0) rfl) (pa_cons (pv 4) pa_nil))))
        (pss_one (ps_ret (pe_call (ok_terms_of T) (hr.mono (by decide)) rfl T.g_terms_of T.fn_terms_of.kp (bi_terms_of T) .nil pass0 (pa_cons (pv 0) (pa_cons (pe_ix ix_list (pe_fld (pv 0) rfl) (pv 1) (fun _ _ => rfl)) (pa_cons (pv 2) (pa_cons (pv 3) (pa_cons (pe_fld (pv 0) rfl) pa_nil))))))))))), ?_⟩
    refine ⟨_, rfl, k, rfl, fun h0 => ?_, fun h0 => b1 h0⟩
    refine ⟨_, rfl, _, rfl, kd, l, rfl, fun h1 => ?_, fun h1 => b2 h0 h1⟩
    obtain ⟨ev, po, mo, tw, tr, dx, o, hev, _⟩ := st.get
    obtain ⟨as, e1, e2, _⟩ := hev.ex
    refine ⟨_, rfl, a, _, dx, _, _, rfl, o, T.cl_Study, T.no_Study_events, st_events .., _, rfl, ev, _, n, rfl, e1, fun h2 => ?_, fun h2 => b3 h0 h1 (by rw [List.length_map, e2] at h2; exact h2)⟩
    rw [List.length_map, e2] at h2
    obtain ⟨evs, po, mo, tw, tr, dx, o, us, pa, e1, e2, hpol⟩ := st.policy (k := k) (by rw [gs.poln]; exact h0)
    obtain ⟨ev3, po3, mo3, tw3, tr3, dx3, o3, hev3, _⟩ := st.get
    refine ⟨_, rfl, _, rfl, a, _, dx, _, _, rfl, o, T.cl_Study, T.no_Study_policies, st_policies .., _, rfl, po, _, _, _, rfl, rfl, SqL.of e1, at_of (j := k) rfl e2, _, rfl, _, rfl, _, rfl, a, _, dx3, _, _, rfl, o3, T.cl_Study, T.no_Study_events, st_events ..,
      a, pa, ev3, s, _, kd, l, s.events, rfl, ctx_of st gs h0 hpol, hev3, gs.ev, Nat.le_trans gs.evn (by decide), h1.1, h1.2.1, h1.2.2, fun D H1 s1 r1 => ?_⟩
    exact kk h0 h1 h2 D H1 s1 r1
theorem ok_estimate (T : Txt K mg A) : FnOk P w K mg base (L2.CX P w) 10 A.f_estimate A.d_estimate ["study", "policy", "kind", "limit"] (sp_estimate K A) := by
  refine T.fn_estimate.okX sc_estimate (fun vs H Q E h => ?_) (fun cdv Ar outer s H vs Q E hr h => ?_)
  · obtain ⟨a, s, M, k, kd, l, rfl, _⟩ := h
    rfl
  · obtain ⟨a, s, M, k, kd, l, rfl, st, gs, dn⟩ := h
    refine ⟨_, (pss_one (ps_ret (pe_op op_cat (pe_lst (pa_cons pe_int pa_nil)) (pe_meth0 (pe_call (ok_mean T) (hr.mono (by decide)) rfl T.g_mean T.fn_mean.kp (bi_mean T) .nil pass0 (pa_cons (pe_call (ok_checked_terms T) (hr.mono (by decide)) rfl T.g_checked_terms T.fn_checked_terms.kp (bi_checked_terms T) .nil (passes_call (takes_of rfl rfl rfl rfl) (fun _ _ _ _ h => h)) (pa_cons (pv 0) (pa_cons (pv 1) (pa_cons (pv 2) (pa_cons (pv 3) (pa_cons pe_int pa_nil)))))) pa_nil)) T.cl_Ratio T.me_Ratio_pair (ok_Ratio_pair T) (hr.mono (by decide)) (bi_Ratio_pair T) .nil pass0)))), ?_⟩
    refine ⟨(by show 1 ≤ sizeLine; decide), fun p1 n1 => ?_⟩
    have s1 : Same H (L2.upd H p1 (.lst [.int 0])) := Same.new n1
    refine ⟨_, rfl, _, rfl, _, rfl, _, rfl, a, s, M, k, kd, l, 1, rfl, st.same s1, gs, fun h0 => (dn.bad _ (by decide) (LwM.est_2 h0)).same s1, fun h0 h1 => (dn.bad _ (by decide) (LwM.est_22 h0 h1)).same s1,
      fun h0 h1 h2 => (dn.bad _ (by decide) (LwM.est_33 h0 h1 h2)).same s1, fun h0 h1 h2 D H2 s2 r2 => ?_⟩
    have gp := LwM.pol_at gs h0
    have vf : VarFit (Kp432.terms s (Kp432.policyAt s k) (est kd l)) := fit_terms gs gp h1.2.2
    have ln : (Kp432.terms s (Kp432.policyAt s k) (est kd l)).length = s.events.length := by unfold Kp432.terms; rw [List.length_map]
    refine ⟨D, _, rfl, r2, vf.fit, by have := gs.evn; omega, fun q H3 s3 r3 => ?_⟩
    obtain ⟨dq, hq⟩ := id r3
    refine ⟨q, dq, _, rfl, hq, rat_no _ (by decide +kernel) (by decide +kernel), ?_⟩
    have s13 := (s1.trans s2).trans s3
    refine cat_pair (K := K) (E := E0) (s3 _ _ (s2 _ _ upd_same)) r3 fun p H4 n4 s4 hp4 => ?_
    exact dn.good _ _ _ (by omega) (LwM.est_ok h0 h1 h2) p H4 M (s13.free n4) hp4 (st.same (s13.trans s4)) (Moved.of (s13.trans s4))
theorem ok_variance (T : Txt K mg A) : FnOk P w K mg base (L2.CX P w) 10 A.f_variance A.d_variance ["study", "policy", "kind", "limit"] (sp_variance K A) := by
  refine T.fn_variance.okX sc_variance (fun vs H Q E h => ?_) (fun cdv Ar outer s H vs Q E hr h => ?_)
  · obtain ⟨a, s, M, k, kd, l, rfl, _⟩ := h
    rfl
  · obtain ⟨a, s, M, k, kd, l, rfl, st, gs, dn⟩ := h
    refine ⟨_, (pss_one (ps_ret (pe_op op_cat (pe_lst (pa_cons pe_int pa_nil)) (pe_meth0 (pe_call (ok_variance_of_mean T) (hr.mono (by decide)) rfl T.g_variance_of_mean T.fn_variance_of_mean.kp (bi_variance_of_mean T) .nil pass0 (pa_cons (pe_call (ok_checked_terms T) (hr.mono (by decide)) rfl T.g_checked_terms T.fn_checked_terms.kp (bi_checked_terms T) .nil (passes_call (takes_of rfl rfl rfl rfl) (fun _ _ _ _ h => h)) (pa_cons (pv 0) (pa_cons (pv 1) (pa_cons (pv 2) (pa_cons (pv 3) (pa_cons pe_int pa_nil)))))) pa_nil)) T.cl_Ratio T.me_Ratio_pair (ok_Ratio_pair T) (hr.mono (by decide)) (bi_Ratio_pair T) .nil pass0)))), ?_⟩
    refine ⟨(by show 1 ≤ sizeLine; decide), fun p1 n1 => ?_⟩
    have s1 : Same H (L2.upd H p1 (.lst [.int 0])) := Same.new n1
    refine ⟨_, rfl, _, rfl, _, rfl, _, rfl, a, s, M, k, kd, l, 2, rfl, st.same s1, gs, fun h0 => (dn.bad _ (by decide) (LwM.var_2 h0)).same s1, fun h0 h1 => (dn.bad _ (by decide) (LwM.var_22 h0 h1)).same s1,
      fun h0 h1 h2 => (dn.bad _ (by decide) (LwM.var_33 h0 h1 h2)).same s1, fun h0 h1 h2 D H2 s2 r2 => ?_⟩
    have gp := LwM.pol_at gs h0
    have vf : VarFit (Kp432.terms s (Kp432.policyAt s k) (est kd l)) := fit_terms gs gp h1.2.2
    have ln : (Kp432.terms s (Kp432.policyAt s k) (est kd l)).length = s.events.length := by unfold Kp432.terms; rw [List.length_map]
    refine ⟨D, _, rfl, r2, vf, by omega, fun q H3 s3 r3 => ?_⟩
    obtain ⟨dq, hq⟩ := id r3
    refine ⟨q, dq, _, rfl, hq, rat_no _ (by decide +kernel) (by decide +kernel), ?_⟩
    have s13 := (s1.trans s2).trans s3
    refine cat_pair (K := K) (E := E0) (s3 _ _ (s2 _ _ upd_same)) r3 fun p H4 n4 s4 hp4 => ?_
    exact dn.good _ _ _ (by omega) (LwM.var_ok h0 h1 h2) p H4 M (s13.free n4) hp4 (st.same (s13.trans s4)) (Moved.of (s13.trans s4))
theorem ok_normalized (T : Txt K mg A) : FnOk P w K mg base (L2.CX P w) 7 A.f_normalized A.d_normalized ["study", "policy"] (sp_normalized K A) := by
  refine T.fn_normalized.okX sc_normalized (fun vs H Q E h => ?_) (fun cdv Ar outer s H vs Q E hr h => ?_)
  · obtain ⟨a, s, M, k, rfl, _⟩ := h
    rfl
  · obtain ⟨a, s, M, k, rfl, st, gs, dn⟩ := h
    refine ⟨_, (pss_cons (ps_expr (pe_call (ok_check_policy T) (hr.mono (by decide)) rfl T.g_check_policy T.fn_check_policy.kp (bi_check_policy T) .nil (passes_call (takes_of rfl rfl rfl rfl) (fun _ _ _ _ h => h)) (pa_cons (pv 1) pa_nil)))
        (pss_cons (ps_set (i := 2) sc_normalized.nd rfl (Or.inl rfl) (pe_call (ok_importances T) (hr.mono (by decide)) rfl T.g_importances T.fn_importances.kp (bi_importances T) .nil pass0 (pa_cons (pv 0) (pa_cons (pe_ix ix_list (pe_fld (pv 0) rfl) (pv 1) (fun _ _ => rfl)) pa_nil))))
        (pss_cons (ps_set (i := 3) sc_normalized.nd rfl (Or.inl rfl) (pe_call (ok_total T) (hr.mono (by decide)) rfl T.g_total T.fn_total.kp (bi_total T) .nil pass0 (pa_cons (pv 2) pa_nil)))
        (pss_cons (ps_expr (pe_call (ok_check_positive T) (hr.mono (by decide)) rfl T.g_check_positive T.fn_check_positive.kp (bi_check_positive T) .nil (passes_call (takes_of rfl rfl rfl rfl) (fun _ _ _ _ h => h)) (pa_cons (pv 3) pa_nil)))
        (pss_cons (ps_setLc (i := 4) (own := [("factor", 5), ("event", 6)]) (g := gTup K 2 (gCons (gName 5) (gCons (gName 6) gNil))) (tt := tYes) (te := (tMeth A.c_Ratio "times" (sp_Ratio_times K A) [] E0 (tVar 5) (tCons (tCall (sp_whole K A) [] E0 (tCons (tFld K (tVar 6) "reward") tNil)) tNil))) (by rfl) sc_normalized.nd rfl rfl (sw_true rfl rfl rfl (by decide +kernel)) (pi_zip (by rfl) T.n_zip (pa_cons (pv 2) (pa_cons (pe_fld (pv 0) rfl) pa_nil))) (blkOk_by (own := [("factor", 5), ("event", 6)]) (N := ["study", "policy", "factors", "divisor", "weighted", "factor", "event"]) (sc := defScope s_normalized) (by decide +kernel)) (fun _ _ _ _ _ => pg_tup rfl (pgs_cons (pg_name (i := 5) sc_normalized.nd rfl (Or.inl rfl)) (pgs_cons (pg_name (i := 6) sc_normalized.nd rfl (Or.inl rfl)) pgs_nil))) (fun _ _ _ _ _ => pts_nil) (fun _ _ _ _ _ => (pe_meth (pv 5) T.cl_Ratio T.me_Ratio_times (ok_Ratio_times T) (hr.mono (by decide)) (bi_Ratio_times T) .nil pass0 (pa_cons (pe_call (ok_whole T) (hr.mono (by decide)) rfl T.g_whole T.fn_whole.kp (bi_whole T) .nil pass0 (pa_cons (pe_fld (pv 6) rfl) pa_nil)) pa_nil))))
        (pss_one (ps_ret (pe_op op_cat (pe_lst (pa_cons pe_int pa_nil)) (pe_meth0 (pe_meth (pe_call (ok_total T) (hr.mono (by decide)) rfl T.g_total T.fn_total.kp (bi_total T) .nil pass0 (pa_cons (pv 4) pa_nil)) T.cl_Ratio T.me_Ratio_over (ok_Ratio_over T) (hr.mono (by decide)) (bi_Ratio_over T) .nil pass0 (pa_cons (pv 3) pa_nil)) T.cl_Ratio T.me_Ratio_pair (ok_Ratio_pair T) (hr.mono (by decide)) (bi_Ratio_pair T) .nil pass0))))))))), ?_⟩
    refine ⟨_, rfl, k, rfl, fun h0 => ?_, fun h0 => dn.bad _ (by decide) (LwM.norm_2 h0)⟩
    have gp := LwM.pol_at gs h0
    obtain ⟨evs, po, mo, tw, tr, dx, o, us, pa, e1, e2, hpol⟩ := st.policy (k := k) (by rw [gs.poln]; exact h0)
    refine ⟨_, rfl, _, rfl, a, _, dx, _, _, rfl, o, T.cl_Study, T.no_Study_policies, st_policies .., _, rfl, po, _, _, _, rfl, rfl, SqL.of e1, at_of (j := k) rfl e2, a, pa, s, _, rfl, ctx_of st gs h0 hpol, fun D1 H1 s1 r1 => ?_⟩
    have fw := fit_weights gs gp
    refine ⟨_, rfl, D1, _, rfl, r1, fw, fun dv H2 s2 r2 => ?_⟩
    have s12 := s1.trans s2
    refine ⟨_, rfl, dv, _, rfl, r2, fun h1 => ?_, fun h1 => (dn.bad _ (by decide) (LwM.norm_33 h0 (Classical.not_not.mp h1))).same s12⟩
    refine to_nx (to_seq (to_asg ?_))
    obtain ⟨ev2, po2, mo2, tw2, tr2, dx2, o2, hev, _⟩ := (st.same s12).get
    obtain ⟨as, a1, a2, a3⟩ := hev.ex
    obtain ⟨fs, f1, f2, f3⟩ := (r1.same s2).ex
    rw [List.length_map] at f2
    refine comp_of (walk_zip (K := K) (a := D1) (b := ev2) (xs := fs.map V.ref) (ys := as.map V.ref) (n := s.events.length) (by rw [List.length_map, List.length_map, f2, a2, Nat.min_self])) (stays_rat (A := A)) (Kp432.terms s (Kp432.policyAt s k) ⟨1, Kp432.ofNat 0⟩)
      (by unfold Kp432.terms; rw [List.length_map]) (Nat.le_trans gs.evn (by decide)) (fun H3 s3 => ⟨SqL.of (s3 _ _ f1), SqL.of (s3 _ _ a1)⟩)
      (fun Z hZ => ⟨_, rfl, _, rfl, a, _, dx2, _, _, rfl, o2, T.cl_Study, T.no_Study_events, st_events .., D1, ev2, _, _, rfl, SqL.of f1, SqL.of a1, hZ⟩) ?_ ?_
    · rintro i y x H3 H4 D hy s3 ⟨acc, hD⟩ ⟨t, u, z, rfl, nT, rfl, eu, ez⟩ Z hZ
      obtain ⟨qf, hqf, rfl⟩ := ref_at eu
      obtain ⟨qe, hqe, rfl⟩ := ref_at ez
      have hi : i < s.events.length := by
        have := (List.getElem?_eq_some_iff.mp hqe).1
        omega
      have he : s.events[i]? = some (s.events[i]'hi) := List.getElem?_eq_getElem hi
      have hyy : y = Kp432.mul (Kp432.weight (Kp432.policyAt s k) (s.events[i]'hi)) (Kp432.ofNat (s.events[i]'hi).reward) := by
        unfold Kp432.terms at hy
        rw [List.getElem?_map, he] at hy
        exact (Option.some.inj hy).symm
      subst hyy
      have nTs : Same H3 (L2.upd H3 t (.tup [.ref qf, .ref qe])) := Same.new nT
      have rf := (f3 i qf _ hqf (by rw [List.getElem?_map, he]; rfl)).same (s3.trans nTs)
      obtain ⟨dqe, pr, hee, _⟩ := (a3 i qe _ hqe he).same (s3.trans nTs)
      obtain ⟨dqf, hqf'⟩ := id rf
      have ge := gs.ev _ (List.mem_of_getElem? he)
      refine ⟨t, _, rfl, SqT.of upd_same, rfl, _, _, rfl, _, _, rfl, rfl, rfl, ?_⟩
      refine ⟨_, rfl, qf, dqf, _, rfl, hqf', rat_no _ (by decide +kernel) (by decide +kernel), _, rfl, qe, _, dqe, _, _, rfl, hee, T.cl_Event, T.no_Event_reward, ev_reward _ pr, _, rfl, fun n H5 s5 r5 => ?_⟩
      exact ⟨qf, n, _, _, rfl, rf.same s5, r5, sz_weight gs gp ge, Sz.nat (Nat.lt_of_le_of_lt ge.rew (by decide)), fun v H6 s6 r6 => hZ _ _ ((nTs.trans s5).trans s6) ⟨v, rfl, r6⟩ (rat_ne r6 (((nTs.trans s5).trans s6) _ _ hD))⟩
    · intro D H3 nD s3 hD
      refine ⟨(by show 1 ≤ sizeLine; decide), fun p1 n1 => ?_⟩
      have s4 : Same H3 (L2.upd H3 p1 (.lst [.int 0])) := Same.new n1
      have s14 := (s12.trans s3).trans s4
      have fo := fit_ones (s := s) (p := Kp432.policyAt s k) gs gp
      refine ⟨_, rfl, D, _, rfl, RatsAt.same hD.refs s4, fo, fun t H5 s5 r5 => ?_⟩
      obtain ⟨dt, ht⟩ := id r5
      refine ⟨t, dt, _, rfl, ht, rat_no _ (by decide +kernel) (by decide +kernel), _, rfl, t, dv, _, _, rfl, r5, r2.same ((s3.trans s4).trans s5), fo.total, fw.total, ?_, num_sumW gs gp, fun q H6 s6 r6 => ?_⟩
      · have := LwM.nn_weights (s := s) (p := Kp432.policyAt s k)
        have h1' : ¬ (Kp432.total (s.events.map (Kp432.weight (Kp432.policyAt s k)))).num = 0 := h1
        have e : (Kp432.sumOfWeights s (Kp432.policyAt s k)).num = (Kp432.total (s.events.map (Kp432.weight (Kp432.policyAt s k)))).num := rfl
        omega
      · obtain ⟨dq, hq⟩ := id r6
        refine ⟨q, dq, _, rfl, hq, rat_no _ (by decide +kernel) (by decide +kernel), ?_⟩
        have s16 := (s14.trans s5).trans s6
        refine cat_pair (K := K) (E := E0) (s6 _ _ (s5 _ _ upd_same)) r6 fun p H7 n7 s7 hp7 => ?_
        exact dn.good _ _ _ (by omega) (LwM.norm_ok h0 h1) p H7 M (s16.free n7) hp7 (st.same (s16.trans s7)) (Moved.of (s16.trans s7))
theorem ok_replay (T : Txt K mg A) : FnOk P w K mg base (L2.CX P w) 6 A.f_replay A.d_replay ["study", "policy"] (sp_replay K A) := by
  refine T.fn_replay.okX sc_replay (fun vs H Q E h => ?_) (fun cdv Ar outer s H vs Q E hr h => ?_)
  · obtain ⟨a, s, M, k, rfl, _⟩ := h
    rfl
  · obtain ⟨a, s, M, k, rfl, st, gs, dn⟩ := h
    refine ⟨_, (pss_cons (ps_expr (pe_call (ok_check_policy T) (hr.mono (by decide)) rfl T.g_check_policy T.fn_check_policy.kp (bi_check_policy T) .nil (passes_call (takes_of rfl rfl rfl rfl) (fun _ _ _ _ h => h)) (pa_cons (pv 1) pa_nil)))
        (pss_cons (ps_set (i := 2) sc_replay.nd rfl (Or.inr rfl) (pe_ix ix_list (pe_fld (pv 0) rfl) (pv 1) (fun _ _ => rfl)))
        (pss_cons (ps_setLc (i := 3) (own := [("event", 4)]) (g := gName 4) (tt := (tTest (tOp rEq (tFld K (tVar 4) "action") (tMeth A.c_Policy "preferred" (sp_Policy_preferred K A) [] E0 (tVar 2) (tCons (tFld K (tVar 4) "context") tNil))))) (te := (tVar 4)) (by rfl) sc_replay.nd rfl rfl (sw_true rfl rfl rfl (by decide +kernel)) (pi_list (pe_fld (pv 0) rfl)) (blkOk_by (own := [("event", 4)]) (N := ["study", "policy", "chosen", "agreeing", "event"]) (sc := defScope s_replay) (by decide +kernel)) (fun _ _ _ _ _ => pg_name (i := 4) sc_replay.nd rfl (Or.inl rfl)) (fun _ _ _ _ _ => (pts_one (pt_cmpR op_eq (pe_fld (pv 4) rfl) (pe_meth (pv 2) T.cl_Policy T.me_Policy_preferred (ok_Policy_preferred T) (hr.mono (by decide)) (bi_Policy_preferred T) .nil pass0 (pa_cons (pe_fld (pv 4) rfl) pa_nil)) (nomark _)))) (fun _ _ _ _ _ => (pv 4)))
        (pss_cons (ps_expr (pe_call (ok_check_events T) (hr.mono (by decide)) rfl T.g_check_events T.fn_check_events.kp (bi_check_events T) .nil (passes_call (takes_of rfl rfl rfl rfl) (fun _ _ _ _ h => h)) (pa_cons (pv 3) (pa_cons pe_int pa_nil))))
        (pss_one (ps_ret (pe_op op_cat (pe_lst (pa_cons (pe_callB call_len_seq (by rfl) T.n_len PySem.boot_len (pa_cons (pv 3) pa_nil)) pa_nil)) (pe_meth0 (pe_call (ok_mean_reward T) (hr.mono (by decide)) rfl T.g_mean_reward T.fn_mean_reward.kp (bi_mean_reward T) .nil pass0 (pa_cons (pv 3) pa_nil)) T.cl_Ratio T.me_Ratio_pair (ok_Ratio_pair T) (hr.mono (by decide)) (bi_Ratio_pair T) .nil pass0)))))))), ?_⟩
    refine ⟨_, rfl, k, rfl, fun h0 => ?_, fun h0 => dn.bad _ (by decide) (LwM.rep_2 h0)⟩
    have gp := LwM.pol_at gs h0
    obtain ⟨evs, po, mo, tw, tr, dx, o, us, pa, e1, e2, hpol⟩ := st.policy (k := k) (by rw [gs.poln]; exact h0)
    refine ⟨_, rfl, a, _, dx, _, _, rfl, o, T.cl_Study, T.no_Study_policies, st_policies .., _, rfl, po, _, _, _, rfl, rfl, SqL.of e1, at_of (j := k) rfl e2, ?_⟩
    refine to_name (to_nx (to_seq (to_asg ?_)))
    obtain ⟨ev2, po2, mo2, tw2, tr2, dx2, o2, hev, _⟩ := st.get
    obtain ⟨as, a1, a2, a3⟩ := hev.ex
    refine comp_filter (R := fun H' b e => EvAt A H b e) (fun e : Evt => e.action == Kp432.preferred (Kp432.policyAt s k) e.context) (by show 4 < 5; decide) a1 a2 (Nat.le_trans gs.evn (by decide)) (fun Z hZ => ⟨_, rfl, a, _, dx2, _, _, rfl, o2, T.cl_Study, T.no_Study_events, st_events .., hZ⟩) a3 ?_ ?_
    · intro b e H1 ⟨de, pr, he, _⟩ hx s1 Z hZ
      have ge := gs.ev e hx
      obtain ⟨l, Ml, ⟨dp, hp⟩, _⟩ := hpol.same s1
      refine ⟨_, rfl, b, _, de, _, _, rfl, s1 _ _ he, T.cl_Event, T.no_Event_action, ev_action e pr, _, rfl, pa, dp, _, rfl, hp, pol_no l (by decide +kernel), _, rfl, b, _, de, _, _, rfl, s1 _ _ he, T.cl_Event, T.no_Event_context, ev_context e pr,
        pa, _, e.context, s.contexts, s.actions, rfl, hpol.same s1, gp, gs.a1, ge.ctx, rfl, _, rfl, ?_⟩
      rw [nat_beq]
      exact hZ
    · intro D H1 nD s1 ⟨bs, b1, b2, b3, b4⟩
      have b2' : bs.length = (Kp432.replay s (Kp432.policyAt s k)).length := b2
      have lr : LstAt (EvAt A) H1 D (Kp432.replay s (Kp432.policyAt s k)) := ⟨bs, b1, b2, fun i b x hb hx => (b4 i b x hb hx).same s1⟩
      refine ⟨_, rfl, D, _, 1, rfl, b1, fun h1 => ?_, fun h1 => (dn.bad _ (by decide) (LwM.rep_33 h0 (List.eq_nil_of_length_eq_zero (by rw [List.length_map] at h1; omega)))).same s1⟩
      rw [List.length_map, b2'] at h1
      refine ⟨_, rfl, D, _, rfl, .inl (SqL.of b1), (by show 1 ≤ sizeLine; decide), fun p1 n1 => ?_⟩
      have s2 := Same.new (H := H1) (o := .lst [.int ((bs.map V.ref).length : Nat)]) n1
      have s12 := s1.trans s2
      have le : (Kp432.replay s (Kp432.policyAt s k)).length ≤ 1000 := Nat.le_trans (List.length_filter_le _ _) (Nat.le_trans gs.evn (by decide))
      refine ⟨_, rfl, D, _, rfl, lr.same s2 (fun _ _ e => e.same s2), by omega, le, fun q H3 s3 r3 => ?_⟩
      obtain ⟨dq, hq⟩ := id r3
      refine ⟨q, dq, _, rfl, hq, rat_no _ (by decide +kernel) (by decide +kernel), ?_⟩
      have s13 := s12.trans s3
      refine cat_pair (K := K) (E := E0) (s3 _ _ upd_same) r3 fun p H4 n4 s4 hp4 => ?_
      rw [List.length_map, b2'] at hp4
      exact dn.good _ _ _ (by omega) (LwM.rep_ok h0 h1) p H4 M (s13.free n4) hp4 (st.same (s13.trans s4)) (Moved.of (s13.trans s4))
theorem ok_effective_size (T : Txt K mg A) : FnOk P w K mg base (L2.CX P w) 7 A.f_effective_size A.d_effective_size ["study", "policy"] (sp_effective_size K A) := by
  refine T.fn_effective_size.okX sc_effective_size (fun vs H Q E h => ?_) (fun cdv Ar outer s H vs Q E hr h => ?_)
  · obtain ⟨a, s, M, k, rfl, _⟩ := h
    rfl
  · obtain ⟨a, s, M, k, rfl, st, gs, dn⟩ := h
    refine ⟨_, (pss_cons (ps_expr (pe_call (ok_check_policy T) (hr.mono (by decide)) rfl T.g_check_policy T.fn_check_policy.kp (bi_check_policy T) .nil (passes_call (takes_of rfl rfl rfl rfl) (fun _ _ _ _ h => h)) (pa_cons (pv 1) pa_nil)))
        (pss_cons (ps_set (i := 2) sc_effective_size.nd rfl (Or.inl rfl) (pe_call (ok_importances T) (hr.mono (by decide)) rfl T.g_importances T.fn_importances.kp (bi_importances T) .nil pass0 (pa_cons (pv 0) (pa_cons (pe_ix ix_list (pe_fld (pv 0) rfl) (pv 1) (fun _ _ => rfl)) pa_nil))))
        (pss_cons (ps_set (i := 3) sc_effective_size.nd rfl (Or.inl rfl) (pe_call (ok_total T) (hr.mono (by decide)) rfl T.g_total T.fn_total.kp (bi_total T) .nil pass0 (pa_cons (pe_lc (own := [("factor", 4)]) (g := gName 4) (tt := tYes) (te := (tMeth A.c_Ratio "squared" (sp_Ratio_squared K A) [] E0 (tVar 4) tNil)) (by rfl) sc_effective_size.nd (pi_list (pv 2)) (blkOk_by (own := [("factor", 4)]) (N := ["study", "policy", "factors", "divisor", "factor"]) (sc := defScope s_effective_size) (by decide +kernel)) (fun _ _ _ _ _ => pg_name (i := 4) sc_effective_size.nd rfl (Or.inl rfl)) (fun _ _ _ _ _ => pts_nil) (fun _ _ _ _ _ => (pe_meth0 (pv 4) T.cl_Ratio T.me_Ratio_squared (ok_Ratio_squared T) (hr.mono (by decide)) (bi_Ratio_squared T) .nil pass0))) pa_nil)))
        (pss_cons (ps_expr (pe_call (ok_check_positive T) (hr.mono (by decide)) rfl T.g_check_positive T.fn_check_positive.kp (bi_check_positive T) .nil (passes_call (takes_of rfl rfl rfl rfl) (fun _ _ _ _ h => h)) (pa_cons (pv 3) pa_nil)))
        (pss_one (ps_ret (pe_op op_cat (pe_lst (pa_cons pe_int pa_nil)) (pe_meth0 (pe_meth (pe_meth0 (pe_call (ok_total T) (hr.mono (by decide)) rfl T.g_total T.fn_total.kp (bi_total T) .nil pass0 (pa_cons (pv 2) pa_nil)) T.cl_Ratio T.me_Ratio_squared (ok_Ratio_squared T) (hr.mono (by decide)) (bi_Ratio_squared T) .nil pass0) T.cl_Ratio T.me_Ratio_over (ok_Ratio_over T) (hr.mono (by decide)) (bi_Ratio_over T) .nil pass0 (pa_cons (pv 3) pa_nil)) T.cl_Ratio T.me_Ratio_pair (ok_Ratio_pair T) (hr.mono (by decide)) (bi_Ratio_pair T) .nil pass0)))))))), ?_⟩
    refine ⟨_, rfl, k, rfl, fun h0 => ?_, fun h0 => dn.bad _ (by decide) (LwM.eff_2 h0)⟩
    have gp := LwM.pol_at gs h0
    obtain ⟨evs, po, mo, tw, tr, dx, o, us, pa, e1, e2, hpol⟩ := st.policy (k := k) (by rw [gs.poln]; exact h0)
    refine ⟨_, rfl, _, rfl, a, _, dx, _, _, rfl, o, T.cl_Study, T.no_Study_policies, st_policies .., _, rfl, po, _, _, _, rfl, rfl, SqL.of e1, at_of (j := k) rfl e2, a, pa, s, _, rfl, ctx_of st gs h0 hpol, fun D1 H1 s1 r1 => ?_⟩
    have fw := fit_weights gs gp
    refine to_name (to_nx (to_seq (to_asg (to_call (to_cons ?_)))))
    refine comp_objs (R := RatAt A) (stays_rat (A := A)) Kp432.square r1 (fun s r => r.same s) (by rw [List.length_map]; exact Nat.le_trans gs.evn (by decide)) (fun Z hZ => ⟨_, rfl, hZ⟩) ?_ ?_
    · intro x b H2 D hx rb s2 ⟨acc, hD⟩ Z hZ
      obtain ⟨db, hb⟩ := id rb
      exact ⟨_, rfl, b, db, _, rfl, hb, rat_no _ (by decide +kernel) (by decide +kernel), b, x, rfl, rb, fw.all hx, fun v H3 s3 r3 => hZ _ _ s3 ⟨v, rfl, r3⟩ (rat_ne r3 (s3 _ _ hD))⟩
    · intro D H2 nD s2 hD
      have s12 := s1.trans s2
      have fq := fit_squares gs gp
      have rq : RatsAt A H2 D (s.events.map fun e => Kp432.square (Kp432.weight (Kp432.policyAt s k) e)) := by
        have := hD.refs
        rw [List.map_map] at this
        exact this
      refine ⟨D, _, rfl, rq, fq, fun dv H3 s3 r3 => ?_⟩
      have s13 := s12.trans s3
      refine ⟨_, rfl, dv, _, rfl, r3, fun h1 => ?_, fun h1 => (dn.bad _ (by decide) (LwM.eff_33 h0 (Classical.not_not.mp h1))).same s13⟩
      refine ⟨(by show 1 ≤ sizeLine; decide), fun p1 n1 => ?_⟩
      have s4 : Same H3 (L2.upd H3 p1 (.lst [.int 0])) := Same.new n1
      have s14 := s13.trans s4
      refine ⟨_, rfl, D1, _, rfl, r1.same ((s2.trans s3).trans s4), fw, fun t H5 s5 r5 => ?_⟩
      obtain ⟨dt, ht⟩ := id r5
      refine ⟨t, dt, _, rfl, ht, rat_no _ (by decide +kernel) (by decide +kernel), t, _, rfl, r5, fw.total, fun u H6 s6 r6 => ?_⟩
      obtain ⟨du, hu⟩ := id r6
      have d0 := LwM.bigD_pos gs gp (LwM.pros_pro gs)
      have d9 := LwM.bigD_lt gs gp (LwM.pros_pro gs) (LwM.pros_len gs)
      have su : Sz (Kp432.square (Kp432.total (s.events.map (Kp432.weight (Kp432.policyAt s k))))) :=
        Sz.of (LwM.bd_square (LwM.bd_sumW gs gp)) (Nat.mul_pos d0 d0) (Nat.lt_trans (sq_lt d9) (Nat.pow_lt_pow_right (by decide) (by decide))) (lt60 (by decide))
      refine ⟨u, du, _, rfl, hu, rat_no _ (by decide +kernel) (by decide +kernel), _, rfl, u, dv, _, _, rfl, r6, r3.same ((s4.trans s5).trans s6), su, fq.total, ?_, num_sumSq gs gp, fun q H7 s7 r7 => ?_⟩
      · have := LwM.nn_sumSq (s := s) (p := Kp432.policyAt s k)
        have h1' : ¬ (Kp432.total (s.events.map fun e => Kp432.square (Kp432.weight (Kp432.policyAt s k) e))).num = 0 := h1
        have e : (LwM.sumSq s (Kp432.policyAt s k)).num = (Kp432.total (s.events.map fun e => Kp432.square (Kp432.weight (Kp432.policyAt s k) e))).num := rfl
        omega
      · obtain ⟨dq, hq⟩ := id r7
        refine ⟨q, dq, _, rfl, hq, rat_no _ (by decide +kernel) (by decide +kernel), ?_⟩
        have s17 := ((s14.trans s5).trans s6).trans s7
        refine cat_pair (K := K) (E := E0) (s7 _ _ (s6 _ _ (s5 _ _ upd_same))) r7 fun p H8 n8 s8 hp8 => ?_
        exact dn.good _ _ _ (by omega) (LwM.eff_ok h0 h1) p H8 M (s17.free n8) hp8 (st.same (s17.trans s8)) (Moved.of (s17.trans s8))
end
end Lw
end
/-! LwAsk2 -/
section
set_option Elab.async false
set_option linter.all false
set_option maxRecDepth 100000
set_option maxHeartbeats 4000000
/-! more calls that ask -/
namespace Lw
open PySem PySem.Spec PyProof.Rows L2
open Kp432 (Fraction Study Policy)
/-- a list of numbers, and a fraction's pair behind it -/
theorem cat_pairL {K : PySem.W.Frag} {A : Ad} {H2 : Hp} {Q : VK} {E : XK} {p1 r : Addr} {zs : List Int} {x : Fraction} (hp1 : H2 p1 = some (.lst (zs.map V.int))) (hr : RatAt A H2 r x) (hz : zs.length ≤ 1000)
    (k : ∀ p H3, H2 p = none → Same H2 H3 → H3 p = some (.lst ((zs ++ [x.num, (x.den : Int)]).map V.int)) → Q (.ref p) H3) : sp_Ratio_pair K A [.ref r] H2 (fun y H3 => rCat (.ref p1) y H3 Q) E := by
  refine ⟨r, x, rfl, hr, fun p2 n2 => ?_⟩
  have s1 : Same H2 (L2.upd H2 p2 (.lst [.int x.num, .int (x.den : Int)])) := Same.new n2
  refine ⟨p1, p2, _, _, rfl, rfl, s1 _ _ hp1, upd_same, ?_, fun p3 n3 => ?_⟩
  · rw [List.length_map, sizeLine_eq]
    show zs.length + 2 ≤ _
    omega
  · refine k p3 _ (s1.free n3) (s1.trans (Same.new n3)) ?_
    rw [upd_same, List.map_append]
    rfl
theorem room2 {zs : List Int} {x y : V} (h : zs.length ≤ 1000) : (zs.map V.int).length + [x, y].length ≤ sizeLine := by
  rw [List.length_map, sizeLine_eq]
  show zs.length + 2 ≤ _
  omega
def sp_interval (K : PySem.W.Frag) (A : Ad) : Sp := fun vs H Q E => ∃ (a : Addr) (s : Study) (M : List Addr) (k kd l f : Nat), vs = [.ref a, nat k, nat kd, nat l, nat f] ∧ StAt A H a s M ∧ LwM.Good s ∧ DoneOp A H Q E a s M (.interval k kd l f)
def sp_compare (K : PySem.W.Frag) (A : Ad) : Sp := fun vs H Q E => ∃ (a : Addr) (s : Study) (M : List Addr) (k g kd l : Nat), vs = [.ref a, nat k, nat g, nat kd, nat l] ∧ StAt A H a s M ∧ LwM.Good s ∧ DoneOp A H Q E a s M (.compare k g kd l)
def sp_greatest_weight (K : PySem.W.Frag) (A : Ad) : Sp := fun vs H Q E => ∃ (a : Addr) (s : Study) (M : List Addr) (k : Nat), vs = [.ref a, nat k] ∧ StAt A H a s M ∧ LwM.Good s ∧ DoneOp A H Q E a s M (.greatestWeight k)
def sp_model_info (K : PySem.W.Frag) (A : Ad) : Sp := fun vs H Q E => ∃ (a : Addr) (s : Study) (M : List Addr) (c : Nat), vs = [.ref a, nat c] ∧ StAt A H a s M ∧ LwM.Good s ∧ DoneOp A H Q E a s M (.modelInfo c)
def sp_status (K : PySem.W.Frag) (A : Ad) : Sp := fun vs H Q E => ∃ (a : Addr) (s : Study) (M : List Addr), vs = [.ref a] ∧ StAt A H a s M ∧ LwM.Good s ∧ DoneOp A H Q E a s M .status
section
variable {s : Study} {p p2 : Policy} {kd l : Nat}
theorem VarFit.var {xs : List Fraction} (h : VarFit xs) (h2 : 2 ≤ xs.length) : Sz (Kp432.varianceOfMean xs) := by
  have all := h.fit
  rw [← LwM.pvar_eq h2 fun x hx => (all.all hx).pos]
  obtain ⟨D, M, b, n40, d0, d9, m9⟩ := h.ex
  have h0 : 0 < xs.length := by omega
  have n0 : 0 < (xs.length - 1) * xs.length := Nat.mul_pos (by omega) h0
  have bt := LwM.bd_total (n := 40) (LwM.bd_psq b h0 n40) (by unfold LwM.psq; rw [List.length_map]; exact n40)
  have bo := LwM.bd_over (N := (xs.length - 1) * xs.length) (L := 1) bt (y := Kp432.ofNat ((xs.length - 1) * xs.length)) (by rw [LwM.ofNat_num]; omega) (by rw [LwM.ofNat_num]; exact Nat.dvd_refl _) (Nat.le_refl 1)
  refine Sz.of bo (Nat.mul_pos (Nat.mul_pos (Nat.mul_pos d0 h0) (Nat.mul_pos d0 h0)) n0) ?_ ?_
  · have a := mean_D d9 n40
    have c := Nat.mul_lt_mul'' a a
    rw [← Nat.pow_add] at c
    have e : (xs.length - 1) * xs.length < 2 ^ 60 := Nat.lt_of_le_of_lt (Nat.mul_le_mul (show xs.length - 1 ≤ 40 by omega) n40) (by decide)
    have f := Nat.mul_lt_mul'' c e
    rw [← Nat.pow_add] at f
    exact Nat.lt_trans f (Nat.pow_lt_pow_right (by decide) (by decide))
  · have a := Nat.mul_le_mul_left 40 m9
    have c := Nat.add_le_add m9 a
    have d := Nat.mul_le_mul_left 40 (Nat.mul_le_mul c c)
    rw [Nat.mul_one]
    exact Nat.lt_of_le_of_lt d (Nat.lt_trans (m := 2 ^ 80) (by decide) (Nat.pow_lt_pow_right (by decide) (by decide)))
theorem two_D {D E : Nat} (h1 : D < 2 ^ 650) (h2 : E < 2 ^ 650) : D * E < 2 ^ 1400 := by
  have := Nat.mul_lt_mul'' h1 h2
  rw [← Nat.pow_add] at this
  exact Nat.lt_trans this (Nat.pow_lt_pow_right (by decide) (by decide))
theorem fit_diffs (gs : LwM.Good s) (g1 : LwM.GoodPol s.contexts s.actions p) (g2 : LwM.GoodPol s.contexts s.actions p2) (hl : l ≤ 100000) : VarFit (LwM.diffs s p p2 (est kd l)) := by
  refine ⟨LwM.bigD s p (LwM.pros s) * LwM.bigD s p2 (LwM.pros s), 1048576 + 1048576, fun x hx => ?_, ?_, Nat.mul_pos (LwM.bigD_pos gs g1 (LwM.pros_pro gs)) (LwM.bigD_pos gs g2 (LwM.pros_pro gs)), two_D (LwM.bigD_lt gs g1 (LwM.pros_pro gs) (LwM.pros_len gs)) (LwM.bigD_lt gs g2 (LwM.pros_pro gs) (LwM.pros_len gs)), by decide⟩
  · obtain ⟨e, he, rfl⟩ := List.mem_map.mp hx
    have t1 := LwM.bd_terms (kd := kd) gs g1 hl _ (List.mem_map.mpr ⟨e, he, rfl⟩)
    have t2 := LwM.bd_terms (kd := kd) gs g2 hl _ (List.mem_map.mpr ⟨e, he, rfl⟩)
    exact LwM.bd_sub (t1.mono (Nat.dvd_mul_right _ _) (Nat.le_refl _)) (t2.mono (Nat.dvd_mul_left _ _) (Nat.le_refl _))
  · unfold LwM.diffs
    rw [List.length_map]
    exact gs.evn
end
section
variable {P : Program} {w : World} {K : PySem.W.Frag} {mg : Str → Option Value} {base : Heap} {A : Ad}
theorem ok_interval (T : Txt K mg A) : FnOk P w K mg base (L2.CX P w) 10 A.f_interval A.d_interval ["study", "policy", "kind", "limit", "factor"] (sp_interval K A) := by
  refine T.fn_interval.okX sc_interval (fun vs H Q E h => ?_) (fun cdv Ar outer s H vs Q E hr h => ?_)
  · obtain ⟨a, s, M, k, kd, l, f, rfl, _⟩ := h
    rfl
  · obtain ⟨a, s, M, k, kd, l, f, rfl, st, gs, dn⟩ := h
    obtain ⟨t_MOST_FACTOR, k_MOST_FACTOR⟩ := T.k_MOST_FACTOR
    refine ⟨_, (pss_cons (ps_expr (pe_call (ok_check_range T) (hr.mono (by decide)) rfl T.g_check_range T.fn_check_range.kp (bi_check_range T) .nil (passes_call (takes_of rfl rfl rfl rfl) (fun _ _ _ _ h => h)) (pa_cons (pv 4) (pa_cons pe_int (pa_cons (pe_glob (v := .int 10000) rfl k_MOST_FACTOR ⟨_, rfl⟩) pa_nil)))))
        (pss_cons (ps_set (i := 5) sc_interval.nd rfl (Or.inl rfl) (pe_call (ok_checked_terms T) (hr.mono (by decide)) rfl T.g_checked_terms T.fn_checked_terms.kp (bi_checked_terms T) .nil (passes_call (takes_of rfl rfl rfl rfl) (fun _ _ _ _ h => h)) (pa_cons (pv 0) (pa_cons (pv 1) (pa_cons (pv 2) (pa_cons (pv 3) (pa_cons pe_int pa_nil)))))))
        (pss_cons (ps_set (i := 6) sc_interval.nd rfl (Or.inl rfl) (pe_meth (pe_call (ok_variance_of_mean T) (hr.mono (by decide)) rfl T.g_variance_of_mean T.fn_variance_of_mean.kp (bi_variance_of_mean T) .nil pass0 (pa_cons (pv 5) pa_nil)) T.cl_Ratio T.me_Ratio_times (ok_Ratio_times T) (hr.mono (by decide)) (bi_Ratio_times T) .nil pass0 (pa_cons (pe_call (ok_whole T) (hr.mono (by decide)) rfl T.g_whole T.fn_whole.kp (bi_whole T) .nil pass0 (pa_cons (pv 4) pa_nil)) pa_nil)))
        (pss_one (ps_ret (pe_op op_cat (pe_op op_cat (pe_lst (pa_cons pe_int pa_nil)) (pe_meth0 (pe_call (ok_mean T) (hr.mono (by decide)) rfl T.g_mean T.fn_mean.kp (bi_mean T) .nil pass0 (pa_cons (pv 5) pa_nil)) T.cl_Ratio T.me_Ratio_pair (ok_Ratio_pair T) (hr.mono (by decide)) (bi_Ratio_pair T) .nil pass0)) (pe_meth0 (pv 6) T.cl_Ratio T.me_Ratio_pair (ok_Ratio_pair T) (hr.mono (by decide)) (bi_Ratio_pair T) .nil pass0))))))), ?_⟩
    refine ⟨_, rfl, _, _, _, rfl, fun hf => ?_, fun hf => dn.bad _ (by decide) (LwM.int_f (by omega))⟩
    have hf' : 1 ≤ f ∧ f ≤ 10000 := by omega
    refine ⟨_, rfl, _, rfl, _, rfl, _, rfl, a, s, M, k, kd, l, 2, rfl, st, gs, fun h0 => dn.bad _ (by decide) (LwM.int_2 hf' h0), fun h0 h1 => dn.bad _ (by decide) (LwM.int_22 hf' h0 h1),
      fun h0 h1 h2 => dn.bad _ (by decide) (LwM.int_33 hf' h0 h1 h2), fun h0 h1 h2 D H1 s1 r1 => ?_⟩
    have gp := LwM.pol_at gs h0
    have vf : VarFit (Kp432.terms s (Kp432.policyAt s k) (est kd l)) := fit_terms gs gp h1.2.2
    have ln : (Kp432.terms s (Kp432.policyAt s k) (est kd l)).length = s.events.length := by unfold Kp432.terms; rw [List.length_map]
    have sv := vf.var (by omega)
    refine ⟨_, rfl, D, _, rfl, r1, vf, by omega, fun q H2 s2 r2 => ?_⟩
    obtain ⟨dq, hq⟩ := id r2
    refine ⟨q, dq, _, rfl, hq, rat_no _ (by decide +kernel) (by decide +kernel), _, rfl, f, rfl, fun b H3 s3 r3 => ?_⟩
    have fs : f < 2 ^ 60 := Nat.lt_of_le_of_lt hf'.2 (by decide)
    refine ⟨q, b, _, _, rfl, r2.same s3, r3, sv, Sz.nat fs, fun ra H4 s4 r4 => ?_⟩
    refine ⟨(by show 1 ≤ sizeLine; decide), fun p1 n1 => ?_⟩
    have s5 : Same H4 (L2.upd H4 p1 (.lst [.int 0])) := Same.new n1
    have s15 := (((s1.trans s2).trans s3).trans s4).trans s5
    refine ⟨_, rfl, D, _, rfl, RatsAt.same r1 (((s2.trans s3).trans s4).trans s5), vf.fit, by have := gs.evn; omega, fun m H6 s6 r6 => ?_⟩
    obtain ⟨dm, hm⟩ := id r6
    refine ⟨m, dm, _, rfl, hm, rat_no _ (by decide +kernel) (by decide +kernel), ?_⟩
    refine cat_pairL (K := K) (E := E0) (zs := [0]) (s6 _ _ upd_same) r6 (by decide) fun p7 H7 n7 s7 hp7 => ?_
    have r7 := r4.same ((s5.trans s6).trans s7)
    obtain ⟨dr, hr7⟩ := id r7
    refine ⟨_, rfl, ra, dr, _, rfl, hr7, rat_no _ (by decide +kernel) (by decide +kernel), ?_⟩
    refine cat_pairL (K := K) (E := E0) hp7 r7 (by show 3 ≤ 1000; decide) fun p8 H8 n8 s8 hp8 => ?_
    have s17 := (s15.trans s6).trans s7
    exact dn.good _ _ _ (by omega) (LwM.int_ok hf' h0 h1 h2) p8 H8 M (s17.free n8) hp8 (st.same (s17.trans s8)) (Moved.of (s17.trans s8))
theorem ok_compare (T : Txt K mg A) : FnOk P w K mg base (L2.CX P w) 10 A.f_compare A.d_compare ["study", "first", "second", "kind", "limit"] (sp_compare K A) := by
  refine T.fn_compare.okX sc_compare (fun vs H Q E h => ?_) (fun cdv Ar outer s H vs Q E hr h => ?_)
  · obtain ⟨a, s, M, k, g, kd, l, rfl, _⟩ := h
    rfl
  · obtain ⟨a, s, M, k, g, kd, l, rfl, st, gs, dn⟩ := h
    refine ⟨_, (pss_cons (ps_expr (pe_call (ok_check_policy T) (hr.mono (by decide)) rfl T.g_check_policy T.fn_check_policy.kp (bi_check_policy T) .nil (passes_call (takes_of rfl rfl rfl rfl) (fun _ _ _ _ h => h)) (pa_cons (pv 2) pa_nil)))
        (pss_cons (ps_set (i := 5) sc_compare.nd rfl (Or.inl rfl) (pe_call (ok_checked_terms T) (hr.mono (by decide)) rfl T.g_checked_terms T.fn_checked_terms.kp (bi_checked_terms T) .nil (passes_call (takes_of rfl rfl rfl rfl) (fun _ _ _ _ h => h)) (pa_cons (pv 0) (pa_cons (pv 1) (pa_cons (pv 3) (pa_cons (pv 4) (pa_cons pe_int pa_nil)))))))
        (pss_cons (ps_set (i := 6) sc_compare.nd rfl (Or.inl rfl) (pe_call (ok_terms_of T) (hr.mono (by decide)) rfl T.g_terms_of T.fn_terms_of.kp (bi_terms_of T) .nil pass0 (pa_cons (pv 0) (pa_cons (pe_ix ix_list (pe_fld (pv 0) rfl) (pv 2) (fun _ _ => rfl)) (pa_cons (pv 3) (pa_cons (pv 4) (pa_cons (pe_fld (pv 0) rfl) pa_nil)))))))
        (pss_cons (ps_setLc (i := 7) (own := [("term", 8), ("other", 9)]) (g := gTup K 2 (gCons (gName 8) (gCons (gName 9) gNil))) (tt := tYes) (te := (tMeth A.c_Ratio "minus" (sp_Ratio_minus K A) [] E0 (tVar 8) (tCons (tVar 9) tNil))) (by rfl) sc_compare.nd rfl rfl (sw_true rfl rfl rfl (by decide +kernel)) (pi_zip (by rfl) T.n_zip (pa_cons (pv 5) (pa_cons (pv 6) pa_nil))) (blkOk_by (own := [("term", 8), ("other", 9)]) (N := ["study", "first", "second", "kind", "limit", "terms", "others", "differences", "term", "other"]) (sc := defScope s_compare) (by decide +kernel)) (fun _ _ _ _ _ => pg_tup rfl (pgs_cons (pg_name (i := 8) sc_compare.nd rfl (Or.inl rfl)) (pgs_cons (pg_name (i := 9) sc_compare.nd rfl (Or.inl rfl)) pgs_nil))) (fun _ _ _ _ _ => pts_nil) (fun _ _ _ _ _ => (pe_meth (pv 8) T.cl_Ratio T.me_Ratio_minus (ok_Ratio_minus T) (hr.mono (by decide)) (bi_Ratio_minus T) .nil pass0 (pa_cons (pv 9) pa_nil))))
        (pss_one (ps_ret (pe_op op_cat (pe_op op_cat (pe_lst (pa_cons pe_int pa_nil)) (pe_meth0 (pe_call (ok_mean T) (hr.mono (by decide)) rfl T.g_mean T.fn_mean.kp (bi_mean T) .nil pass0 (pa_cons (pv 7) pa_nil)) T.cl_Ratio T.me_Ratio_pair (ok_Ratio_pair T) (hr.mono (by decide)) (bi_Ratio_pair T) .nil pass0)) (pe_meth0 (pe_call (ok_variance_of_mean T) (hr.mono (by decide)) rfl T.g_variance_of_mean T.fn_variance_of_mean.kp (bi_variance_of_mean T) .nil pass0 (pa_cons (pv 7) pa_nil)) T.cl_Ratio T.me_Ratio_pair (ok_Ratio_pair T) (hr.mono (by decide)) (bi_Ratio_pair T) .nil pass0)))))))), ?_⟩
    refine ⟨_, rfl, g, rfl, fun hg => ?_, fun hg => dn.bad _ (by decide) (LwM.cmp_2 (by omega))⟩
    refine ⟨_, rfl, _, rfl, _, rfl, _, rfl, a, s, M, k, kd, l, 2, rfl, st, gs, fun h0 => dn.bad _ (by decide) (LwM.cmp_2 (by omega)), fun h0 h1 => dn.bad _ (by decide) (LwM.cmp_22 ⟨h0, hg⟩ h1),
      fun h0 h1 h2 => dn.bad _ (by decide) (LwM.cmp_33 ⟨h0, hg⟩ h1 h2), fun h0 h1 h2 D H1 s1 r1 => ?_⟩
    have gp := LwM.pol_at gs h0
    have gq := LwM.pol_at gs hg
    obtain ⟨evs, po, mo, tw, tr, dx, o, us, pa, e1, e2, hpol⟩ := (st.same s1).policy (k := g) (by rw [gs.poln]; exact hg)
    obtain ⟨ev3, po3, mo3, tw3, tr3, dx3, o3, hev3, _⟩ := (st.same s1).get
    refine ⟨_, rfl, _, rfl, a, _, dx, _, _, rfl, o, T.cl_Study, T.no_Study_policies, st_policies .., _, rfl, po, _, _, _, rfl, rfl, SqL.of e1, at_of (j := g) rfl e2, _, rfl, _, rfl, _, rfl, a, _, dx3, _, _, rfl, o3, T.cl_Study, T.no_Study_events, st_events ..,
      a, pa, ev3, s, _, kd, l, s.events, rfl, ctx_of (st.same s1) gs hg hpol, hev3, gs.ev, Nat.le_trans gs.evn (by decide), h1.1, h1.2.1, h1.2.2, fun D2 H2 s2 r2 => ?_⟩
    have vf : VarFit (LwM.diffs s (Kp432.policyAt s k) (Kp432.policyAt s g) (est kd l)) := fit_diffs gs gp gq h1.2.2
    have ln : (LwM.diffs s (Kp432.policyAt s k) (Kp432.policyAt s g) (est kd l)).length = s.events.length := by unfold LwM.diffs; rw [List.length_map]
    have v1 : VarFit (Kp432.terms s (Kp432.policyAt s k) (est kd l)) := fit_terms gs gp h1.2.2
    have v2 : VarFit (Kp432.terms s (Kp432.policyAt s g) (est kd l)) := fit_terms gs gq h1.2.2
    obtain ⟨fs, f1, f2, f3⟩ := (RatsAt.same r1 s2).ex
    obtain ⟨gs', g1, g2, g3⟩ := r2.ex
    have f2' : fs.length = s.events.length := by rw [f2]; unfold Kp432.terms; rw [List.length_map]
    have g2' : gs'.length = s.events.length := by rw [g2, List.length_map]
    refine to_nx (to_seq (to_asg ?_))
    refine comp_of (walk_zip (K := K) (a := D) (b := D2) (xs := fs.map V.ref) (ys := gs'.map V.ref) (n := s.events.length) (by rw [List.length_map, List.length_map, f2', g2', Nat.min_self])) (stays_rat (A := A)) (LwM.diffs s (Kp432.policyAt s k) (Kp432.policyAt s g) (est kd l))
      ln (Nat.le_trans gs.evn (by decide)) (fun H3 s3 => ⟨SqL.of (s3 _ _ f1), SqL.of (s3 _ _ g1)⟩)
      (fun Z hZ => ⟨_, rfl, _, rfl, D, D2, _, _, rfl, SqL.of f1, SqL.of g1, hZ⟩) ?_ ?_
    · rintro i y x H3 H4 Dn hy s3 ⟨acc, hD⟩ ⟨t, u, z, rfl, nT, rfl, eu, ez⟩ Z hZ
      obtain ⟨qf, hqf, rfl⟩ := ref_at eu
      obtain ⟨qg, hqg, rfl⟩ := ref_at ez
      have hi : i < s.events.length := by
        have := (List.getElem?_eq_some_iff.mp hqf).1
        omega
      have he : s.events[i]? = some (s.events[i]'hi) := List.getElem?_eq_getElem hi
      have hyy : y = Kp432.sub (Kp432.term s (Kp432.policyAt s k) (est kd l) (s.events[i]'hi)) (Kp432.term s (Kp432.policyAt s g) (est kd l) (s.events[i]'hi)) := by
        unfold LwM.diffs at hy
        rw [List.getElem?_map, he] at hy
        exact (Option.some.inj hy).symm
      subst hyy
      have nTs : Same H3 (L2.upd H3 t (.tup [.ref qf, .ref qg])) := Same.new nT
      have tf : (Kp432.terms s (Kp432.policyAt s k) (est kd l))[i]? = some (Kp432.term s (Kp432.policyAt s k) (est kd l) (s.events[i]'hi)) := by
        unfold Kp432.terms
        rw [List.getElem?_map, he]
        rfl
      have tg : (s.events.map (Kp432.term s (Kp432.policyAt s g) (est kd l)))[i]? = some (Kp432.term s (Kp432.policyAt s g) (est kd l) (s.events[i]'hi)) := by
        rw [List.getElem?_map, he]
        rfl
      have rf := (f3 i qf _ hqf tf).same (s3.trans nTs)
      have rg := (g3 i qg _ hqg tg).same (s3.trans nTs)
      obtain ⟨dqf, hqf'⟩ := id rf
      refine ⟨t, _, rfl, SqT.of upd_same, rfl, _, _, rfl, _, _, rfl, rfl, rfl, ?_⟩
      exact ⟨_, rfl, qf, dqf, _, rfl, hqf', rat_no _ (by decide +kernel) (by decide +kernel), _, rfl, qf, qg, _, _, rfl, rf, rg, v1.fit.all (List.mem_of_getElem? tf), v2.fit.all (List.mem_of_getElem? tg), fun v H5 s5 r5 => hZ _ _ (nTs.trans s5) ⟨v, rfl, r5⟩ (rat_ne r5 ((nTs.trans s5) _ _ hD))⟩
    · intro D3 H3 nD3 s3 hD3
      have r3 : RatsAt A H3 D3 _ := hD3.refs
      refine ⟨(by show 1 ≤ sizeLine; decide), fun p1 n1 => ?_⟩
      have s4 : Same H3 (L2.upd H3 p1 (.lst [.int 0])) := Same.new n1
      have s14 := ((s1.trans s2).trans s3).trans s4
      refine ⟨_, rfl, D3, _, rfl, RatsAt.same r3 s4, vf.fit, by have := gs.evn; omega, fun m H5 s5 r5 => ?_⟩
      obtain ⟨dm, hm⟩ := id r5
      refine ⟨m, dm, _, rfl, hm, rat_no _ (by decide +kernel) (by decide +kernel), ?_⟩
      refine cat_pairL (K := K) (E := E0) (zs := [0]) (s5 _ _ upd_same) r5 (by decide) fun p6 H6 n6 s6 hp6 => ?_
      refine ⟨_, rfl, D3, _, rfl, RatsAt.same r3 ((s4.trans s5).trans s6), vf, by omega, fun v H7 s7 r7 => ?_⟩
      obtain ⟨dv, hv⟩ := id r7
      refine ⟨v, dv, _, rfl, hv, rat_no _ (by decide +kernel) (by decide +kernel), ?_⟩
      refine cat_pairL (K := K) (E := E0) (s7 _ _ hp6) r7 (by show 3 ≤ 1000; decide) fun p8 H8 n8 s8 hp8 => ?_
      have s17 := ((s14.trans s5).trans s6).trans s7
      exact dn.good _ _ _ (by omega) (LwM.cmp_ok ⟨h0, hg⟩ h1 h2) p8 H8 M (s17.free n8) hp8 (st.same (s17.trans s8)) (Moved.of (s17.trans s8))
theorem ok_greatest_weight (T : Txt K mg A) : FnOk P w K mg base (L2.CX P w) 7 A.f_greatest_weight A.d_greatest_weight ["study", "policy"] (sp_greatest_weight K A) := by
  refine T.fn_greatest_weight.okX sc_greatest_weight (fun vs H Q E h => ?_) (fun cdv Ar outer s H vs Q E hr h => ?_)
  · obtain ⟨a, s, M, k, rfl, _⟩ := h
    rfl
  · obtain ⟨a, s, M, k, rfl, st, gs, dn⟩ := h
    refine ⟨_, (pss_cons (ps_expr (pe_call (ok_check_policy T) (hr.mono (by decide)) rfl T.g_check_policy T.fn_check_policy.kp (bi_check_policy T) .nil (passes_call (takes_of rfl rfl rfl rfl) (fun _ _ _ _ h => h)) (pa_cons (pv 1) pa_nil)))
        (pss_cons (ps_expr (pe_call (ok_check_events T) (hr.mono (by decide)) rfl T.g_check_events T.fn_check_events.kp (bi_check_events T) .nil (passes_call (takes_of rfl rfl rfl rfl) (fun _ _ _ _ h => h)) (pa_cons (pe_fld (pv 0) rfl) (pa_cons pe_int pa_nil))))
        (pss_one (ps_ret (pe_op op_cat (pe_lst (pa_cons pe_int pa_nil)) (pe_meth0 (pe_call (ok_greatest T) (hr.mono (by decide)) rfl T.g_greatest T.fn_greatest.kp (bi_greatest T) .nil pass0 (pa_cons (pe_call (ok_importances T) (hr.mono (by decide)) rfl T.g_importances T.fn_importances.kp (bi_importances T) .nil pass0 (pa_cons (pv 0) (pa_cons (pe_ix ix_list (pe_fld (pv 0) rfl) (pv 1) (fun _ _ => rfl)) pa_nil))) pa_nil)) T.cl_Ratio T.me_Ratio_pair (ok_Ratio_pair T) (hr.mono (by decide)) (bi_Ratio_pair T) .nil pass0)))))), ?_⟩
    refine ⟨_, rfl, k, rfl, fun h0 => ?_, fun h0 => dn.bad _ (by decide) (LwM.gre_2 h0)⟩
    have gp := LwM.pol_at gs h0
    obtain ⟨ev, po, mo, tw, tr, dx, o, hev, _⟩ := st.get
    obtain ⟨as, e1, e2, _⟩ := hev.ex
    refine ⟨_, rfl, a, _, dx, _, _, rfl, o, T.cl_Study, T.no_Study_events, st_events .., ev, _, 1, rfl, e1, fun h1 => ?_, fun h1 => dn.bad _ (by decide) (LwM.gre_33 h0 (by rw [List.length_map, e2] at h1; exact h1))⟩
    rw [List.length_map, e2] at h1
    refine ⟨(by show 1 ≤ sizeLine; decide), fun p1 n1 => ?_⟩
    have s1 : Same H (L2.upd H p1 (.lst [.int 0])) := Same.new n1
    obtain ⟨evs, po, mo, tw, tr, dx, o, us, pa, e1, e2, hpol⟩ := (st.same s1).policy (k := k) (by rw [gs.poln]; exact h0)
    refine ⟨_, rfl, _, rfl, a, _, dx, _, _, rfl, o, T.cl_Study, T.no_Study_policies, st_policies .., _, rfl, po, _, _, _, rfl, rfl, SqL.of e1, at_of (j := k) rfl e2, a, pa, s, _, rfl, ctx_of (st.same s1) gs h0 hpol, fun D2 H2 s2 r2 => ?_⟩
    have fw := fit_weights gs gp
    refine ⟨D2, _, rfl, r2, fun x hx => fw.all hx, by rw [List.length_map]; omega, fun c rc => ?_⟩
    obtain ⟨dc, hc⟩ := id rc
    refine ⟨c, dc, _, rfl, hc, rat_no _ (by decide +kernel) (by decide +kernel), ?_⟩
    refine cat_pair (K := K) (E := E0) (s2 _ _ upd_same) rc fun p H3 n3 s3 hp3 => ?_
    have s12 := s1.trans s2
    exact dn.good _ _ _ (by omega) (LwM.gre_ok gs h0 h1) p H3 M (s12.free n3) hp3 (st.same (s12.trans s3)) (Moved.of (s12.trans s3))
theorem ok_model_info (T : Txt K mg A) : FnOk P w K mg base (L2.CX P w) 6 A.f_model_info A.d_model_info ["study", "context"] (sp_model_info K A) := by
  refine T.fn_model_info.okX sc_model_info (fun vs H Q E h => ?_) (fun cdv Ar outer s H vs Q E hr h => ?_)
  · obtain ⟨a, s, M, c, rfl, _⟩ := h
    rfl
  · obtain ⟨a, s, M, c, rfl, st, gs, dn⟩ := h
    refine ⟨_, (pss_cons (ps_expr (pe_call (ok_check_context T) (hr.mono (by decide)) rfl T.g_check_context T.fn_check_context.kp (bi_check_context T) .nil (passes_call (takes_of rfl rfl rfl rfl) (fun _ _ _ _ h => h)) (pa_cons (pv 0) (pa_cons (pv 1) pa_nil))))
        (pss_cons (ps_set (i := 2) sc_model_info.nd rfl (Or.inl rfl) (pe_lst (pa_cons (pe_fld (pv 0) rfl) pa_nil)))
        (pss_cons (ps_for (passes_of rfl) rfl (pi_list (pe_ix ix_list (pe_fld (pv 0) rfl) (pv 1) (fun _ _ => rfl))) (pg_name (i := 3) sc_model_info.nd rfl (Or.inl rfl)) (pss_one (ps_expr (pe_bm PySem.F.plainAttrs_list PySem.F.slot_list_extend PySem.F.type_list_extend mt_extend (pv 2) (pa_cons (pe_meth0 (pv 3) T.cl_Ratio T.me_Ratio_pair (ok_Ratio_pair T) (hr.mono (by decide)) (bi_Ratio_pair T) .nil pass0) pa_nil)))))
        (pss_one (ps_ret (pv 2)))))), ?_⟩
    refine ⟨_, rfl, _, rfl, a, s, M, c, rfl, st, fun h0 => ?_, fun h0 => dn.bad _ (by decide) (LwM.mod_2 h0)⟩
    have hc' : c < s.model.length := by rw [gs.mod.len]; exact h0
    obtain ⟨ev, po, mo, tw, tr, dx, o, us, r, e1, e2, hr⟩ := st.row hc'
    have rl := gs.mod.row _ (LwM.getD_mem (d := []) hc')
    have a5 := gs.a5
    obtain ⟨as, q1, q2, q3⟩ := hr.ex
    refine to_nx (to_seq (to_asg ?_))
    refine ⟨_, rfl, a, _, dx, _, _, rfl, o, T.cl_Study, T.no_Study_actions, st_actions .., (by show 1 ≤ sizeLine; decide), fun D nD => to_name (to_nx (to_seq ?_))⟩
    have s1 : Same H (L2.upd H D (.lst [nat s.actions])) := Same.new nD
    have fl : ∀ i, i ≤ 5 → ((s.actions : Int) :: Kp432.fractionsOf ((s.model.getD c []).take i)).length ≤ 1000 := fun i hi => by
      have e := LwM.flatMap_len (f := fun x : Fraction => [x.num, (x.den : Int)]) (m := 2) (l := (s.model.getD c []).take i) fun x _ => Nat.le_refl 2
      rw [List.length_take] at e
      rw [List.length_cons]
      unfold Kp432.fractionsOf
      omega
    refine ⟨_, rfl, a, _, dx, _, _, rfl, s1 _ _ o, T.cl_Study, T.no_Study_model, st_model .., _, rfl, mo, _, _, _, rfl, rfl, SqL.of (s1 _ _ e1), at_of (j := c) rfl e2, r, rfl, ⟨_, SqL.of (s1 _ _ q1)⟩, for_list (K := K) (a := r) (xs := as.map V.ref)
      (fun i σ H' => ∃ v : Option V, σ = [some (.ref a), some (nat c), some (.ref D), v] ∧ Same H H' ∧ H' D = some (.lst (((s.actions : Int) :: Kp432.fractionsOf ((s.model.getD c []).take i)).map V.int))) ⟨none, rfl, s1, upd_same⟩ (fun i σ H' _ hw => ?_) ?_ ?_⟩
    · obtain ⟨_, _, s2, _⟩ := hw
      exact SqL.of (s2 _ _ q1)
    · rintro i y σ H2 hi ⟨v, rfl, s2, hD⟩
      obtain ⟨b, hb, rfl⟩ := ref_at hi
      obtain ⟨x, hx⟩ := get_of_len q2 hb
      have rb := (q3 i b x hb hx).same s2
      obtain ⟨db, hb2⟩ := id rb
      have i5 : i ≤ 5 := by
        have := (List.getElem?_eq_some_iff.mp hx).1
        have := rl.1
        omega
      refine ⟨_, rfl, .inl ⟨rfl, _, SqL.of hD⟩, _, rfl, b, db, _, rfl, hb2, rat_no _ (by decide +kernel) (by decide +kernel), ?_⟩
      refine ⟨b, x, rfl, rb, fun p2 n2 => ?_⟩
      have s3 : Same H2 (L2.upd H2 p2 (.lst [.int x.num, .int (x.den : Int)])) := Same.new n2
      refine ⟨D, p2, _, _, rfl, rfl, s3 _ _ hD, upd_same, room2 (fl i i5), some (.ref b), rfl, Same.upd_new (s2.trans s3) nD, ?_⟩
      · rw [upd_same, take_snoc hx]
        unfold Kp432.fractionsOf
        rw [List.flatMap_append]
        simp
    · rintro σ H2 ⟨v, rfl, s2, hD⟩
      rw [List.length_map, q2, List.take_length] at hD
      exact ⟨_, rfl, dn.good _ _ _ (by omega) (LwM.mod_ok h0) D H2 M nD hD (st.same s2) (Moved.of s2)⟩
theorem ok_status (T : Txt K mg A) : FnOk P w K mg base CX0 1 A.f_status A.d_status ["study"] (sp_status K A) := by
  refine T.fn_status.ok sc_status (fun vs H Q E h => ?_) (fun cdv Ar outer s H vs Q E hr h => ?_)
  · obtain ⟨a, s, M, rfl, _⟩ := h
    rfl
  · obtain ⟨a, s, M, rfl, st, gs, dn⟩ := h
    refine ⟨_, (pss_cons (ps_setLc (i := 1) (own := [("event", 2)]) (g := gName 2) (tt := tYes) (te := (tFld K (tVar 2) "reward")) (by rfl) sc_status.nd rfl rfl (sw_true rfl rfl rfl (by decide +kernel)) (pi_list (pe_fld (pv 0) rfl)) (blkOk_by (own := [("event", 2)]) (N := ["study", "rewards", "event"]) (sc := defScope s_status) (by decide +kernel)) (fun _ _ _ _ _ => pg_name (i := 2) sc_status.nd rfl (Or.inl rfl)) (fun _ _ _ _ _ => pts_nil) (fun _ _ _ _ _ => (pe_fld (pv 2) rfl)))
        (pss_one (ps_ret (pe_lst (pa_cons (pe_fld (pv 0) rfl) (pa_cons (pe_fld (pv 0) rfl) (pa_cons (pe_callB call_len_seq (by rfl) T.n_len PySem.boot_len (pa_cons (pv 1) pa_nil)) (pa_cons (pe_callB (cr_sum (by rfl)) (by rfl) T.n_sum (by decide +kernel) (pa_cons (pv 1) pa_nil)) pa_nil)))))))), ?_⟩
    obtain ⟨ev, po, mo, tw, tr, dx, o, hev, _⟩ := st.get
    refine to_seq (to_asg ?_)
    refine comp_objs (R := EvAt A) (stays_val (f := fun n : Int => V.int n)) (fun e : Evt => ((e.reward : Nat) : Int)) hev (fun s r => r.same s) (Nat.le_trans gs.evn (by decide)) (fun Z hZ => ⟨_, rfl, a, _, dx, _, _, rfl, o, T.cl_Study, T.no_Study_events, st_events .., hZ⟩) ?_ fun D H1 nD s1 r1 => ?_
    · intro x e H1 D hx ⟨de, pr, he, _⟩ s1 hD Z hZ
      exact ⟨_, rfl, e, _, de, _, _, rfl, he, T.cl_Event, T.no_Event_reward, ev_reward x pr, hZ _ _ (Same.refl _) rfl (fun z => nomatch z)⟩
    · have r2 := r1.vals
      have o1 := s1 _ _ o
      refine ⟨_, rfl, a, _, dx, _, _, rfl, o1, T.cl_Study, T.no_Study_contexts, st_contexts .., _, rfl, a, _, dx, _, _, rfl, o1, T.cl_Study, T.no_Study_actions, st_actions .., _, rfl, D, _, rfl, .inl (SqL.of r2), _, rfl, D, _, rfl, SqL.of r2, (by show 4 ≤ sizeLine; decide), fun p np => ?_⟩
      have es0 : (s.events.map fun e : Evt => ((e.reward : Nat) : Int)).sum = (((s.events.map Kp432.Event.reward).sum : Nat) : Int) := by
        rw [← LwM.sum_cast, List.map_map]
        rfl
      have s2 := s1.trans (Same.new (o := .lst [nat s.contexts, nat s.actions, V.int (((s.events.map fun e : Evt => ((e.reward : Nat) : Int)).map V.int).length : Nat), V.int (s.events.map fun e : Evt => ((e.reward : Nat) : Int)).sum]) np)
      refine dn.good _ _ _ (Int.natCast_nonneg _) LwM.sta_ok p _ M (s1.free np) ?_ (st.same s2) (Moved.of s2)
      rw [upd_same, es0, List.length_map, List.length_map]
      rfl
end
end Lw
end
/-! LwAsk3 -/
section
set_option Elab.async false
set_option linter.all false
set_option maxRecDepth 100000
set_option maxHeartbeats 4000000
/-! context by context; resampling -/
namespace Lw
open PySem PySem.Spec PyProof.Rows L2
open Kp432 (Fraction Study Policy)
/-- a comprehension with a test: what each turn gives, if anything -/
theorem comp_some {J : It} {n : Nat} {G : Hp → Prop} {Y : Nat → Hp → V → Hp → Prop} (w : Walk J n G Y) {wi : TI} {g : TG} {tt : TT} {te : TE} {vs : List Nat} {σ : L2.St} {H : Hp} {Q : VK} {β : Type} {S : Hp → V → β → Prop} (st : Stays S) (f : Nat → Option β)
    (small : n ≤ 1000) (hG : ∀ H1, Same H H1 → G H1) (hwi : ∀ R : It → Hp → Prop, R J H → wi σ H R)
    (step : ∀ (i : Nat) (x : V) (H1 H2 : Hp) (D : Addr), i < n → Same H H1 → (∃ acc, H1 D = some (.lst acc)) → Y i H1 x H2 → ∀ (R0 : Hp → Prop) (R : VK), (f i = none → ∀ H3, Same H1 H3 → R0 H3) → (∀ y, f i = some y → ∀ v H3, Same H1 H3 → S H3 v y → v ≠ .ref D → R v H3) →
      g x (wipe σ vs) H2 fun σ2 H4 => wipe σ2 vs = wipe σ vs ∧ tt σ2 H4 fun b H5 => if b = true then te σ2 H5 R else R0 H5)
    (k : ∀ D H1, H D = none → Same H H1 → LstV S H1 D ((List.range n).filterMap f) → Q (.ref D) H1) : tLc wi g tt te vs σ H Q := by
  refine hwi _ fun D nD => lc_it w (fun i H1 => Same H H1 ∧ ∃ acc : List V, H1 D = some (.lst acc) ∧ acc.length = ((List.range i).filterMap f).length ∧ ∀ (j : Nat) (v : V) (y : β), acc[j]? = some v → ((List.range i).filterMap f)[j]? = some y → S H1 v y ∧ v ≠ .ref D) ?_ ?_ ?_ ?_
  · exact ⟨Same.new nD, [], upd_same, rfl, fun j v y hv => by simp at hv⟩
  · rintro i H1 hi ⟨s1, _⟩
    exact hG H1 s1
  · rintro i x H1 H2 hi ⟨s1, acc, hD, hl, hS⟩ hY
    have few : ((List.range i).filterMap f).length ≤ i := Nat.le_trans (List.length_filterMap_le _ _) (by rw [List.length_range]; exact Nat.le_refl _)
    have snoc : (List.range (i + 1)).filterMap f = (List.range i).filterMap f ++ (match f i with | some y => [y] | none => []) := by
      rw [List.range_succ, List.filterMap_append, List.filterMap_cons, List.filterMap_nil]
      cases f i <;> rfl
    refine step i x H1 H2 D hi s1 ⟨acc, hD⟩ hY _ _ (fun e H3 s3 => ?_) fun y e v H3 s3 hv nv => ?_
    · rw [e] at snoc
      simp only [List.append_nil] at snoc
      refine ⟨s1.trans s3, acc, s3 _ _ hD, by rw [snoc]; exact hl, fun j u z hu hz => ?_⟩
      rw [snoc] at hz
      obtain ⟨q1, q2⟩ := hS j u z hu hz
      exact ⟨st.same s3 q1, q2⟩
    · rw [e] at snoc
      simp only at snoc
      have hD3 := s3 _ _ hD
      refine ⟨acc, hD3, by rw [hl]; exact size1000 (by omega), Same.upd_new (s1.trans s3) nD, acc ++ [v], upd_same, by rw [snoc, List.length_append, List.length_append, hl]; rfl, ?_⟩
      intro j u z hu hz
      rw [snoc] at hz
      by_cases hj : j < acc.length
      · rw [List.getElem?_append_left hj] at hu
        rw [List.getElem?_append_left (by omega)] at hz
        obtain ⟨q1, q2⟩ := hS j u z hu hz
        exact ⟨st.but hD3 q2 (st.same s3 q1), q2⟩
      · rw [List.getElem?_append_right (by omega)] at hu
        rw [List.getElem?_append_right (by omega), ← hl] at hz
        have e0 : j - acc.length = 0 := by
          have := (List.getElem?_eq_some_iff.mp hu).1
          simp at this
          omega
        rw [e0] at hu hz
        have eu : v = u := Option.some.inj hu
        have ez : y = z := Option.some.inj hz
        subst eu ez
        exact ⟨st.but hD3 nv hv, nv⟩
  · rintro H1 ⟨s1, acc, hD, hl, hS⟩
    exact k D H1 nD s1 ⟨acc, hD, hl, fun i v y hv hy => (hS i v y hv hy).1⟩
theorem to_meth {C : Addr} {m : Str} {sp : Sp} {ds : List V} {E : XK} {ta : TE} {t : TA} {σ : L2.St} {H : Hp} {Q : VK} (h : ta σ H fun x H1 => ∃ a dx fs, x = .ref a ∧ H1 a = some (.ins C dx fs) ∧ fs.lookup m = none ∧ t σ H1 fun xs H2 => sp (x :: (xs ++ ds)) H2 Q E) : tMeth C m sp ds E ta t σ H Q := h
def sp_by_context (K : PySem.W.Frag) (A : Ad) : Sp := fun vs H Q E => ∃ (a : Addr) (s : Study) (M : List Addr) (k kd l : Nat), vs = [.ref a, nat k, nat kd, nat l] ∧ StAt A H a s M ∧ LwM.Good s ∧ DoneOp A H Q E a s M (.byContext k kd l)
def sp_bootstrap (K : PySem.W.Frag) (A : Ad) : Sp := fun vs H Q E => ∃ (a : Addr) (s : Study) (M : List Addr) (k kd l r d : Nat), vs = [.ref a, nat k, nat kd, nat l, nat r, nat d] ∧ StAt A H a s M ∧ LwM.Good s ∧ d < 2 ^ 60 ∧ DoneOp A H Q E a s M (.bootstrap k kd l r d)
section
variable {s : Study} {p : Policy} {kd l : Nat}
theorem ctx_mem {c : Nat} {x : Kp432.Estimator} {y : Fraction} (h : y ∈ LwM.ctxTerms s p x c) : y ∈ Kp432.terms s p x := by
  obtain ⟨e, he, rfl⟩ := List.mem_map.mp h
  exact List.mem_map.mpr ⟨e, (List.mem_filter.mp he).1, rfl⟩
theorem VarFit.sub {xs ys : List Fraction} (h : VarFit xs) (hs : ∀ y ∈ ys, y ∈ xs) (hl : ys.length ≤ xs.length) : VarFit ys := by
  obtain ⟨D, M, b, n40, r⟩ := h.ex
  exact ⟨D, M, fun y hy => b y (hs y hy), Nat.le_trans hl n40, r⟩
theorem outs_len {f : Nat → List Int} (h : ∀ c, (f c).length = 3) : ∀ n, n ≤ 6 → ((List.range n).flatMap f).length ≤ 18 := fun n hn => by
  have e := LwM.flatMap_len (f := f) (m := 3) (l := List.range n) fun c _ => Nat.le_of_eq (h c)
  rw [List.length_range] at e
  omega
end
section
variable {P : Program} {w : World} {K : PySem.W.Frag} {mg : Str → Option Value} {base : Heap} {A : Ad}
theorem ok_by_context (T : Txt K mg A) : FnOk P w K mg base (L2.CX P w) 10 A.f_by_context A.d_by_context ["study", "policy", "kind", "limit"] (sp_by_context K A) := by
  refine T.fn_by_context.okX sc_by_context (fun vs H Q E h => ?_) (fun cdv Ar outer s H vs Q E hr h => ?_)
  · obtain ⟨a, s, M, k, kd, l, rfl, _⟩ := h
    rfl
  · obtain ⟨a, s, M, k, kd, l, rfl, st, gs, dn⟩ := h
    refine ⟨_, (pss_cons (ps_set (i := 4) sc_by_context.nd rfl (Or.inr rfl) (pe_call (ok_checked_terms T) (hr.mono (by decide)) rfl T.g_checked_terms T.fn_checked_terms.kp (bi_checked_terms T) .nil (passes_call (takes_of rfl rfl rfl rfl) (fun _ _ _ _ h => h)) (pa_cons (pv 0) (pa_cons (pv 1) (pa_cons (pv 2) (pa_cons (pv 3) (pa_cons pe_int pa_nil)))))))
        (pss_cons (ps_set (i := 5) sc_by_context.nd rfl (Or.inl rfl) (pe_lst (pa_cons (pe_fld (pv 0) rfl) pa_nil)))
        (pss_cons (ps_for (passes_of rfl) rfl (pi_range1 (by rfl) T.n_range (pa_cons (pe_fld (pv 0) rfl) pa_nil)) (pg_name (i := 6) sc_by_context.nd rfl (Or.inr rfl)) (pss_cons (ps_setLc (i := 7) (own := [("place", 8), ("event", 9)]) (g := gTup K 2 (gCons (gName 8) (gCons (gName 9) gNil))) (tt := (tTest (tOp rEq (tFld K (tVar 9) "context") (tVar 6)))) (te := (tVar 8)) (by rfl) sc_by_context.nd rfl rfl (sw_true rfl rfl rfl (by decide +kernel)) (pi_enum (by rfl) T.n_enumerate (pa_cons (pe_fld (pv 0) rfl) pa_nil)) (blkOk_by (own := [("place", 8), ("event", 9)]) (N := ["study", "policy", "kind", "limit", "terms", "answered", "context", "places", "place", "event"]) (sc := defScope s_by_context) (by decide +kernel)) (fun _ _ _ _ _ => pg_tup rfl (pgs_cons (pg_name (i := 8) sc_by_context.nd rfl (Or.inl rfl)) (pgs_cons (pg_name (i := 9) sc_by_context.nd rfl (Or.inl rfl)) pgs_nil))) (fun _ _ _ _ _ => (pts_one (pt_cmpR op_eq (pe_fld (pv 9) rfl) (pv 6) (nomark _)))) (fun _ _ _ _ _ => (pv 8)))
          (pss_cons (ps_expr (pe_bm PySem.F.plainAttrs_list PySem.F.slot_list_append PySem.F.type_list_append mt_append (pv 5) (pa_cons (pe_callB call_len_seq (by rfl) T.n_len PySem.boot_len (pa_cons (pv 7) pa_nil)) pa_nil)))
          (pss_one (ps_expr (pe_bm PySem.F.plainAttrs_list PySem.F.slot_list_extend PySem.F.type_list_extend mt_extend (pv 5) (pa_cons (pe_meth0 (pe_call (ok_mean T) (hr.mono (by decide)) rfl T.g_mean T.fn_mean.kp (bi_mean T) .nil pass0 (pa_cons (pe_lc (own := [("place", 8)]) (g := gName 8) (tt := tYes) (te := (tOp (rIxL K) (tVar 4) (tVar 8))) (by rfl) sc_by_context.nd (pi_list (pv 7)) (blkOk_by (own := [("place", 8)]) (N := ["study", "policy", "kind", "limit", "terms", "answered", "context", "places", "place", "event"]) (sc := defScope s_by_context) (by decide +kernel)) (fun _ _ _ _ _ => pg_name (i := 8) sc_by_context.nd rfl (Or.inl rfl)) (fun _ _ _ _ _ => pts_nil) (fun _ _ _ _ _ => (pe_ix ix_list (pv 4) (pv 8) (fun _ _ => rfl)))) pa_nil)) T.cl_Ratio T.me_Ratio_pair (ok_Ratio_pair T) (hr.mono (by decide)) (bi_Ratio_pair T) .nil pass0) pa_nil)))))))
        (pss_one (ps_ret (pv 5)))))), ?_⟩
    refine ⟨_, rfl, _, rfl, _, rfl, _, rfl, a, s, M, k, kd, l, 1, rfl, st, gs, fun h0 => dn.bad _ (by decide) (LwM.byc_2 h0), fun h0 h1 => dn.bad _ (by decide) (LwM.byc_22 h0 h1),
      fun h0 h1 h2 => dn.bad _ (by decide) (LwM.byc_33 h0 h1 h2), fun h0 h1 h2 D1 H1 s1 r1 => ?_⟩
    have gp := LwM.pol_at gs h0
    have c6 := gs.c6
    have e40 := gs.evn
    have vf : VarFit (Kp432.terms s (Kp432.policyAt s k) (est kd l)) := fit_terms gs gp h1.2.2
    have ln : (Kp432.terms s (Kp432.policyAt s k) (est kd l)).length = s.events.length := by unfold Kp432.terms; rw [List.length_map]
    obtain ⟨ts, t1, t2, t3⟩ := r1.ex
    rw [ln] at t2
    have ol : ∀ n, n ≤ 6 → ((s.contexts : Int) :: (List.range n).flatMap (LwM.ctxOut s (Kp432.policyAt s k) (est kd l))).length ≤ 100 := fun n hn => by
      have := outs_len (f := LwM.ctxOut s (Kp432.policyAt s k) (est kd l)) (fun c => rfl) n hn
      rw [List.length_cons]
      omega
    obtain ⟨ev, po, mo, tw, tr, dx, o, hev, _⟩ := (st.same s1).get
    refine to_name (to_nx (to_seq (to_asg ?_)))
    refine ⟨_, rfl, a, _, dx, _, _, rfl, o, T.cl_Study, T.no_Study_contexts, st_contexts .., (by show 1 ≤ sizeLine; decide), fun D nD => to_name (to_nx (to_seq ?_))⟩
    have s2 : Same H1 (L2.upd H1 D (.lst [nat s.contexts])) := Same.new nD
    refine ⟨_, rfl, a, _, dx, _, _, rfl, s2 _ _ o, T.cl_Study, T.no_Study_contexts, st_contexts .., s.contexts, rfl, by omega, by omega, for_range (lo := 0) (n := s.contexts)
      (fun i σ H' => ∃ v6 v7 v8 v9 : Option V, σ = [some (.ref a), some (nat k), some (nat kd), some (nat l), some (.ref D1), some (.ref D), v6, v7, v8, v9] ∧ Same H1 H' ∧ H' D = some (.lst (((s.contexts : Int) :: (List.range i).flatMap (LwM.ctxOut s (Kp432.policyAt s k) (est kd l))).map V.int)))
      ⟨none, none, none, none, rfl, s2, upd_same⟩ ?_ ?_⟩
    · rintro i σ H3 hi ⟨v6, v7, v8, v9, rfl, s3, hD⟩
      refine to_name (to_seq (to_asg ?_))
      obtain ⟨ev3, po3, mo3, tw3, tr3, dx3, o3, hev3, _⟩ := (st.same (s1.trans s3)).get
      obtain ⟨as, a1, a2, a3⟩ := hev3.ex
      refine comp_some (walk_enum (K := K) (a := ev3) (xs := as.map V.ref)) (stays_val (f := nat)) (LwM.placeAt s.events i) (by rw [List.length_map]; omega) (fun H4 s4 => SqL.of (s4 _ _ a1)) (fun Z hZ => ⟨_, rfl, a, _, dx3, _, _, rfl, o3, T.cl_Study, T.no_Study_events, st_events .., ev3, _, rfl, SqL.of a1, hZ⟩) ?_ ?_
      · rintro j x H4 H5 Dn hj s4 ⟨acc, hDn⟩ ⟨t, u, z, rfl, nT, rfl, eu, ez⟩ R0 R hn hy
        cases Option.some.inj eu
        obtain ⟨qe, hqe, rfl⟩ := ref_at ez
        have hj' : j < s.events.length := by
          have := (List.getElem?_eq_some_iff.mp hqe).1
          omega
        have he : s.events[j]? = some (s.events[j]'hj') := List.getElem?_eq_getElem hj'
        have nTs : Same H4 (L2.upd H4 t (.tup [.int (j : Nat), .ref qe])) := Same.new nT
        obtain ⟨dqe, pr, hee, _⟩ := (a3 j qe _ hqe he).same (s4.trans nTs)
        refine ⟨t, _, rfl, SqT.of upd_same, rfl, _, _, rfl, _, _, rfl, rfl, rfl, ?_⟩
        refine ⟨_, rfl, qe, _, dqe, _, _, rfl, hee, T.cl_Event, T.no_Event_context, ev_context _ pr, _, rfl, rfl, _, rfl, ?_⟩
        have e0 : V.int (0 + (i : Int)) = nat i := congrArg V.int (Int.zero_add _)
        rw [e0, nat_beq]
        by_cases c : ((s.events[j]'hj').context == i) = true
        · rw [c]
          refine iteT ⟨_, rfl, hy j ?_ _ _ nTs rfl (fun z => nomatch z)⟩
          unfold LwM.placeAt
          rw [he]
          exact if_pos c
        · rw [Bool.not_eq_true] at c
          rw [c]
          refine iteF (hn ?_ _ nTs)
          unfold LwM.placeAt
          rw [he]
          exact if_neg (by rw [c]; decide)
      · intro Dp H4 nDp s4 hp
        have hp4 := hp.vals
        rw [List.length_map, a2] at hp4
        have hp4 : H4 Dp = some (.lst ((LwM.placesOf s.events i).map nat)) := hp4
        have pl : (LwM.placesOf s.events i).length ≤ 40 := Nat.le_trans (by rw [LwM.places_len]; exact List.length_filter_le _ _) e40
        have hD4 := s4 _ _ hD
        have i6 : i ≤ 6 := by omega
        have l6 := ol i i6
        refine to_name (to_nx (to_seq ?_))
        refine ⟨_, rfl, .inl ⟨rfl, _, SqL.of hD4⟩, _, rfl, Dp, _, rfl, .inl (SqL.of hp4), D, _, _, rfl, rfl, hD4, ?_, ?_⟩
        · rw [List.length_map]
          exact size1000 (by omega)
        have neDp : Dp ≠ D := fun e => by
          rw [e, hD] at nDp
          cases nDp
        have hD5 : (L2.upd H4 D (.lst (((s.contexts : Int) :: (List.range i).flatMap (LwM.ctxOut s (Kp432.policyAt s k) (est kd l))).map V.int ++ [.int (((LwM.placesOf s.events i).map nat).length : Nat)]))) D =
            some (.lst ((((s.contexts : Int) :: (List.range i).flatMap (LwM.ctxOut s (Kp432.policyAt s k) (est kd l))) ++ [((LwM.placesOf s.events i).length : Int)]).map V.int)) := by
          rw [upd_same, List.map_append, List.length_map]
          rfl
        have hp5 : (L2.upd H4 D (.lst (((s.contexts : Int) :: (List.range i).flatMap (LwM.ctxOut s (Kp432.policyAt s k) (est kd l))).map V.int ++ [.int (((LwM.placesOf s.events i).map nat).length : Nat)]))) Dp = some (.lst ((LwM.placesOf s.events i).map nat)) := by
          rw [upd_ne neDp]
          exact hp4
        have s5 : Same H1 (L2.upd H4 D (.lst (((s.contexts : Int) :: (List.range i).flatMap (LwM.ctxOut s (Kp432.policyAt s k) (est kd l))).map V.int ++ [.int (((LwM.placesOf s.events i).map nat).length : Nat)]))) := Same.upd_new (s3.trans s4) nD
        generalize L2.upd H4 D _ = H5 at hD5 hp5 s5
        refine ⟨_, rfl, .inl ⟨rfl, _, SqL.of hD5⟩, ?_⟩
        refine to_cons (to_meth (to_call (to_cons ?_)))
        refine comp_of (walk_list (K := K) (a := Dp) (xs := (LwM.placesOf s.events i).map nat)) (stays_rat (A := A)) (LwM.ctxTerms s (Kp432.policyAt s k) (est kd l) i) ?_ (by rw [List.length_map]; omega) (fun H6 s6 => SqL.of (s6 _ _ hp5)) (fun Z hZ => ⟨_, rfl, Dp, rfl, ⟨_, SqL.of hp5⟩, hZ⟩) ?_ ?_
        · rw [List.length_map, LwM.places_len]
          unfold LwM.ctxTerms
          rw [List.length_map]
        · rintro j y x H6 H7 Dn hy s6 ⟨acc, hDn⟩ ⟨rfl, hx⟩ Z hZ
          obtain ⟨z, hz, rfl⟩ : ∃ z, (LwM.placesOf s.events i)[j]? = some z ∧ x = nat z := by
            rw [List.getElem?_map] at hx
            cases e : (LwM.placesOf s.events i)[j]? with
            | none =>
              rw [e] at hx
              cases hx
            | some z =>
              rw [e] at hx
              exact ⟨z, rfl, (Option.some.inj hx).symm⟩
          have zl := LwM.places_mem (List.mem_of_getElem? hz)
          have tz : ts[z]? = some (ts[z]'(by omega)) := List.getElem?_eq_getElem _
          have t1' := s6 _ _ (s5 _ _ t1)
          have hv : (Kp432.terms s (Kp432.policyAt s k) (est kd l))[z]? = some y := by
            have e := LwM.places_is (Kp432.term s (Kp432.policyAt s k) (est kd l)) (Kp432.ofNat 0) i s.events
            have hy : (LwM.ctxTerms s (Kp432.policyAt s k) (est kd l) i)[j]? = some y := hy
            unfold LwM.ctxTerms at hy
            rw [← e, List.getElem?_map, hz] at hy
            have hy : (s.events.map (Kp432.term s (Kp432.policyAt s k) (est kd l))).getD z (Kp432.ofNat 0) = y := Option.some.inj hy
            unfold Kp432.terms
            rw [List.getD_eq_getElem?_getD, List.getElem?_map, List.getElem?_eq_getElem zl] at hy
            rw [List.getElem?_map, List.getElem?_eq_getElem zl]
            exact congrArg some hy
          refine ⟨rfl, _, rfl, _, rfl, D1, _, _, V.ref _, rfl, rfl, SqL.of t1', at_of (j := z) rfl (by rw [List.getElem?_map, tz]; rfl), ?_⟩
          have rz := (t3 z _ y tz hv).same (s5.trans s6)
          exact hZ _ _ (Same.refl _) ⟨_, rfl, rz⟩ (rat_ne rz hDn)
        · intro Dm H6 nDm s6 hDm
          have vs : VarFit (LwM.ctxTerms s (Kp432.policyAt s k) (est kd l) i) := vf.sub (fun y hy => ctx_mem hy) (by
            rw [ln]
            unfold LwM.ctxTerms
            rw [List.length_map]
            exact List.length_filter_le _ _)
          have cl : (LwM.ctxTerms s (Kp432.policyAt s k) (est kd l) i).length = (LwM.placesOf s.events i).length := by
            unfold LwM.ctxTerms
            rw [List.length_map, LwM.places_len]
          refine ⟨Dm, _, rfl, hDm.refs, vs.fit, by omega, fun m H7 s7 r7 => ?_⟩
          obtain ⟨dm, hm⟩ := id r7
          refine ⟨m, dm, _, rfl, hm, rat_no _ (by decide +kernel) (by decide +kernel), ?_⟩
          refine ⟨m, _, rfl, r7, fun p2 n2 => ?_⟩
          have hD7 := (s6.trans s7) _ _ hD5
          have s8 : Same H7 (L2.upd H7 p2 (.lst [.int (Kp432.mean (LwM.ctxTerms s (Kp432.policyAt s k) (est kd l) i)).num, .int ((Kp432.mean (LwM.ctxTerms s (Kp432.policyAt s k) (est kd l) i)).den : Int)])) := Same.new n2
          refine ⟨D, p2, _, _, rfl, rfl, s8 _ _ hD7, upd_same, room2 ?_, ?_⟩
          · rw [List.length_append]
            show _ + 1 ≤ 1000
            omega
          · refine ⟨_, _, _, _, rfl, Same.upd_new (((s5.trans s6).trans s7).trans s8) nD, ?_⟩
            rw [upd_same, List.range_succ, List.flatMap_append, ← cl]
            simp [LwM.ctxOut]
    · rintro σ H3 ⟨v6, v7, v8, v9, rfl, s3, hD⟩
      have s13 := s1.trans s3
      exact ⟨_, rfl, dn.good _ _ _ (by omega) (LwM.byc_ok h0 h1 h2) D H3 M (s1.free nD) hD (st.same s13) (Moved.of s13)⟩
theorem ok_bootstrap (T : Txt K mg A) : FnOk P w K mg base (L2.CX P w) 10 A.f_bootstrap A.d_bootstrap ["study", "policy", "kind", "limit", "rounds", "seed"] (sp_bootstrap K A) := by
  refine T.fn_bootstrap.okX sc_bootstrap (fun vs H Q E h => ?_) (fun cdv Ar outer s H vs Q E hr h => ?_)
  · obtain ⟨a, s, M, k, kd, l, r, d, rfl, _⟩ := h
    rfl
  · obtain ⟨a, s, M, k, kd, l, r, d, rfl, st, gs, d9, dn⟩ := h
    obtain ⟨t_MOST_ROUNDS, k_MOST_ROUNDS⟩ := T.k_MOST_ROUNDS
    refine ⟨_, (pss_cons (ps_expr (pe_call (ok_check_range T) (hr.mono (by decide)) rfl T.g_check_range T.fn_check_range.kp (bi_check_range T) .nil (passes_call (takes_of rfl rfl rfl rfl) (fun _ _ _ _ h => h)) (pa_cons (pv 4) (pa_cons pe_int (pa_cons (pe_glob (v := .int 50) rfl k_MOST_ROUNDS ⟨_, rfl⟩) pa_nil)))))
        (pss_cons (ps_set (i := 6) sc_bootstrap.nd rfl (Or.inl rfl) (pe_call (ok_checked_terms T) (hr.mono (by decide)) rfl T.g_checked_terms T.fn_checked_terms.kp (bi_checked_terms T) .nil (passes_call (takes_of rfl rfl rfl rfl) (fun _ _ _ _ h => h)) (pa_cons (pv 0) (pa_cons (pv 1) (pa_cons (pv 2) (pa_cons (pv 3) (pa_cons pe_int pa_nil)))))))
        (pss_cons (ps_set (i := 7) sc_bootstrap.nd rfl (Or.inl rfl) (pe_call (ok_common_bottom T) (hr.mono (by decide)) rfl T.g_common_bottom T.fn_common_bottom.kp (bi_common_bottom T) .nil pass0 (pa_cons (pv 6) pa_nil)))
        (pss_cons (ps_set (i := 8) sc_bootstrap.nd rfl (Or.inl rfl) (pe_callB cr_sortedI (by rfl) T.n_sorted (by decide +kernel) (pa_cons (pe_call (ok_resampled_sums T) (hr.mono (by decide)) rfl T.g_resampled_sums T.fn_resampled_sums.kp (bi_resampled_sums T) .nil pass0 (pa_cons (pe_call (ok_tops_over T) (hr.mono (by decide)) rfl T.g_tops_over T.fn_tops_over.kp (bi_tops_over T) .nil pass0 (pa_cons (pv 6) (pa_cons (pv 7) pa_nil))) (pa_cons (pv 4) (pa_cons (pv 5) pa_nil)))) pa_nil)))
        (pss_cons (ps_set (i := 9) sc_bootstrap.nd rfl (Or.inl rfl) (pe_lst (pa_cons pe_int pa_nil)))
        (pss_cons (ps_for (passes_of rfl) rfl (pi_tup (pe_tup (pa_cons pe_int (pa_cons (pe_op op_fdivW (pe_op op_sub (pv 4) pe_int) pe_int) (pa_cons (pe_op op_sub (pv 4) pe_int) pa_nil))))) (pg_name (i := 10) sc_bootstrap.nd rfl (Or.inl rfl)) (pss_one (ps_expr (pe_bm PySem.F.plainAttrs_list PySem.F.slot_list_extend PySem.F.type_list_extend mt_extend (pv 9) (pa_cons (pe_meth0 (pe_make T.mk_Ratio (ok_Ratio_init T) (hr.mono (by decide)) rfl T.g_Ratio (bi_Ratio_init T) .nil pass0 (pa_cons (pe_ix ix_list (pv 8) (pv 10) (fun _ _ => rfl)) (pa_cons (pe_op op_mulW (pv 7) (pe_callB call_len_seq (by rfl) T.n_len PySem.boot_len (pa_cons (pv 6) pa_nil))) pa_nil))) T.cl_Ratio T.me_Ratio_pair (ok_Ratio_pair T) (hr.mono (by decide)) (bi_Ratio_pair T) .nil pass0) pa_nil)))))
        (pss_one (ps_ret (pv 9))))))))), ?_⟩
    refine ⟨_, rfl, _, _, _, rfl, fun hf => ?_, fun hf => dn.bad _ (by decide) (LwM.boo_r (by omega))⟩
    have hr' : 1 ≤ r ∧ r ≤ 50 := by omega
    refine ⟨_, rfl, _, rfl, _, rfl, _, rfl, a, s, M, k, kd, l, 1, rfl, st, gs, fun h0 => dn.bad _ (by decide) (LwM.boo_2 hr' h0), fun h0 h1 => dn.bad _ (by decide) (LwM.boo_22 hr' h0 h1),
      fun h0 h1 h2 => dn.bad _ (by decide) (LwM.boo_33 hr' h0 h1 h2), fun h0 h1 h2 D1 H1 s1 r1 => ?_⟩
    have gp := LwM.pol_at gs h0
    have e40 := gs.evn
    have bt := LwM.bd_terms (kd := kd) gs gp h1.2.2
    have b0 := LwM.bigD_pos gs gp (LwM.pros_pro gs)
    have b9 := LwM.bigD_lt gs gp (LwM.pros_pro gs) (LwM.pros_len gs)
    have vf : VarFit (Kp432.terms s (Kp432.policyAt s k) (est kd l)) := fit_terms gs gp h1.2.2
    have ln : (Kp432.terms s (Kp432.policyAt s k) (est kd l)).length = s.events.length := by unfold Kp432.terms; rw [List.length_map]
    have nt : ∀ x ∈ Kp432.terms s (Kp432.policyAt s k) (est kd l), LwM.Nrm x := fun x hx => by
      obtain ⟨e, he, rfl⟩ := List.mem_map.mp hx
      exact LwM.nrm_term (l := l) gs gp (gs.ev e he) h1.2.2 rfl
    have bt' : ∀ x ∈ Kp432.terms s (Kp432.policyAt s k) (est kd l), 0 < x.den ∧ x.den ∣ LwM.bigD s (Kp432.policyAt s k) (LwM.pros s) := fun x hx => ⟨(bt x hx).pos, (bt x hx).dvd⟩
    have st1 := st.same s1
    generalize hts : Kp432.terms s (Kp432.policyAt s k) (est kd l) = ts at r1 vf ln nt bt'
    have B0 : 0 < LwM.botOf ts := LwM.bot_pos b0 fun x hx => (bt' x hx).2
    have B9 : LwM.botOf ts < 2 ^ 650 := Nat.lt_of_le_of_lt (Nat.le_of_dvd b0 (LwM.bot_dvd fun x hx => (bt' x hx).2)) b9
    have n0 : 0 < ts.length := by omega
    have n40 : ts.length ≤ 40 := by omega
    refine ⟨_, rfl, D1, ts, rfl, r1, ⟨_, bt', b0, big_lt b9⟩, ?_⟩
    refine to_name (to_nx (to_seq (to_asg ?_)))
    refine ⟨_, rfl, _, rfl, D1, ts, LwM.botOf ts, rfl, r1, fun x hx => vf.fit.all hx, big_lt B9, by omega, fun D2 H2 s2 h2t => ?_⟩
    refine ⟨_, rfl, _, rfl, D2, ts.map (LwM.topOver (LwM.botOf ts)), r, d, rfl, h2t, by rw [List.length_map]; exact n0, by rw [List.length_map]; omega, by omega, d9, fun D3 H3 s3 h3 => ?_⟩
    refine ⟨D3, _, rfl, SqL.of h3, fun ss D4 pm sorted nD4 => ?_⟩
    have s4 : Same H3 (L2.upd H3 D4 (.lst (ss.map V.int))) := Same.new nD4
    have s14 := ((s1.trans s2).trans s3).trans s4
    rw [List.length_map] at pm
    have boot := LwM.boot_is (k := r) (s := d) B0 (fun x hx => ⟨nt x hx, LwM.den_dvd_bot hx⟩) n0 pm sorted
    have sl : ss.length = r := by
      rw [pm.length_eq]
      unfold LwM.sumsOf
      rw [List.length_map, List.length_range]
    have h4 : (L2.upd H3 D4 (.lst (ss.map V.int))) D4 = some (.lst (ss.map V.int)) := upd_same
    generalize L2.upd H3 D4 (.lst (ss.map V.int)) = H4 at s4 s14 h4
    refine to_name (to_nx (to_seq (to_asg ?_)))
    refine ⟨(by show 1 ≤ sizeLine; decide), fun D nD => to_name (to_nx (to_seq ?_))⟩
    have s5 : Same H4 (L2.upd H4 D (.lst [.int 0])) := Same.new nD
    have ex : [V.int 0, V.int (((r : Int) - 1) / 2), V.int ((r : Int) - 1)] = [0, (r - 1) / 2, r - 1].map nat := by
      have e1 : (r : Int) - 1 = ((r - 1 : Nat) : Int) := by omega
      rw [e1]
      rfl
    refine ⟨_, rfl, _, _, rfl, rfl, _, _, rfl, rfl, wide_div (b := 60) (by decide) (by decide) (by decide) (by decide), _, rfl, _, _, rfl, rfl, (by show 3 ≤ sizeLine; decide), fun t nt => ?_⟩
    have s6 : Same (L2.upd H4 D (.lst [.int 0])) (L2.upd (L2.upd H4 D (.lst [.int 0])) t (.tup [V.int 0, V.int (((r : Int) - 1) / 2), V.int ((r : Int) - 1)])) := Same.new nt
    have htup : (L2.upd (L2.upd H4 D (.lst [.int 0])) t (.tup [V.int 0, V.int (((r : Int) - 1) / 2), V.int ((r : Int) - 1)])) t = some (.tup ([0, (r - 1) / 2, r - 1].map nat)) := by
      rw [upd_same, ex]
    have hD6 : (L2.upd (L2.upd H4 D (.lst [.int 0])) t (.tup [V.int 0, V.int (((r : Int) - 1) / 2), V.int ((r : Int) - 1)])) D = some (.lst ([0].map V.int)) := s6 _ _ upd_same
    generalize L2.upd (L2.upd H4 D (.lst [.int 0])) t (.tup [V.int 0, V.int (((r : Int) - 1) / 2), V.int ((r : Int) - 1)]) = H6 at s6 htup hD6
    have fl : ∀ i, i ≤ 3 → ((0 : Int) :: Kp432.fractionsOf (([0, (r - 1) / 2, r - 1].take i).map fun j => (ss.map (LwM.overB (LwM.botOf ts) ts.length)).getD j (Kp432.ofNat 0))).length ≤ 1000 := fun i hi => by
      have e := LwM.flatMap_len (f := fun x : Fraction => [x.num, (x.den : Int)]) (m := 2) (l := ([0, (r - 1) / 2, r - 1].take i).map fun j => (ss.map (LwM.overB (LwM.botOf ts) ts.length)).getD j (Kp432.ofNat 0)) fun x _ => Nat.le_refl 2
      rw [List.length_map, List.length_take] at e
      rw [List.length_cons]
      unfold Kp432.fractionsOf
      omega
    refine ⟨t, rfl, ⟨_, SqT.of htup⟩, for_tup (K := K) (a := t) (xs := [0, (r - 1) / 2, r - 1].map nat)
      (fun i σ H' => ∃ v : Option V, σ = [some (.ref a), some (nat k), some (nat kd), some (nat l), some (nat r), some (nat d), some (.ref D1), some (nat (LwM.botOf ts)), some (.ref D4), some (.ref D), v] ∧ Same H4 H' ∧ H' t = some (.tup ([0, (r - 1) / 2, r - 1].map nat)) ∧
        H' D = some (.lst (((0 : Int) :: Kp432.fractionsOf (([0, (r - 1) / 2, r - 1].take i).map fun j => (ss.map (LwM.overB (LwM.botOf ts) ts.length)).getD j (Kp432.ofNat 0))).map V.int)))
      ⟨none, rfl, s5.trans s6, htup, hD6⟩ (fun i σ H' _ hw => ?_) ?_ ?_⟩
    · obtain ⟨_, _, _, q, _⟩ := hw
      exact SqT.of q
    · rintro i y σ H7 hi ⟨v, rfl, s7, ht7, hD7⟩
      obtain ⟨j, hj, rfl⟩ : ∃ j, [0, (r - 1) / 2, r - 1][i]? = some j ∧ y = nat j := by
        rw [List.getElem?_map] at hi
        cases e : [0, (r - 1) / 2, r - 1][i]? with
        | none =>
          rw [e] at hi
          cases hi
        | some z =>
          rw [e] at hi
          exact ⟨z, rfl, (Option.some.inj hi).symm⟩
      have jr : j < r := by
        have m := List.mem_of_getElem? hj
        simp only [List.mem_cons, List.not_mem_nil, or_false] at m
        omega
      have i3 : i ≤ 3 := Nat.le_of_lt (List.getElem?_eq_some_iff.mp hj).1
      have hs : ss[j]? = some (ss[j]'(by omega)) := List.getElem?_eq_getElem _
      obtain ⟨ts1, t1, t2, t3⟩ := (RatsAt.same r1 ((s2.trans s3).trans s4)).ex
      refine ⟨_, rfl, .inl ⟨rfl, _, SqL.of hD7⟩, ?_⟩
      refine ⟨_, rfl, _, rfl, D4, _, _, V.int (ss[j]'(by omega)), rfl, rfl, SqL.of (s7 _ _ h4), at_of (j := j) rfl (by rw [List.getElem?_map, hs]; rfl), _, rfl, _, rfl, D1, _, rfl, .inl (SqL.of (s7 _ _ t1)), _, _, rfl, rfl, ?_, ?_⟩
      · rw [List.length_map, t2]
        refine wide_mul (a := 650) (b := 60) (by rw [Int.natAbs_natCast]; exact B9) (by rw [Int.natAbs_natCast]; exact Nat.lt_of_le_of_lt n40 (by decide)) (by decide) (by decide) (by decide)
      · intro m dm nm nd ne
        have e1 : ((LwM.botOf ts : Nat) : Int) * (((ts1.map V.ref).length : Nat) : Int) = ((LwM.botOf ts * ts.length : Nat) : Int) := by rw [List.length_map, t2, Int.natCast_mul]
        refine ⟨m, dm, ss[j]'(by omega), LwM.botOf ts * ts.length, ?_, upd_same, Nat.mul_pos B0 n0, ?_, fun H8 r8 kp => ⟨rfl, ?_⟩⟩
        · rw [← e1]
          rfl
        · have q := Nat.mul_lt_mul'' B9 (Nat.lt_of_le_of_lt n40 (show 40 < 2 ^ 60 by decide))
          rw [← Nat.pow_add] at q
          exact Nat.lt_trans q (Nat.pow_lt_pow_right (by decide) (by decide))
        · have s8 : Same H7 H8 := Same.made nm nd kp
          obtain ⟨d8, h8⟩ := id r8
          refine ⟨m, d8, _, rfl, h8, rat_no _ (by decide +kernel) (by decide +kernel), ?_⟩
          refine ⟨m, _, rfl, r8, fun p2 n2 => ?_⟩
          have s9 : Same H8 (L2.upd H8 p2 (.lst [.int (Kp432.fraction (ss[j]'(by omega)) (LwM.botOf ts * ts.length)).num, .int ((Kp432.fraction (ss[j]'(by omega)) (LwM.botOf ts * ts.length)).den : Int)])) := Same.new n2
          have s79 := s8.trans s9
          refine ⟨D, p2, _, _, rfl, rfl, s79 _ _ hD7, upd_same, room2 (fl i i3), some (nat j), rfl, Same.upd_new (s7.trans s79) nD, ?_, ?_⟩
          · have tD : t ≠ D := fun e => by
              rw [e, hD7] at ht7
              cases ht7
            rw [upd_ne tD]
            exact s79 _ _ ht7
          · have eg : (ss.map (LwM.overB (LwM.botOf ts) ts.length)).getD j (Kp432.ofNat 0) = Kp432.fraction (ss[j]'(by omega)) (LwM.botOf ts * ts.length) := by
              rw [List.getD_eq_getElem?_getD, List.getElem?_map, hs]
              rfl
            have eg2 : ([j].map fun j => (ss.map (LwM.overB (LwM.botOf ts) ts.length)).getD j (Kp432.ofNat 0)) = [Kp432.fraction (ss[j]'(by omega)) (LwM.botOf ts * ts.length)] := congrArg (fun z => [z]) eg
            rw [upd_same, take_snoc hj, List.map_append, eg2]
            unfold Kp432.fractionsOf
            rw [List.flatMap_append]
            simp
    · rintro σ H7 ⟨v, rfl, s7, ht7, hD7⟩
      have s17 := s14.trans s7
      refine ⟨_, rfl, dn.good _ _ _ (by omega) (LwM.boo_ok hr' h0 h1 h2) D H7 M (s14.free nD) ?_ (st.same s17) (Moved.of s17)⟩
      have hts' : Kp432.terms s (Kp432.policyAt s k) ⟨kd, Kp432.fraction (l : Nat) 100⟩ = ts := hts
      rw [hts', boot]
      exact hD7
end
end Lw
end
/-! LwRank -/
section
set_option Elab.async false
set_option linter.all false
set_option maxRecDepth 100000
set_option maxHeartbeats 4000000
/-! ranked lists: what is measured of them -/
namespace Lw
open PySem PySem.Spec PyProof.Rows L2
open Kp432 (Fraction Study Policy)
theorem cut_take (xs : List V) (k : Nat) : cutV xs none (some (k : Int)) = xs.take k := by
  unfold cutV
  rw [HT.sIx_none, HT.sIx_nat, List.drop_zero, Nat.sub_zero]
  by_cases h : k ≤ xs.length
  · rw [Nat.min_eq_left h]
  · rw [Nat.min_eq_right (by omega), List.take_length, List.take_of_length_le (by omega)]
theorem cut_drop (xs : List V) (k : Nat) : cutV xs (some (k : Int)) none = xs.drop k := by
  unfold cutV
  rw [HT.sIx_none, HT.sIx_nat]
  by_cases h : k ≤ xs.length
  · rw [Nat.min_eq_left h, List.take_of_length_le (by rw [List.length_drop]; exact Nat.le_refl _)]
  · rw [Nat.min_eq_right (by omega), List.drop_length, List.drop_eq_nil_of_le (by omega), List.take_nil]
/-- a measure's promise: the list's study is not asked -/
structure DoneR (A : Ad) (H : Hp) (Q : VK) (E : XK) (c : Kp432.Call) : Prop where
  bad : ∀ code : Int, code < 0 → (∀ s, Kp432.step (some s) c = (some s, Kp432.single code)) → Bad A H E code
  good : ∀ (z : Int) (zs : List Int), 0 ≤ z → (∀ s, Kp432.step (some s) c = (some s, ⟨z, zs⟩)) → ∀ (p : Addr) (H' : Hp), H p = none → H' p = some (.lst ((z :: zs).map V.int)) → Same H H' → Q (.ref p) H'
def rankAt (l : List Nat) (i : Nat) : Option Nat := if LwM.isOne l i = true then some (i + 1) else none
theorem ranks_filter (l : List Nat) : ∀ is : List Nat, is.filterMap (rankAt l) = (is.filter (LwM.isOne l)).map (· + 1)
  | [] => rfl
  | i :: is => by
    rw [List.filterMap_cons]
    unfold rankAt
    by_cases h : LwM.isOne l i = true
    · rw [if_pos h, List.filter_cons_of_pos h, List.map_cons]
      exact congrArg _ (ranks_filter l is)
    · rw [if_neg h, List.filter_cons_of_neg h]
      exact ranks_filter l is
/-- what a test lets through -/
def keepIf (g : Nat → Bool) (l : List Nat) (j : Nat) : Option Nat := if g (l.getD j 0) = true then some (l.getD j 0) else none
theorem keep_len (g : Nat → Bool) (l : List Nat) : ((List.range l.length).filterMap (keepIf g l)).length = l.countP g := by
  rw [← LwM.count_range l]
  generalize List.range l.length = is
  induction is with
  | nil => rfl
  | cons i is ih =>
    rw [List.filterMap_cons, List.countP_cons]
    unfold keepIf at ih ⊢
    by_cases c : g (l.getD i 0) = true
    · rw [if_pos c, if_pos c]
      simp only [List.length_cons]
      rw [ih]
    · rw [if_neg c, if_neg c]
      simp only
      rw [ih]
      rfl
theorem keep_turn {g : Nat → Bool} {l : List Nat} {j : Nat} {b : Bool} {X Y : Prop} (e : b = g (l.getD j 0)) (hn : keepIf g l j = none → Y) (hy : keepIf g l j = some (l.getD j 0) → X) : if b = true then X else Y := by
  subst e
  unfold keepIf at hn hy
  by_cases c : g (l.getD j 0) = true
  · rw [if_pos c] at hy ⊢
    exact hy rfl
  · rw [if_neg c] at hn ⊢
    exact hn rfl
theorem lt_cast (m n : Nat) : decide ((m : Int) < (n : Int)) = decide (m < n) := decide_eq_decide.mpr (by omega)
def sp_precision_at (K : PySem.W.Frag) (A : Ad) : Sp := fun vs H Q _ => ∃ (k : Nat) (r : Addr) (l : List Nat), vs = [nat k, .ref r] ∧ NatsAt H r l ∧ 1 ≤ k ∧ k ≤ 12 ∧ (∀ x ∈ l, x ≤ 1) ∧ Gives A H Q (Kp432.precision k l)
def sp_relevant_ranks (K : PySem.W.Frag) (A : Ad) : Sp := fun vs H Q _ => ∃ (r : Addr) (l : List Nat), vs = [.ref r] ∧ NatsAt H r l ∧ l.length ≤ 12 ∧ ∀ D H1, Same H H1 → NatsAt H1 D (LwM.ranksOf l) → Q (.ref D) H1
def sp_reciprocal_rank (K : PySem.W.Frag) (A : Ad) : Sp := fun vs H Q _ => ∃ (r : Addr) (l : List Nat), vs = [.ref r] ∧ NatsAt H r l ∧ (∀ x ∈ l, 1 ≤ x ∧ x ≤ 12) ∧ Gives A H Q (LwM.firstOf l)
def sp_discounted_gain (K : PySem.W.Frag) (A : Ad) : Sp := fun vs H Q _ => ∃ (r : Addr) (l : List Nat), vs = [.ref r] ∧ NatsAt H r l ∧ l.length ≤ 12 ∧ (∀ x ∈ l, x ≤ 100) ∧ Gives A H Q (Kp432.discounted l)
def sp_precision (K : PySem.W.Frag) (A : Ad) : Sp := fun vs H Q E => ∃ (n : Nat) (r : Addr) (l : List Nat), vs = [nat n, .ref r] ∧ NatsAt H r l ∧ DoneR A H Q E (.precision n l)
def sp_rank_measures (K : PySem.W.Frag) (A : Ad) : Sp := fun vs H Q E => ∃ (r : Addr) (l : List Nat), vs = [.ref r] ∧ NatsAt H r l ∧ DoneR A H Q E (.rankMeasures l)
def sp_gain_measures (K : PySem.W.Frag) (A : Ad) : Sp := fun vs H Q E => ∃ (r : Addr) (l : List Nat), vs = [.ref r] ∧ NatsAt H r l ∧ DoneR A H Q E (.gains l)
def sp_order_measure (K : PySem.W.Frag) (A : Ad) : Sp := fun vs H Q E => ∃ (r : Addr) (l : List Nat), vs = [.ref r] ∧ NatsAt H r l ∧ DoneR A H Q E (.orderMeasure l)
theorem f12_lt : LwM.f12 < 2 ^ 60 := by decide
theorem sz_prec {k : Nat} {l : List Nat} (h1 : 1 ≤ k) (h2 : k ≤ 12) : Sz (Kp432.precision k l) := Sz.of (LwM.bd_prec h1 h2) (by decide) (lt60 f12_lt) (lt60 (by decide))
theorem fit_gparts {l : List Nat} (hl : l.length ≤ 12) (h : ∀ x ∈ l, x ≤ 100) : Fit (LwM.gparts l) := ⟨LwM.f12, 100, 12, LwM.bd_gparts hl h, by rw [LwM.gparts_len]; exact hl, by decide, lt60 f12_lt, by decide, lt60 (by decide)⟩
theorem lt9 {n : Nat} (h : n < 2 ^ 60) : n < 2 ^ 9000 := Nat.lt_trans h (Nat.pow_lt_pow_right (by decide) (by decide))
section
variable {P : Program} {w : World} {K : PySem.W.Frag} {mg : Str → Option Value} {base : Heap} {A : Ad}
theorem ok_precision_at (T : Txt K mg A) : FnOk P w K mg base CX0 4 A.f_precision_at A.d_precision_at ["count", "relevance"] (sp_precision_at K A) := by
  refine T.fn_precision_at.ok sc_precision_at (fun vs H Q E h => ?_) (fun cdv Ar outer s H vs Q E hr h => ?_)
  · obtain ⟨k, r, l, rfl, _⟩ := h
    rfl
  · obtain ⟨n, r, l, rfl, hl, n1, n12, h1, k⟩ := h
    refine ⟨_, (pss_one (ps_ret (pe_make T.mk_Ratio (ok_Ratio_init T) (hr.mono (by decide)) rfl T.g_Ratio (bi_Ratio_init T) .nil pass0 (pa_cons (pe_callB (cr_sum (by rfl)) (by rfl) T.n_sum (by decide +kernel) (pa_cons (pe_slice sl_list (pv 1) po_none (po_some (pv 0))) pa_nil)) (pa_cons (pv 0) pa_nil))))), ?_⟩
    have e : cutV (l.map nat) none (some (n : Int)) = ((l.take n).map fun z : Nat => (z : Int)).map V.int := by
      rw [cut_take, ← List.map_take, ints_of]
    refine ⟨_, rfl, _, rfl, n, rfl, r, _, rfl, SqL.of hl, fun p np => ?_⟩
    have s1 : Same H (L2.upd H p (.lst (cutV (l.map nat) none (some (n : Int))))) := Same.new np
    have hp : (L2.upd H p (.lst (cutV (l.map nat) none (some (n : Int))))) p = some (.lst (((l.take n).map fun z : Nat => (z : Int)).map V.int)) := by
      rw [upd_same, e]
    refine ⟨p, _, rfl, SqL.of hp, _, rfl, ?_⟩
    have es : ((l.take n).map fun z : Nat => (z : Int)).sum = ((Kp432.hits (l.take n) : Nat) : Int) := by
      rw [LwM.sum_cast, LwM.hits_sum fun x hx => h1 x (List.mem_of_mem_take hx)]
    rw [es]
    exact mk_rat (d := n) rfl (by omega) (lt9 (Nat.lt_of_le_of_lt n12 (by decide))) fun q H2 s2 r2 => k q H2 (s1.trans s2) r2
theorem ok_relevant_ranks (T : Txt K mg A) : FnOk P w K mg base CX0 1 A.f_relevant_ranks A.d_relevant_ranks ["relevance"] (sp_relevant_ranks K A) := by
  refine T.fn_relevant_ranks.ok sc_relevant_ranks (fun vs H Q E h => ?_) (fun cdv Ar outer s H vs Q E hr h => ?_)
  · obtain ⟨r, l, rfl, _⟩ := h
    rfl
  · obtain ⟨r, l, rfl, hl, l12, k⟩ := h
    refine ⟨_, (pss_one (ps_ret (pe_lc (own := [("rank", 1), ("number", 2)]) (g := gTup K 2 (gCons (gName 1) (gCons (gName 2) gNil))) (tt := (tTest (tOp rEq (tVar 2) (tC (.int 1))))) (te := (tVar 1)) (by rfl) sc_relevant_ranks.nd (pi_from (k := 1) (by rfl) T.n_enumerate (pa_cons (pv 0) pa_nil) pe_int (by decide) (by decide)) (blkOk_by (own := [("rank", 1), ("number", 2)]) (N := ["relevance", "rank", "number"]) (sc := defScope s_relevant_ranks) (by decide +kernel)) (fun _ _ _ _ _ => pg_tup rfl (pgs_cons (pg_name (i := 1) sc_relevant_ranks.nd rfl (Or.inl rfl)) (pgs_cons (pg_name (i := 2) sc_relevant_ranks.nd rfl (Or.inl rfl)) pgs_nil))) (fun _ _ _ _ _ => (pts_one (pt_cmpR op_eq (pv 2) pe_int (nomark _)))) (fun _ _ _ _ _ => (pv 1))))), ?_⟩
    refine to_ret ?_
    refine comp_some (walk_from (K := K) (k := 1) (a := r) (ys := l.map nat)) (stays_val (f := nat)) (rankAt l) (by rw [List.length_map]; omega) (fun H4 s4 => SqL.of (s4 _ _ hl)) (fun Z hZ => ⟨_, rfl, r, _, rfl, SqL.of hl, hZ⟩) ?_ ?_
    · rintro j x H4 H5 Dn hj s4 ⟨acc, hDn⟩ ⟨t, u, z, rfl, nT, rfl, eu, ez⟩ R0 R hn hy
      cases Option.some.inj eu
      rw [List.length_map] at hj
      have ez : (l.map nat)[j]? = some z := ez
      rw [nat_at hj] at ez
      cases Option.some.inj ez
      have nTs : Same H4 (L2.upd H4 t (.tup [.int (1 + (j : Int)), nat (l.getD j 0)])) := Same.new nT
      refine ⟨t, _, rfl, SqT.of upd_same, rfl, _, _, rfl, _, _, rfl, rfl, rfl, ?_⟩
      refine ⟨_, rfl, rfl, _, rfl, ?_⟩
      have e : decide (nat (l.getD j 0) = V.int 1) = LwM.isOne l j := nat_beq (n := 1)
      rw [e]
      by_cases c : LwM.isOne l j = true
      · rw [c]
        refine iteT ⟨_, rfl, hy (j + 1) (if_pos c) _ _ nTs (congrArg V.int (by omega)) (fun z => nomatch z)⟩
      · have c' := c
        rw [Bool.not_eq_true] at c'
        rw [c']
        exact iteF (hn (if_neg c) _ nTs)
    · intro D H1 nD s1 hD
      have h1 := hD.vals
      rw [List.length_map, ranks_filter] at h1
      exact k D H1 s1 h1
theorem ok_reciprocal_rank (T : Txt K mg A) : FnOk P w K mg base CX0 5 A.f_reciprocal_rank A.d_reciprocal_rank ["ranks"] (sp_reciprocal_rank K A) := by
  refine T.fn_reciprocal_rank.ok sc_reciprocal_rank (fun vs H Q E h => ?_) (fun cdv Ar outer s H vs Q E hr h => ?_)
  · obtain ⟨r, l, rfl, _⟩ := h
    rfl
  · obtain ⟨r, l, rfl, hl, hb, k⟩ := h
    refine ⟨_, (pss_cons (ps_if (pt_cmpR op_eq (pe_callB call_len_seq (by rfl) T.n_len PySem.boot_len (pa_cons (pv 0) pa_nil)) pe_int (nomark _)) (pss_one (ps_ret (pe_call (ok_whole T) (hr.mono (by decide)) rfl T.g_whole T.fn_whole.kp (bi_whole T) .nil pass0 (pa_cons pe_int pa_nil)))) pss_nil)
        (pss_one (ps_ret (pe_make T.mk_Ratio (ok_Ratio_init T) (hr.mono (by decide)) rfl T.g_Ratio (bi_Ratio_init T) .nil pass0 (pa_cons pe_int (pa_cons (pe_ix ix_list (pv 0) pe_int (fun _ _ => rfl)) pa_nil)))))), ?_⟩
    refine ⟨_, rfl, r, _, rfl, .inl (SqL.of hl), rfl, _, rfl, ?_⟩
    cases l with
    | nil => exact iteT ⟨0, rfl, k⟩
    | cons x l =>
      have e : decide (V.int (((x :: l).map nat).length : Int) = V.int 0) = false := decide_eq_false (by
        intro q
        injection q with q
        rw [List.length_map, List.length_cons] at q
        omega)
      obtain ⟨x1, x12⟩ := hb x List.mem_cons_self
      refine (congrArg (fun b => ite (b = true) _ _) e).mpr (iteF ⟨_, rfl, r, _, 0, nat x, rfl, rfl, SqL.of hl, at_of (j := 0) rfl rfl, ?_⟩)
      exact mk_rat (d := x) rfl (by omega) (lt9 (Nat.lt_of_le_of_lt x12 (by decide))) k
theorem ok_discounted_gain (T : Txt K mg A) : FnOk P w K mg base CX0 6 A.f_discounted_gain A.d_discounted_gain ["gains"] (sp_discounted_gain K A) := by
  refine T.fn_discounted_gain.ok sc_discounted_gain (fun vs H Q E h => ?_) (fun cdv Ar outer s H vs Q E hr h => ?_)
  · obtain ⟨r, l, rfl, _⟩ := h
    rfl
  · obtain ⟨r, l, rfl, hl, l12, hb, k⟩ := h
    refine ⟨_, (pss_one (ps_ret (pe_call (ok_total T) (hr.mono (by decide)) rfl T.g_total T.fn_total.kp (bi_total T) .nil pass0 (pa_cons (pe_lc (own := [("rank", 1), ("gain", 2)]) (g := gTup K 2 (gCons (gName 1) (gCons (gName 2) gNil))) (tt := tYes) (te := (tMake A.c_Ratio (sp_Ratio_init K A) [] E0 (tCons (tVar 2) (tCons (tVar 1) tNil)))) (by rfl) sc_discounted_gain.nd (pi_from (k := 1) (by rfl) T.n_enumerate (pa_cons (pv 0) pa_nil) pe_int (by decide) (by decide)) (blkOk_by (own := [("rank", 1), ("gain", 2)]) (N := ["gains", "rank", "gain"]) (sc := defScope s_discounted_gain) (by decide +kernel)) (fun _ _ _ _ _ => pg_tup rfl (pgs_cons (pg_name (i := 1) sc_discounted_gain.nd rfl (Or.inl rfl)) (pgs_cons (pg_name (i := 2) sc_discounted_gain.nd rfl (Or.inl rfl)) pgs_nil))) (fun _ _ _ _ _ => pts_nil) (fun _ _ _ _ _ => (pe_make T.mk_Ratio (ok_Ratio_init T) (hr.mono (by decide)) rfl T.g_Ratio (bi_Ratio_init T) .nil pass0 (pa_cons (pv 2) (pa_cons (pv 1) pa_nil))))) pa_nil)))), ?_⟩
    refine to_ret (to_call (to_cons ?_))
    refine comp_of (walk_from (K := K) (k := 1) (a := r) (ys := l.map nat)) (stays_rat (A := A)) (LwM.gparts l) (by rw [LwM.gparts_len, List.length_map]) (by rw [List.length_map]; omega) (fun H4 s4 => SqL.of (s4 _ _ hl)) (fun Z hZ => ⟨_, rfl, r, _, rfl, SqL.of hl, hZ⟩) ?_ ?_
    · rintro j y x H4 H5 Dn hy s4 ⟨acc, hDn⟩ ⟨t, u, z, rfl, nT, rfl, eu, ez⟩ Z hZ
      cases Option.some.inj eu
      have hj : j < l.length := by
        have := (List.getElem?_eq_some_iff.mp hy).1
        rwa [LwM.gparts_len] at this
      have ez : (l.map nat)[j]? = some z := ez
      rw [nat_at hj] at ez
      cases Option.some.inj ez
      have hyy : y = Kp432.fraction (l.getD j 0 : Nat) (j + 1) := by
        unfold LwM.gparts at hy
        rw [List.getElem?_map, List.getElem?_range hj] at hy
        exact (Option.some.inj hy).symm
      subst hyy
      have nTs : Same H4 (L2.upd H4 t (.tup [.int (1 + (j : Int)), nat (l.getD j 0)])) := Same.new nT
      refine ⟨t, _, rfl, SqT.of upd_same, rfl, _, _, rfl, _, _, rfl, rfl, rfl, ?_⟩
      refine ⟨_, rfl, _, rfl, ?_⟩
      exact mk_rat (d := j + 1) (by omega) (by omega) (lt9 (Nat.lt_of_le_of_lt (show j + 1 ≤ 12 by omega) (by decide))) fun q H6 s6 r6 => hZ _ _ (nTs.trans s6) ⟨q, rfl, r6⟩ (rat_ne r6 ((nTs.trans s6) _ _ hDn))
    · intro D H1 nD s1 hD
      exact ⟨D, _, rfl, hD.refs, fit_gparts l12 hb, fun q H2 s2 r2 => k q H2 (s1.trans s2) r2⟩
theorem ok_precision (T : Txt K mg A) : FnOk P w K mg base (L2.CX P w) 7 A.f_precision A.d_precision ["count", "relevance"] (sp_precision K A) := by
  refine T.fn_precision.okX sc_precision (fun vs H Q E h => ?_) (fun cdv Ar outer s H vs Q E hr h => ?_)
  · obtain ⟨n, r, l, rfl, _⟩ := h
    rfl
  · obtain ⟨n, r, l, rfl, hl, dn⟩ := h
    obtain ⟨t_MOST_RANKS, k_MOST_RANKS⟩ := T.k_MOST_RANKS
    refine ⟨_, (pss_cons (ps_expr (pe_call (ok_check_range T) (hr.mono (by decide)) rfl T.g_check_range T.fn_check_range.kp (bi_check_range T) .nil (passes_call (takes_of rfl rfl rfl rfl) (fun _ _ _ _ h => h)) (pa_cons (pv 0) (pa_cons pe_int (pa_cons (pe_glob (v := .int 12) rfl k_MOST_RANKS ⟨_, rfl⟩) pa_nil)))))
        (pss_cons (ps_expr (pe_call (ok_check_relevance T) (hr.mono (by decide)) rfl T.g_check_relevance T.fn_check_relevance.kp (bi_check_relevance T) .nil (passes_call (takes_of rfl rfl rfl rfl) (fun _ _ _ _ h => h)) (pa_cons (pv 1) pa_nil)))
        (pss_one (ps_ret (pe_op op_cat (pe_lst (pa_cons pe_int pa_nil)) (pe_meth0 (pe_call (ok_precision_at T) (hr.mono (by decide)) rfl T.g_precision_at T.fn_precision_at.kp (bi_precision_at T) .nil pass0 (pa_cons (pv 0) (pa_cons (pv 1) pa_nil))) T.cl_Ratio T.me_Ratio_pair (ok_Ratio_pair T) (hr.mono (by decide)) (bi_Ratio_pair T) .nil pass0)))))), ?_⟩
    refine ⟨_, rfl, _, _, _, rfl, fun hn => ?_, fun hn => dn.bad _ (by decide) fun s => LwM.prc_22 fun z => hn (by omega)⟩
    have hn' : 1 ≤ n ∧ n ≤ 12 := by omega
    refine ⟨_, rfl, r, l, rfl, hl, fun ho => ?_, fun ho => dn.bad _ (by decide) fun s => LwM.prc_22 fun z => ho z.2⟩
    refine ⟨(by show 1 ≤ sizeLine; decide), fun p1 n1 => ?_⟩
    have s1 : Same H (L2.upd H p1 (.lst [.int 0])) := Same.new n1
    refine ⟨_, rfl, _, rfl, n, r, l, rfl, hl.same s1, hn'.1, hn'.2, ho.2.2, fun q H2 s2 r2 => ?_⟩
    obtain ⟨dq, hq⟩ := id r2
    refine ⟨q, dq, _, rfl, hq, rat_no _ (by decide +kernel) (by decide +kernel), ?_⟩
    refine cat_pair (K := K) (E := E0) (s2 _ _ upd_same) r2 fun p H3 n3 s3 hp3 => ?_
    have s12 := s1.trans s2
    exact dn.good _ _ (by decide) (fun s => LwM.prc_ok ⟨hn', ho⟩) p H3 (s12.free n3) hp3 (s12.trans s3)
theorem ok_rank_measures (T : Txt K mg A) : FnOk P w K mg base (L2.CX P w) 7 A.f_rank_measures A.d_rank_measures ["relevance"] (sp_rank_measures K A) := by
  refine T.fn_rank_measures.okX sc_rank_measures (fun vs H Q E h => ?_) (fun cdv Ar outer s H vs Q E hr h => ?_)
  · obtain ⟨r, l, rfl, _⟩ := h
    rfl
  · obtain ⟨r, l, rfl, hl, dn⟩ := h
    refine ⟨_, (pss_cons (ps_expr (pe_call (ok_check_relevance T) (hr.mono (by decide)) rfl T.g_check_relevance T.fn_check_relevance.kp (bi_check_relevance T) .nil (passes_call (takes_of rfl rfl rfl rfl) (fun _ _ _ _ h => h)) (pa_cons (pv 0) pa_nil)))
        (pss_cons (ps_set (i := 1) sc_rank_measures.nd rfl (Or.inl rfl) (pe_call (ok_relevant_ranks T) (hr.mono (by decide)) rfl T.g_relevant_ranks T.fn_relevant_ranks.kp (bi_relevant_ranks T) .nil pass0 (pa_cons (pv 0) pa_nil)))
        (pss_cons (ps_set (i := 2) sc_rank_measures.nd rfl (Or.inl rfl) (pe_call (ok_mean T) (hr.mono (by decide)) rfl T.g_mean T.fn_mean.kp (bi_mean T) .nil pass0 (pa_cons (pe_lc (own := [("rank", 3)]) (g := gName 3) (tt := tYes) (te := (tCall (sp_precision_at K A) [] E0 (tCons (tVar 3) (tCons (tVar 0) tNil)))) (by rfl) sc_rank_measures.nd (pi_list (pv 1)) (blkOk_by (own := [("rank", 3)]) (N := ["relevance", "ranks", "average", "rank"]) (sc := defScope s_rank_measures) (by decide +kernel)) (fun _ _ _ _ _ => pg_name (i := 3) sc_rank_measures.nd rfl (Or.inl rfl)) (fun _ _ _ _ _ => pts_nil) (fun _ _ _ _ _ => (pe_call (ok_precision_at T) (hr.mono (by decide)) rfl T.g_precision_at T.fn_precision_at.kp (bi_precision_at T) .nil pass0 (pa_cons (pv 3) (pa_cons (pv 0) pa_nil))))) pa_nil)))
        (pss_one (ps_ret (pe_op op_cat (pe_op op_cat (pe_lst (pa_cons (pe_callB call_len_seq (by rfl) T.n_len PySem.boot_len (pa_cons (pv 1) pa_nil)) pa_nil)) (pe_meth0 (pv 2) T.cl_Ratio T.me_Ratio_pair (ok_Ratio_pair T) (hr.mono (by decide)) (bi_Ratio_pair T) .nil pass0)) (pe_meth0 (pe_call (ok_reciprocal_rank T) (hr.mono (by decide)) rfl T.g_reciprocal_rank T.fn_reciprocal_rank.kp (bi_reciprocal_rank T) .nil pass0 (pa_cons (pv 1) pa_nil)) T.cl_Ratio T.me_Ratio_pair (ok_Ratio_pair T) (hr.mono (by decide)) (bi_Ratio_pair T) .nil pass0))))))), ?_⟩
    refine ⟨_, rfl, r, l, rfl, hl, fun ho => ?_, fun ho => dn.bad _ (by decide) fun s => LwM.rnk_22 ho⟩
    obtain ⟨l1, l12, ob⟩ := ho
    refine ⟨_, rfl, r, l, rfl, hl, l12, fun D1 H1 s1 h1 => ?_⟩
    have rm : ∀ x ∈ LwM.ranksOf l, 1 ≤ x ∧ x ≤ 12 := fun x hx => by
      have := LwM.ranks_mem hx
      omega
    have rl : (LwM.ranksOf l).length ≤ 12 := by
      rw [LwM.ranks_len ob]
      exact Nat.le_trans (LwM.hits_len l) l12
    refine to_name (to_nx (to_seq (to_asg (to_call (to_cons ?_)))))
    refine comp_of (walk_list (K := K) (a := D1) (xs := (LwM.ranksOf l).map nat)) (stays_rat (A := A)) ((LwM.ranksOf l).map fun x => Kp432.precision x l) (by rw [List.length_map, List.length_map]) (by rw [List.length_map]; omega) (fun H4 s4 => SqL.of (s4 _ _ h1)) (fun Z hZ => ⟨_, rfl, D1, rfl, ⟨_, SqL.of h1⟩, hZ⟩) ?_ ?_
    · rintro j y x H4 H5 Dn hy s4 ⟨acc, hDn⟩ ⟨rfl, hx⟩ Z hZ
      obtain ⟨z, hz, rfl⟩ : ∃ z, (LwM.ranksOf l)[j]? = some z ∧ x = nat z := by
        rw [List.getElem?_map] at hx
        cases e : (LwM.ranksOf l)[j]? with
        | none =>
          rw [e] at hx
          cases hx
        | some z =>
          rw [e] at hx
          exact ⟨z, rfl, (Option.some.inj hx).symm⟩
      rw [List.getElem?_map, hz] at hy
      cases Option.some.inj hy
      have zm := rm z (List.mem_of_getElem? hz)
      exact ⟨rfl, _, rfl, _, rfl, z, r, l, rfl, hl.same (s1.trans s4), zm.1, zm.2, ob, fun q H6 s6 r6 => hZ _ _ s6 ⟨q, rfl, r6⟩ (rat_ne r6 (s6 _ _ hDn))⟩
    · intro D2 H2 nD2 s2 hD2
      have fp : Fit ((LwM.ranksOf l).map fun x => Kp432.precision x l) := by
        refine ⟨LwM.f12, 1, 12, fun x hx => ?_, by rw [List.length_map]; exact rl, by decide, lt60 f12_lt, by decide, lt60 (by decide)⟩
        obtain ⟨z, hz, rfl⟩ := List.mem_map.mp hx
        exact LwM.bd_prec (rm z hz).1 (rm z hz).2
      refine ⟨D2, _, rfl, hD2.refs, fp, by rw [List.length_map]; omega, fun m H3 s3 r3 => ?_⟩
      rw [← LwM.average_is ob] at r3
      refine to_name (to_nx ?_)
      have h3 := NatsAt.same h1 (s2.trans s3)
      refine ⟨_, rfl, D1, _, rfl, .inl (SqL.of h3), (by show 1 ≤ sizeLine; decide), fun p1 n1 => ?_⟩
      have s4 : Same H3 (L2.upd H3 p1 (.lst [.int (((LwM.ranksOf l).map nat).length : Nat)])) := Same.new n1
      have hp1 : (L2.upd H3 p1 (.lst [.int (((LwM.ranksOf l).map nat).length : Nat)])) p1 = some (.lst ([((Kp432.hits l : Nat) : Int)].map V.int)) := by
        rw [upd_same, List.length_map, LwM.ranks_len ob]
        rfl
      generalize L2.upd H3 p1 (.lst [.int (((LwM.ranksOf l).map nat).length : Nat)]) = H4 at s4 hp1
      have r4 := r3.same s4
      obtain ⟨dm, hm⟩ := id r4
      have s14 := ((s1.trans s2).trans s3).trans s4
      refine ⟨_, rfl, m, dm, _, rfl, hm, rat_no _ (by decide +kernel) (by decide +kernel), ?_⟩
      refine cat_pairL (K := K) (E := E0) hp1 r4 (by show 1 ≤ 1000; decide) fun p6 H6 n6 s6 hp6 => ?_
      refine ⟨_, rfl, D1, _, rfl, NatsAt.same h3 (s4.trans s6), rm, fun v H7 s7 r7 => ?_⟩
      rw [← LwM.recip_is ob] at r7
      obtain ⟨dv, hv⟩ := id r7
      refine ⟨v, dv, _, rfl, hv, rat_no _ (by decide +kernel) (by decide +kernel), ?_⟩
      refine cat_pairL (K := K) (E := E0) (s7 _ _ hp6) r7 (by show 3 ≤ 1000; decide) fun p8 H8 n8 s8 hp8 => ?_
      have s17 := (s14.trans s6).trans s7
      exact dn.good _ _ (by omega) (fun s => LwM.rnk_ok ⟨l1, l12, ob⟩) p8 H8 (s17.free n8) hp8 (s17.trans s8)
theorem ok_gain_measures (T : Txt K mg A) : FnOk P w K mg base (L2.CX P w) 7 A.f_gain_measures A.d_gain_measures ["gains"] (sp_gain_measures K A) := by
  refine T.fn_gain_measures.okX sc_gain_measures (fun vs H Q E h => ?_) (fun cdv Ar outer s H vs Q E hr h => ?_)
  · obtain ⟨r, l, rfl, _⟩ := h
    rfl
  · obtain ⟨r, l, rfl, hl, dn⟩ := h
    refine ⟨_, (pss_cons (ps_expr (pe_call (ok_check_gains T) (hr.mono (by decide)) rfl T.g_check_gains T.fn_check_gains.kp (bi_check_gains T) .nil (passes_call (takes_of rfl rfl rfl rfl) (fun _ _ _ _ h => h)) (pa_cons (pv 0) pa_nil)))
        (pss_cons (ps_set (i := 1) sc_gain_measures.nd rfl (Or.inl rfl) (pe_call (ok_discounted_gain T) (hr.mono (by decide)) rfl T.g_discounted_gain T.fn_discounted_gain.kp (bi_discounted_gain T) .nil pass0 (pa_cons (pv 0) pa_nil)))
        (pss_cons (ps_expr (pe_call (ok_check_positive T) (hr.mono (by decide)) rfl T.g_check_positive T.fn_check_positive.kp (bi_check_positive T) .nil (passes_call (takes_of rfl rfl rfl rfl) (fun _ _ _ _ h => h)) (pa_cons (pv 1) pa_nil)))
        (pss_cons (ps_set (i := 2) sc_gain_measures.nd rfl (Or.inl rfl) (pe_call (ok_discounted_gain T) (hr.mono (by decide)) rfl T.g_discounted_gain T.fn_discounted_gain.kp (bi_discounted_gain T) .nil pass0 (pa_cons (pe_callBK (cr_sortedRev (b := true)) (by rfl) T.n_sorted (by decide +kernel) (pa_cons (pv 0) pa_nil) (pk_cons pe_bl pk_nil)) pa_nil)))
        (pss_one (ps_ret (pe_op op_cat (pe_op op_cat (pe_lst (pa_cons pe_int pa_nil)) (pe_meth0 (pv 1) T.cl_Ratio T.me_Ratio_pair (ok_Ratio_pair T) (hr.mono (by decide)) (bi_Ratio_pair T) .nil pass0)) (pe_meth0 (pe_meth (pv 1) T.cl_Ratio T.me_Ratio_over (ok_Ratio_over T) (hr.mono (by decide)) (bi_Ratio_over T) .nil pass0 (pa_cons (pv 2) pa_nil)) T.cl_Ratio T.me_Ratio_pair (ok_Ratio_pair T) (hr.mono (by decide)) (bi_Ratio_pair T) .nil pass0)))))))), ?_⟩
    refine ⟨_, rfl, r, l, rfl, hl, fun ho => ?_, fun ho => dn.bad _ (by decide) fun s => LwM.gai_22 ho⟩
    obtain ⟨l1, l12, ob⟩ := id ho
    refine ⟨_, rfl, r, l, rfl, hl, l12, ob, fun g H1 s1 r1 => ?_⟩
    refine ⟨_, rfl, g, _, rfl, r1, fun h1 => ?_, fun h1 => (dn.bad _ (by decide) fun s => LwM.gai_33 ho ((LwM.ideal_zero_iff l).mpr (Classical.not_not.mp h1))).same s1⟩
    have hi1 : H1 r = some (.lst ((l.map fun n : Nat => (n : Int)).map V.int)) := by
      rw [← ints_of]
      exact s1 _ _ hl
    refine ⟨_, rfl, r, _, rfl, rfl, SqL.of hi1, fun ns p pm ord np => ?_⟩
    have ens := LwM.down_is pm ord
    have s2 : Same H1 (L2.upd H1 p (.lst (ns.map V.int))) := Same.new np
    have h2 : NatsAt (L2.upd H1 p (.lst (ns.map V.int))) p (LwM.downOf l) := by
      show (L2.upd H1 p (.lst (ns.map V.int))) p = _
      rw [upd_same, ens, ints_of]
    generalize L2.upd H1 p (.lst (ns.map V.int)) = H2 at s2 h2
    have dl : (LwM.downOf l).length ≤ 12 := by rw [LwM.down_len]; exact l12
    have db : ∀ x ∈ LwM.downOf l, x ≤ 100 := fun x hx => ob x (LwM.down_mem.mp hx)
    refine ⟨p, _, rfl, h2, dl, db, fun i H3 s3 r3 => ?_⟩
    refine to_name (to_nx ?_)
    refine ⟨(by show 1 ≤ sizeLine; decide), fun p1 n1 => ?_⟩
    have s4 : Same H3 (L2.upd H3 p1 (.lst [.int 0])) := Same.new n1
    have s14 := ((s1.trans s2).trans s3).trans s4
    have rg := r1.same ((s2.trans s3).trans s4)
    obtain ⟨dg, hg⟩ := id rg
    refine ⟨_, rfl, g, dg, _, rfl, hg, rat_no _ (by decide +kernel) (by decide +kernel), ?_⟩
    refine cat_pairL (K := K) (E := E0) (zs := [0]) upd_same rg (by decide) fun p5 H5 n5 s5 hp5 => ?_
    have rg5 := rg.same s5
    obtain ⟨dg5, hg5⟩ := id rg5
    have ri5 := r3.same (s4.trans s5)
    have bd := LwM.bd_disc l12 ob
    have bi := LwM.bd_disc dl db
    have sd : Sz (Kp432.discounted l) := Sz.of bd (by decide) (lt60 f12_lt) (lt60 (by decide))
    have si : Sz (Kp432.ideal l) := Sz.of bi (by decide) (lt60 f12_lt) (lt60 (by decide))
    have ni : ¬ (Kp432.ideal l).num = 0 := fun z => h1 ((LwM.ideal_zero_iff l).mp z)
    have nn : 0 ≤ (Kp432.ideal l).num := LwM.disc_nn _
    have np : 0 < (Kp432.ideal l).num := by omega
    have big : (Kp432.ideal l).num.natAbs < 2 ^ 4500 := by
      have a := LwM.num_le bi (by decide)
      exact lt60 (Nat.lt_of_le_of_lt a (by decide))
    refine ⟨_, rfl, g, dg5, _, rfl, hg5, rat_no _ (by decide +kernel) (by decide +kernel), _, rfl, g, i, _, _, rfl, rg5, ri5, sd, si, np, big, fun v H6 s6 r6 => ?_⟩
    obtain ⟨dv, hv⟩ := id r6
    refine ⟨v, dv, _, rfl, hv, rat_no _ (by decide +kernel) (by decide +kernel), ?_⟩
    refine cat_pairL (K := K) (E := E0) (s6 _ _ hp5) r6 (by show 3 ≤ 1000; decide) fun p7 H7 n7 s7 hp7 => ?_
    have s16 := (s14.trans s5).trans s6
    exact dn.good _ _ (by decide) (fun s => LwM.gai_ok ho ni) p7 H7 (s16.free n7) hp7 (s16.trans s7)
theorem ok_order_measure (T : Txt K mg A) : FnOk P w K mg base (L2.CX P w) 7 A.f_order_measure A.d_order_measure ["ranks"] (sp_order_measure K A) := by
  refine T.fn_order_measure.okX sc_order_measure (fun vs H Q E h => ?_) (fun cdv Ar outer s H vs Q E hr h => ?_)
  · obtain ⟨r, l, rfl, _⟩ := h
    rfl
  · obtain ⟨r, l, rfl, hl, dn⟩ := h
    refine ⟨_, (pss_cons (ps_expr (pe_call (ok_check_ranks T) (hr.mono (by decide)) rfl T.g_check_ranks T.fn_check_ranks.kp (bi_check_ranks T) .nil (passes_call (takes_of rfl rfl rfl rfl) (fun _ _ _ _ h => h)) (pa_cons (pv 0) pa_nil)))
        (pss_cons (ps_set (i := 1) sc_order_measure.nd rfl (Or.inl rfl) pe_int)
        (pss_cons (ps_set (i := 2) sc_order_measure.nd rfl (Or.inl rfl) pe_int)
        (pss_cons (ps_for (passes_of rfl) rfl (pi_enum (by rfl) T.n_enumerate (pa_cons (pv 0) pa_nil)) (pg_tup rfl (pgs_cons (pg_name (i := 3) sc_order_measure.nd rfl (Or.inl rfl)) (pgs_cons (pg_name (i := 4) sc_order_measure.nd rfl (Or.inr rfl)) pgs_nil))) (pss_cons (ps_set (i := 5) sc_order_measure.nd rfl (Or.inl rfl) (pe_slice sl_list (pv 0) (po_some (pe_op op_add (pv 3) pe_int)) po_none))
          (pss_cons (ps_aug (i := 1) sc_order_measure.nd rfl (Or.inl rfl) (pe_callB call_len_seq (by rfl) T.n_len PySem.boot_len (pa_cons (pe_lc (own := [("second", 7)]) (g := gName 7) (tt := (tTest (tOp (rI0 fun i j => .bl (decide (i < j))) (tVar 4) (tVar 7)))) (te := (tVar 7)) (by rfl) sc_order_measure.nd (pi_list (pv 5)) (blkOk_by (own := [("second", 7)]) (N := ["ranks", "increasing", "decreasing", "place", "first", "later", "pairs", "second"]) (sc := defScope s_order_measure) (by decide +kernel)) (fun _ _ _ _ _ => pg_name (i := 7) sc_order_measure.nd rfl (Or.inl rfl)) (fun _ _ _ _ _ => (pts_one (pt_cmpR op_lt (pv 4) (pv 7) (nomark _)))) (fun _ _ _ _ _ => (pv 7))) pa_nil)) ip_add)
          (pss_one (ps_aug (i := 2) sc_order_measure.nd rfl (Or.inl rfl) (pe_callB call_len_seq (by rfl) T.n_len PySem.boot_len (pa_cons (pe_lc (own := [("second", 7)]) (g := gName 7) (tt := (tTest (tOp (rI0 fun i j => .bl (decide (j < i))) (tVar 4) (tVar 7)))) (te := (tVar 7)) (by rfl) sc_order_measure.nd (pi_list (pv 5)) (blkOk_by (own := [("second", 7)]) (N := ["ranks", "increasing", "decreasing", "place", "first", "later", "pairs", "second"]) (sc := defScope s_order_measure) (by decide +kernel)) (fun _ _ _ _ _ => pg_name (i := 7) sc_order_measure.nd rfl (Or.inl rfl)) (fun _ _ _ _ _ => (pts_one (pt_cmpR op_gt (pv 4) (pv 7) (nomark _)))) (fun _ _ _ _ _ => (pv 7))) pa_nil)) ip_add)))))
        (pss_cons (ps_set (i := 6) sc_order_measure.nd rfl (Or.inl rfl) (pe_op op_fdivW (pe_op op_mulW (pe_callB call_len_seq (by rfl) T.n_len PySem.boot_len (pa_cons (pv 0) pa_nil)) (pe_op op_sub (pe_callB call_len_seq (by rfl) T.n_len PySem.boot_len (pa_cons (pv 0) pa_nil)) pe_int)) pe_int))
        (pss_one (ps_ret (pe_op op_cat (pe_lst (pa_cons (pv 1) (pa_cons (pv 2) pa_nil))) (pe_meth0 (pe_make T.mk_Ratio (ok_Ratio_init T) (hr.mono (by decide)) rfl T.g_Ratio (bi_Ratio_init T) .nil pass0 (pa_cons (pe_op op_sub (pv 1) (pv 2)) (pa_cons (pv 6) pa_nil))) T.cl_Ratio T.me_Ratio_pair (ok_Ratio_pair T) (hr.mono (by decide)) (bi_Ratio_pair T) .nil pass0))))))))), ?_⟩
    refine ⟨_, rfl, r, l, rfl, hl, fun ho => ?_, fun ho => dn.bad _ (by decide) fun s => LwM.ord_22 ho⟩
    obtain ⟨l1, l12, ob⟩ := id ho
    refine to_nx (to_seq (to_asg (to_name (to_nx (to_seq (to_asg (to_name (to_nx (to_seq ?_)))))))))
    refine ⟨_, rfl, r, _, rfl, SqL.of hl, for_it (walk_enum (K := K) (a := r) (xs := l.map nat)) (fun i σ H' => ∃ v3 v4 v5 v6 v7 : Option V, σ = [some (.ref r), some (nat ((List.range i).map (LwM.upAt l)).sum), some (nat ((List.range i).map (LwM.downAt l)).sum), v3, v4, v5, v6, v7] ∧ Same H H')
      ⟨none, none, none, none, none, rfl, Same.refl H⟩ (fun i σ H' _ hw => ?_) ?_ ?_⟩
    · obtain ⟨_, _, _, _, _, _, s1⟩ := hw
      exact SqL.of (s1 _ _ hl)
    · rintro i x σ H1 H2 hi ⟨v3, v4, v5, v6, v7, rfl, s1⟩ ⟨t, u, z, rfl, nT, rfl, eu, ez⟩
      cases Option.some.inj eu
      rw [List.length_map] at hi
      have ez : (l.map nat)[i]? = some z := ez
      rw [nat_at hi] at ez
      cases Option.some.inj ez
      have nTs : Same H1 (L2.upd H1 t (.tup [.int (i : Nat), nat (l.getD i 0)])) := Same.new nT
      refine ⟨t, _, rfl, SqT.of upd_same, rfl, _, _, rfl, _, _, rfl, rfl, ?_⟩
      have hl2 := (s1.trans nTs) _ _ hl
      generalize L2.upd H1 t (.tup [.int (i : Nat), nat (l.getD i 0)]) = H2 at nTs hl2
      refine to_seq (to_asg ?_)
      refine ⟨_, rfl, _, rfl, _, _, rfl, rfl, _, rfl, r, _, rfl, SqL.of hl2, fun p np => ?_⟩
      have ec : cutV (l.map nat) (some ((i : Int) + 1)) none = (l.drop (i + 1)).map nat := by
        have e := cut_drop (l.map nat) (i + 1)
        rw [← List.map_drop] at e
        exact e
      rw [ec]
      have s3 : Same H2 (L2.upd H2 p (.lst ((l.drop (i + 1)).map nat))) := Same.new np
      have hp : NatsAt (L2.upd H2 p (.lst ((l.drop (i + 1)).map nat))) p (l.drop (i + 1)) := upd_same
      generalize L2.upd H2 p (.lst ((l.drop (i + 1)).map nat)) = H3 at s3 hp
      have dl : (l.drop (i + 1)).length ≤ 12 := by
        rw [List.length_drop]
        omega
      refine to_name (to_nx (to_seq ?_))
      have e1 : ∀ (f : Nat → Nat), ((List.range (i + 1)).map f).sum = ((List.range i).map f).sum + f i := fun f => by
        rw [List.range_succ, List.map_append, List.sum_append]
        simp
      refine ⟨_, rfl, to_cb (to_cons ?_)⟩
      refine comp_some (walk_list (K := K) (a := p) (xs := (l.drop (i + 1)).map nat)) (stays_val (f := nat)) (keepIf (fun x => decide (l.getD i 0 < x)) (l.drop (i + 1))) (by rw [List.length_map]; omega) (fun H4 s4 => SqL.of (s4 _ _ hp)) (fun Z hZ => ⟨_, rfl, p, rfl, ⟨_, SqL.of hp⟩, hZ⟩) ?_ ?_
      · rintro j x H4 H5 Dn hj s4 ⟨acc, hDn⟩ ⟨rfl, hx⟩ R0 R hn hy
        rw [List.length_map] at hj
        rw [nat_at hj] at hx
        cases Option.some.inj hx
        refine ⟨rfl, _, rfl, _, rfl, _, _, rfl, rfl, _, rfl, ?_⟩
        exact keep_turn (g := fun y => decide (l.getD i 0 < y)) (lt_cast _ _) (fun e => hn e _ (Same.refl _)) fun e => ⟨_, rfl, hy _ e _ _ (Same.refl _) rfl (fun z => nomatch z)⟩
      · intro D H4 nD s4 hD
        have h4 := hD.vals
        rw [List.length_map] at h4
        refine ⟨D, _, rfl, .inl (SqL.of h4), _, _, rfl, rfl, ?_⟩
        have hp4 := s4 _ _ hp
        refine to_nx ⟨_, rfl, to_cb (to_cons ?_)⟩
        refine comp_some (walk_list (K := K) (a := p) (xs := (l.drop (i + 1)).map nat)) (stays_val (f := nat)) (keepIf (fun x => decide (x < l.getD i 0)) (l.drop (i + 1))) (by rw [List.length_map]; omega) (fun H5 s5 => SqL.of (s5 _ _ hp4)) (fun Z hZ => ⟨_, rfl, p, rfl, ⟨_, SqL.of hp4⟩, hZ⟩) ?_ ?_
        · rintro j x H5 H6 Dn hj s5 ⟨acc, hDn⟩ ⟨rfl, hx⟩ R0 R hn hy
          rw [List.length_map] at hj
          rw [nat_at hj] at hx
          cases Option.some.inj hx
          refine ⟨rfl, _, rfl, _, rfl, _, _, rfl, rfl, _, rfl, ?_⟩
          exact keep_turn (g := fun y => decide (y < l.getD i 0)) (lt_cast _ _) (fun e => hn e _ (Same.refl _)) fun e => ⟨_, rfl, hy _ e _ _ (Same.refl _) rfl (fun z => nomatch z)⟩
        · intro D2 H5 nD2 s5 hD2
          have h5 := hD2.vals
          rw [List.length_map] at h5
          refine ⟨D2, _, rfl, .inl (SqL.of h5), _, _, rfl, rfl, ?_⟩
          refine ⟨some (nat i), some (nat (l.getD i 0)), some (.ref p), v6, v7, ?_, ((s1.trans nTs).trans s3).trans (s4.trans s5)⟩
          rw [e1, e1, List.length_map, List.length_map, keep_len, keep_len]
          unfold LwM.upAt LwM.downAt
          rfl
    · rintro σ H1 ⟨v3, v4, v5, v6, v7, rfl, s1⟩
      rw [List.length_map, ← LwM.conc_is, ← LwM.disc_pairs_is]
      have hl1 := s1 _ _ hl
      have n60 : l.length < 2 ^ 60 := Nat.lt_of_le_of_lt l12 (by decide)
      refine to_nx (to_seq (to_asg ?_))
      refine ⟨_, rfl, r, _, rfl, .inl (SqL.of hl1), _, rfl, r, _, rfl, .inl (SqL.of hl1), _, _, rfl, rfl, _, _, rfl, rfl, ?_, _, _, rfl, rfl, wide_div (b := 60) (by decide) (by decide) (by decide) (by decide), to_name (to_nx ?_)⟩
      · rw [List.length_map]
        exact wide_mul (a := 60) (b := 60) (by rw [Int.natAbs_natCast]; exact n60) (by omega) (by decide) (by decide) (by decide)
      have ep : (((l.map nat).length : Nat) : Int) * ((((l.map nat).length : Nat) : Int) - 1) / 2 = (((Kp432.pairsOf l.length).length : Nat) : Int) := by
        rw [List.length_map, LwM.pairs_len]
        have e1 : (l.length : Int) - 1 = ((l.length - 1 : Nat) : Int) := by omega
        rw [e1]
        rfl
      have pp : 0 < (Kp432.pairsOf l.length).length := by
        rw [LwM.pairs_len]
        have := Nat.mul_le_mul l1 (show 1 ≤ l.length - 1 by omega)
        omega
      have p12 : (Kp432.pairsOf l.length).length < 2 ^ 60 := by
        rw [LwM.pairs_len]
        have := Nat.mul_le_mul l12 (show l.length - 1 ≤ 12 by omega)
        have : l.length * (l.length - 1) / 2 ≤ 144 := by omega
        exact Nat.lt_of_le_of_lt this (by decide)
      have epv : (fun i j : Int => V.int (i / j)) ((((l.map nat).length : Nat) : Int) * ((((l.map nat).length : Nat) : Int) - 1)) 2 = V.int (((Kp432.pairsOf l.length).length : Nat) : Int) := congrArg V.int ep
      rw [epv]
      generalize hpl : (Kp432.pairsOf l.length).length = pl at pp p12
      refine ⟨_, rfl, _, rfl, (by show 2 ≤ sizeLine; decide), fun p1 n1 => ?_⟩
      have s2 : Same H1 (L2.upd H1 p1 (.lst [nat (Kp432.concordant l), nat (Kp432.discordant l)])) := Same.new n1
      refine ⟨_, rfl, _, rfl, _, _, rfl, rfl, _, rfl, ?_⟩
      intro m dm nm nd ne
      refine ⟨m, dm, _, pl, rfl, upd_same, pp, lt9 p12, fun H8 r8 kp => ⟨rfl, ?_⟩⟩
      have s8 := Same.made nm nd kp
      obtain ⟨d8, h8⟩ := id r8
      refine ⟨m, d8, _, rfl, h8, rat_no _ (by decide +kernel) (by decide +kernel), ?_⟩
      refine cat_pairL (K := K) (E := E0) (zs := [((Kp432.concordant l : Nat) : Int), ((Kp432.discordant l : Nat) : Int)]) (s8 _ _ upd_same) r8 (by show 2 ≤ 1000; decide) fun p9 H9 n9 s9 hp9 => ?_
      have s18 := (s1.trans s2).trans s8
      refine dn.good _ _ (Int.natCast_nonneg _) (fun s => LwM.ord_ok ho) p9 H9 (s18.free n9) ?_ (s18.trans s9)
      rw [hpl]
      exact hp9
end
end Lw
end
/-! LwTrue -/
section
set_option Elab.async false
set_option linter.all false
set_option maxRecDepth 100000
set_option maxHeartbeats 4000000
/-! the calls that ask what holds under the assumed truth -/
namespace Lw
open PySem PySem.Spec PyProof.Rows L2
open Kp432 (Fraction Study Policy)
/-- the truth's row of a context -/
theorem StAt.trow {A : Ad} {H : Hp} {a : Addr} {s : Study} {M : List Addr} (h : StAt A H a s M) {c : Nat} (hc : c < s.truth.length) :
    ∃ ev po mo tw tr dx, H a = some (.ins A.c_Study dx (stF s ev po mo tw tr)) ∧ ∃ (vs : List V) (r : Addr), H tr = some (.lst vs) ∧ vs[c]? = some (.ref r) ∧ NatsAt H r (s.truth.getD c []) := by
  obtain ⟨ev, po, mo, tw, tr, dx, o, _, _, _, _, ht⟩ := h.get
  obtain ⟨rs, h1, h2, h3, _⟩ := ht.ex
  refine ⟨ev, po, mo, tw, tr, dx, o, _, rs[c]'(by omega), h1, ?_, ?_⟩
  · rw [List.getElem?_map, List.getElem?_eq_getElem (by omega)]
    rfl
  · refine h3 c _ _ (List.getElem?_eq_getElem (by omega)) ?_
    rw [List.getD_eq_getElem?_getD, List.getElem?_eq_getElem hc]
    rfl
def sp_possible_events (K : PySem.W.Frag) (A : Ad) : Sp := fun vs H Q _ => ∃ (a b : Addr) (s : Study) (p : Policy), vs = [.ref a, .ref b] ∧ Ctx A H a b s p ∧ ∀ D H1, Same H H1 → LstAt (EvAt A) H1 D (LwM.poss s p) → Q (.ref D) H1
def sp_event_chance (K : PySem.W.Frag) (A : Ad) : Sp := fun vs H Q _ => ∃ (a e : Addr) (s : Study) (M : List Addr) (ev : Evt), vs = [.ref a, .ref e] ∧ StAt A H a s M ∧ LwM.Good s ∧ EvAt A H e ev ∧ LwM.GoodEv s.contexts s.actions ev ∧ Gives A H Q (LwM.evW s ev)
def sp_expected (K : PySem.W.Frag) (A : Ad) : Sp := fun vs H Q _ => ∃ (a l v : Addr) (s : Study) (M : List Addr) (es : List Evt) (f : Evt → Fraction), vs = [.ref a, .ref l, .ref v] ∧ StAt A H a s M ∧ LwM.Good s ∧ LstAt (EvAt A) H l es ∧ (∀ e ∈ es, LwM.GoodEv s.contexts s.actions e) ∧
  RatsAt A H v (es.map f) ∧ (∀ e ∈ es, Sz (f e)) ∧ es.length ≤ 1000 ∧ Fit (es.map fun e => Kp432.mul (LwM.evW s e) (f e)) ∧ Gives A H Q (Kp432.total (es.map fun e => Kp432.mul (LwM.evW s e) (f e)))
def sp_true_value (K : PySem.W.Frag) (A : Ad) : Sp := fun vs H Q E => ∃ (a : Addr) (s : Study) (M : List Addr) (k : Nat), vs = [.ref a, nat k] ∧ StAt A H a s M ∧ LwM.Good s ∧ DoneOp A H Q E a s M (.trueValue k)
def sp_expectation (K : PySem.W.Frag) (A : Ad) : Sp := fun vs H Q E => ∃ (a : Addr) (s : Study) (M : List Addr) (g k kd l : Nat), vs = [.ref a, nat g, nat k, nat kd, nat l] ∧ StAt A H a s M ∧ LwM.Good s ∧ DoneOp A H Q E a s M (.expectation g k kd l)
def sp_unsupported (K : PySem.W.Frag) (A : Ad) : Sp := fun vs H Q E => ∃ (a : Addr) (s : Study) (M : List Addr) (g k : Nat), vs = [.ref a, nat g, nat k] ∧ StAt A H a s M ∧ LwM.Good s ∧ DoneOp A H Q E a s M (.unsupported g k)
/-- the decisions so far: of the contexts gone through, and of this one's actions -/
def possRow (s : Study) (p : Policy) (c n : Nat) : List Evt := (List.range n).filterMap (LwM.possAt s p c)
def possTo (s : Study) (p : Policy) (m : Nat) : List Evt := (List.range m).flatMap fun c => possRow s p c s.actions
theorem possTo_succ (s : Study) (p : Policy) (m : Nat) : possTo s p (m + 1) = possTo s p m ++ possRow s p m s.actions := by
  unfold possTo
  rw [List.range_succ, List.flatMap_append]
  simp
theorem possRow_succ (s : Study) (p : Policy) (c n : Nat) : possRow s p c (n + 1) = possRow s p c n ++ (match LwM.possAt s p c n with | some e => [e] | none => []) := by
  unfold possRow
  rw [List.range_succ, List.filterMap_append, List.filterMap_cons, List.filterMap_nil]
  cases LwM.possAt s p c n <;> rfl
theorem poss_few {s : Study} {p : Policy} (g : LwM.Good s) {m n : Nat} (hm : m < s.contexts) (hn : n ≤ s.actions) : (possTo s p m ++ possRow s p m n).length ≤ 100 := by
  have a := LwM.flatMap_len (f := fun c => possRow s p c s.actions) (m := 5) (l := List.range m) fun c _ => Nat.le_trans (List.length_filterMap_le _ _) (by rw [List.length_range]; exact g.a5)
  have b : (possRow s p m n).length ≤ n := Nat.le_trans (List.length_filterMap_le _ _) (by rw [List.length_range]; exact Nat.le_refl _)
  rw [List.length_range] at a
  have := g.c6
  have := g.a5
  rw [List.length_append]
  unfold possTo
  omega
section
variable {P : Program} {w : World} {K : PySem.W.Frag} {mg : Str → Option Value} {base : Heap} {A : Ad}
theorem ok_possible_events (T : Txt K mg A) : FnOk P w K mg base CX0 5 A.f_possible_events A.d_possible_events ["study", "policy"] (sp_possible_events K A) := by
  refine T.fn_possible_events.ok sc_possible_events (fun vs H Q E h => ?_) (fun cdv Ar outer s H vs Q E hr h => ?_)
  · obtain ⟨a, b, s, p, rfl, _⟩ := h
    rfl
  · obtain ⟨a, b, s, p, rfl, cx, k⟩ := h
    refine ⟨_, (pss_cons (ps_set (i := 2) sc_possible_events.nd rfl (Or.inl rfl) (pe_lst pa_nil))
        (pss_cons (ps_for PassesOwn.never rfl (pi_range1 (by rfl) T.n_range (pa_cons (pe_fld (pv 0) rfl) pa_nil)) (pg_name (i := 3) sc_possible_events.nd rfl (Or.inl rfl)) (pss_one (ps_for PassesOwn.never rfl (pi_range1 (by rfl) T.n_range (pa_cons (pe_fld (pv 0) rfl) pa_nil)) (pg_name (i := 4) sc_possible_events.nd rfl (Or.inl rfl)) (pss_one (ps_if (pt_val (pe_meth (pv 1) T.cl_Policy T.me_Policy_can_choose (ok_Policy_can_choose T) (hr.mono (by decide)) (bi_Policy_can_choose T) .nil pass0 (pa_cons (pv 3) (pa_cons (pv 4) pa_nil)))) (pss_cons (ps_set (i := 5) sc_possible_events.nd rfl (Or.inl rfl) (pe_ix ix_list (pe_ix ix_list (pe_fld (pv 0) rfl) (pv 3) (fun _ _ => rfl)) (pv 4) (fun _ _ => rfl)))
              (pss_one (ps_expr (pe_bm PySem.F.plainAttrs_list PySem.F.slot_list_append PySem.F.type_list_append mt_append (pv 2) (pa_cons (pe_make T.mk_Event (ok_Event_init T) (hr.mono (by decide)) rfl T.g_Event (bi_Event_init T) .nil pass0 (pa_cons (pv 3) (pa_cons (pv 4) (pa_cons (pv 5) (pa_cons (pe_meth (pv 1) T.cl_Policy T.me_Policy_chance (ok_Policy_chance T) (hr.mono (by decide)) (bi_Policy_chance T) .nil pass0 (pa_cons (pv 3) (pa_cons (pv 4) pa_nil))) pa_nil))))) pa_nil))))) pss_nil)))))
        (pss_one (ps_ret (pv 2))))), ?_⟩
    obtain ⟨M, st⟩ := cx.st
    have g := cx.good
    have c6 := g.c6
    have a5 := g.a5
    obtain ⟨ev, po, mo, tw, tr, dx, o, _⟩ := st.get
    refine to_seq (to_asg (to_lst0 fun D nD => to_name (to_nx (to_seq ?_))))
    have sD : Same H (L2.upd H D (.lst [])) := Same.new nD
    refine ⟨_, rfl, a, _, dx, _, _, rfl, sD _ _ o, T.cl_Study, T.no_Study_contexts, st_contexts .., s.contexts, rfl, by omega, by omega, for_range (lo := 0) (n := s.contexts)
      (fun i σ H' => ∃ v3 v4 v5 : Option V, σ = [some (.ref a), some (.ref b), some (.ref D), v3, v4, v5] ∧ Same H H' ∧ LstAt (EvAt A) H' D (possTo s p i)) ⟨none, none, none, rfl, sD, [], upd_same, rfl, fun i a x ha => by simp at ha⟩ ?_ ?_⟩
    · rintro i σ H1 hi ⟨v3, v4, v5, rfl, s1, l1⟩
      refine to_name ?_
      have e0 : V.int (0 + (i : Int)) = nat i := congrArg V.int (Int.zero_add _)
      rw [e0]
      refine ⟨_, rfl, a, _, dx, _, _, rfl, s1 _ _ o, T.cl_Study, T.no_Study_actions, st_actions .., s.actions, rfl, by omega, by omega, for_range (lo := 0) (n := s.actions)
        (fun j σ H' => ∃ v4 v5 : Option V, σ = [some (.ref a), some (.ref b), some (.ref D), some (nat i), v4, v5] ∧ Same H H' ∧ LstAt (EvAt A) H' D (possTo s p i ++ possRow s p i j)) ⟨v4, v5, rfl, s1, ?_⟩ ?_ ?_⟩
      · have e : possRow s p i 0 = [] := rfl
        rw [e, List.append_nil]
        exact l1
      · rintro j σ H2 hj ⟨w4, w5, rfl, s2, l2⟩
        refine to_name ?_
        have e1 : V.int (0 + (j : Int)) = nat j := congrArg V.int (Int.zero_add _)
        rw [e1]
        have cx2 := cx.same s2
        obtain ⟨l, Ml, ⟨dp, hp⟩, _⟩ := id cx2.pol
        have succ := possRow_succ s p i j
        refine ⟨_, rfl, b, dp, _, rfl, hp, pol_no l (by decide +kernel), _, rfl, _, rfl, b, p, i, j, s.contexts, s.actions, rfl, cx2.pol, cx.gpol, hi, hj, _, rfl, ?_⟩
        by_cases z : (Kp432.chance p i j).num = 0
        · have ez : (!decide ((Kp432.chance p i j).num = 0)) = false := by rw [decide_eq_true z]; rfl
          rw [ez]
          have en : LwM.possAt s p i j = none := if_pos z
          rw [en] at succ
          simp only [List.append_nil] at succ
          refine iteF ⟨some (nat j), w5, rfl, s2, ?_⟩
          rw [succ]
          exact l2
        · have ez : (!decide ((Kp432.chance p i j).num = 0)) = true := by rw [decide_eq_false z]; rfl
          rw [ez]
          have en : LwM.possAt s p i j = some ⟨i, j, Kp432.rewardIn s i j, Kp432.chance p i j⟩ := if_neg z
          rw [en] at succ
          simp only at succ
          have ct : i < s.truth.length := by rw [g.trn]; exact hi
          obtain ⟨ev3, po3, mo3, tw3, tr3, dx3, o3, us, r, u1, u2, hr⟩ := (st.same s2).trow ct
          have rl : (s.truth.getD i []).length = s.actions := (g.tr _ (LwM.getD_mem (d := []) ct)).1
          refine iteT (to_seq (to_asg ?_))
          refine ⟨_, rfl, a, _, dx3, _, _, rfl, o3, T.cl_Study, T.no_Study_truth_rewards, st_tr .., _, rfl, tr3, _, _, _, rfl, rfl, SqL.of u1, at_of (j := i) rfl u2, _, rfl, r, _, _, _, rfl, rfl, SqL.of hr, at_of (j := j) rfl (nat_at (by rw [rl]; exact hj)), to_name (to_nx ?_)⟩
          obtain ⟨as, q1, q2, q3⟩ := l2.ex
          have few := poss_few (p := p) g hi (Nat.le_of_lt hj)
          refine ⟨_, rfl, .inl ⟨rfl, _, SqL.of q1⟩, _, rfl, _, rfl, _, rfl, _, rfl, b, dp, _, rfl, hp, pol_no l (by decide +kernel), _, rfl, _, rfl, b, p, i, j, s.contexts, s.actions, rfl, cx2.pol, cx.gpol, a5, hi, hj, fun q H3 s3 r3 => ?_⟩
          intro e de nie nde nee
          refine ⟨e, de, q, ⟨i, j, Kp432.rewardIn s i j, Kp432.chance p i j⟩, rfl, upd_same, fun H4 hE kp2 => ⟨rfl, ?_⟩⟩
          have s4 := Same.made nie nde kp2
          have s34 := s3.trans s4
          have he : EvAt A H4 e ⟨i, j, Kp432.rewardIn s i j, Kp432.chance p i j⟩ := ⟨de, q, hE, r3.same s4⟩
          have q4 := s34 _ _ q1
          have ee : as.map V.ref ++ [V.ref e] = (as ++ [e]).map V.ref := by rw [List.map_append]; rfl
          refine ⟨D, _, _, rfl, rfl, q4, ?_, ?_⟩
          · rw [List.length_map, q2]
            exact size1000 (by omega)
          · rw [ee]
            have bt : But H4 (L2.upd H4 D (.lst ((as ++ [e]).map V.ref))) D := But.upd q4
            refine ⟨some (nat j), some (nat (Kp432.rewardIn s i j)), rfl, Same.upd_new (s2.trans s34) nD, ?_⟩
            rw [succ, ← List.append_assoc]
            exact LstAt.snoc upd_same q2 (fun i a x ha hx => bt.ev ((q3 i a x ha hx).same s34)) (bt.ev he)
      · rintro σ H2 ⟨w4, w5, rfl, s2, l2⟩
        rw [← possTo_succ] at l2
        exact ⟨some (nat i), w4, w5, rfl, s2, l2⟩
    · rintro σ H1 ⟨v3, v4, v5, rfl, s1, l1⟩
      exact ⟨_, rfl, k D H1 s1 l1⟩
theorem ok_event_chance (T : Txt K mg A) : FnOk P w K mg base CX0 5 A.f_event_chance A.d_event_chance ["study", "event"] (sp_event_chance K A) := by
  refine T.fn_event_chance.ok sc_event_chance (fun vs H Q E h => ?_) (fun cdv Ar outer s H vs Q E hr h => ?_)
  · obtain ⟨a, e, s, M, ev, rfl, _⟩ := h
    rfl
  · obtain ⟨a, e, s, M, ev, rfl, st, g, ⟨de, pr, he, hpr⟩, ge, k⟩ := h
    refine ⟨_, (pss_cons (ps_set (i := 2) sc_event_chance.nd rfl (Or.inl rfl) (pe_make T.mk_Ratio (ok_Ratio_init T) (hr.mono (by decide)) rfl T.g_Ratio (bi_Ratio_init T) .nil pass0 (pa_cons (pe_ix ix_list (pe_fld (pv 0) rfl) (pe_fld (pv 1) rfl) (fun _ _ => rfl)) (pa_cons (pe_callB (cr_sum (by rfl)) (by rfl) T.n_sum (by decide +kernel) (pa_cons (pe_fld (pv 0) rfl) pa_nil)) pa_nil))))
        (pss_one (ps_ret (pe_meth (pv 2) T.cl_Ratio T.me_Ratio_times (ok_Ratio_times T) (hr.mono (by decide)) (bi_Ratio_times T) .nil pass0 (pa_cons (pe_fld (pv 1) rfl) pa_nil))))), ?_⟩
    obtain ⟨evs, po, mo, tw, tr, dx, o, _, _, _, htw, _⟩ := st.get
    have hc : ev.context < s.contextWeights.length := by rw [g.twn]; exact ge.ctx
    have htw' : H tw = some (.lst ((s.contextWeights.map fun n : Nat => (n : Int)).map V.int)) := by
      rw [← ints_of]
      exact htw
    refine to_seq (to_asg ?_)
    refine ⟨_, rfl, a, _, dx, _, _, rfl, o, T.cl_Study, T.no_Study_truth_weights, st_tw .., _, rfl, e, _, de, _, _, rfl, he, T.cl_Event, T.no_Event_context, ev_context ev pr, tw, _, _, _, rfl, rfl, SqL.of htw, at_of (j := ev.context) rfl (nat_at hc),
      _, rfl, a, _, dx, _, _, rfl, o, T.cl_Study, T.no_Study_truth_weights, st_tw .., tw, _, rfl, SqL.of htw', ?_⟩
    have wl : s.contextWeights.sum < 2 ^ 60 := Nat.lt_of_le_of_lt (LwM.tw_sum_le g) (by decide)
    intro q dq nq ndq neq
    refine ⟨q, dq, ((s.contextWeights.getD ev.context 0 : Nat) : Int), s.contextWeights.sum, ?_, upd_same, LwM.tw_sum_pos g, lt9 wl, fun H1 r1 kp => ⟨rfl, to_name (to_nx ?_)⟩⟩
    · rw [LwM.sum_cast]
      rfl
    have s1 := Same.made nq ndq kp
    obtain ⟨dq, hq⟩ := id r1
    have sc : Sz (Kp432.contextChance s ev.context) := Sz.of (LwM.bd_ctx g _) (LwM.tw_sum_pos g) (lt60 wl) (lt60 (by decide))
    refine ⟨_, rfl, q, dq, _, rfl, hq, rat_no _ (by decide +kernel) (by decide +kernel), _, rfl, e, _, de, _, _, rfl, s1 _ _ he, T.cl_Event, T.no_Event_propensity, ev_propensity ev pr, q, pr, _, _, rfl, r1, hpr.same s1, sc, sz_pro ge.pro, fun z H2 s2 r2 => k z H2 (s1.trans s2) r2⟩
theorem ok_expected (T : Txt K mg A) : FnOk P w K mg base CX0 6 A.f_expected A.d_expected ["study", "events", "values"] (sp_expected K A) := by
  refine T.fn_expected.ok sc_expected (fun vs H Q E h => ?_) (fun cdv Ar outer s H vs Q E hr h => ?_)
  · obtain ⟨a, l, v, s, M, es, f, rfl, _⟩ := h
    rfl
  · obtain ⟨a, l, v, s, M, es, f, rfl, st, g, hl, ge, hv, sf, e9, fit, k⟩ := h
    refine ⟨_, (pss_one (ps_ret (pe_call (ok_total T) (hr.mono (by decide)) rfl T.g_total T.fn_total.kp (bi_total T) .nil pass0 (pa_cons (pe_lc (own := [("event", 3), ("value", 4)]) (g := gTup K 2 (gCons (gName 3) (gCons (gName 4) gNil))) (tt := tYes) (te := (tMeth A.c_Ratio "times" (sp_Ratio_times K A) [] E0 (tCall (sp_event_chance K A) [] E0 (tCons (tVar 0) (tCons (tVar 3) tNil))) (tCons (tVar 4) tNil))) (by rfl) sc_expected.nd (pi_zip (by rfl) T.n_zip (pa_cons (pv 1) (pa_cons (pv 2) pa_nil))) (blkOk_by (own := [("event", 3), ("value", 4)]) (N := ["study", "events", "values", "event", "value"]) (sc := defScope s_expected) (by decide +kernel)) (fun _ _ _ _ _ => pg_tup rfl (pgs_cons (pg_name (i := 3) sc_expected.nd rfl (Or.inl rfl)) (pgs_cons (pg_name (i := 4) sc_expected.nd rfl (Or.inl rfl)) pgs_nil))) (fun _ _ _ _ _ => pts_nil) (fun _ _ _ _ _ => (pe_meth (pe_call (ok_event_chance T) (hr.mono (by decide)) rfl T.g_event_chance T.fn_event_chance.kp (bi_event_chance T) .nil pass0 (pa_cons (pv 0) (pa_cons (pv 3) pa_nil))) T.cl_Ratio T.me_Ratio_times (ok_Ratio_times T) (hr.mono (by decide)) (bi_Ratio_times T) .nil pass0 (pa_cons (pv 4) pa_nil)))) pa_nil)))), ?_⟩
    obtain ⟨as, a1, a2, a3⟩ := hl.ex
    obtain ⟨vs, v1, v2, v3⟩ := hv.ex
    rw [List.length_map] at v2
    refine to_ret (to_call (to_cons ?_))
    refine comp_of (walk_zip (K := K) (a := l) (b := v) (xs := as.map V.ref) (ys := vs.map V.ref) (n := es.length) (by rw [List.length_map, List.length_map, a2, v2, Nat.min_self])) (stays_rat (A := A)) (es.map fun e => Kp432.mul (LwM.evW s e) (f e))
      (by rw [List.length_map]) e9 (fun H3 s3 => ⟨SqL.of (s3 _ _ a1), SqL.of (s3 _ _ v1)⟩) (fun Z hZ => ⟨_, rfl, _, rfl, l, v, _, _, rfl, SqL.of a1, SqL.of v1, hZ⟩) ?_ ?_
    · rintro i y x H3 H4 Dn hy s3 ⟨acc, hD⟩ ⟨t, u, z, rfl, nT, rfl, eu, ez⟩ Z hZ
      obtain ⟨qe, hqe, rfl⟩ := ref_at eu
      obtain ⟨qv, hqv, rfl⟩ := ref_at ez
      have hi : i < es.length := by
        have := (List.getElem?_eq_some_iff.mp hqe).1
        omega
      have he : es[i]? = some (es[i]'hi) := List.getElem?_eq_getElem hi
      rw [List.getElem?_map, he] at hy
      cases Option.some.inj hy
      have nTs : Same H3 (L2.upd H3 t (.tup [.ref qe, .ref qv])) := Same.new nT
      have re := (a3 i qe _ hqe he).same (s3.trans nTs)
      have rv := (v3 i qv _ hqv (by rw [List.getElem?_map, he]; rfl)).same (s3.trans nTs)
      have gee := ge _ (List.mem_of_getElem? he)
      refine ⟨t, _, rfl, SqT.of upd_same, rfl, _, _, rfl, _, _, rfl, rfl, rfl, ?_⟩
      refine ⟨_, rfl, _, rfl, a, qe, s, M, es[i]'hi, rfl, st.same (s3.trans nTs), g, re, gee, fun c H5 s5 r5 => ?_⟩
      obtain ⟨dc, hc⟩ := id r5
      have sw : Sz (LwM.evW s (es[i]'hi)) := by
        have b := LwM.bd_mul (LwM.bd_ctx g (es[i]'hi).context) (⟨gee.pro.dpos, Nat.dvd_refl _, ?_⟩ : LwM.Bd (es[i]'hi).propensity.den 1000 (es[i]'hi).propensity)
        · refine Sz.of b (Nat.mul_pos (LwM.tw_sum_pos g) gee.pro.dpos) ?_ (lt60 (by decide))
          exact lt60 (Nat.lt_of_le_of_lt (Nat.mul_le_mul (LwM.tw_sum_le g) gee.pro.den) (by decide))
        · have h1 := gee.pro.num
          have h2 := gee.pro.pos
          have h3 := gee.pro.dpos
          have : 1000 * 1 ≤ 1000 * (es[i]'hi).propensity.den := Nat.mul_le_mul_left _ h3
          omega
      exact ⟨c, dc, _, rfl, hc, rat_no _ (by decide +kernel) (by decide +kernel), _, rfl, c, qv, _, _, rfl, r5, rv.same s5, sw, sf _ (List.mem_of_getElem? he), fun z H6 s6 r6 => hZ _ _ ((nTs.trans s5).trans s6) ⟨z, rfl, r6⟩ (rat_ne r6 (((nTs.trans s5).trans s6) _ _ hD))⟩
    · intro D H1 nD s1 hD
      exact ⟨D, _, rfl, hD.refs, fit, fun q H2 s2 r2 => k q H2 (s1.trans s2) r2⟩
theorem ok_true_value (T : Txt K mg A) : FnOk P w K mg base (L2.CX P w) 7 A.f_true_value A.d_true_value ["study", "policy"] (sp_true_value K A) := by
  refine T.fn_true_value.okX sc_true_value (fun vs H Q E h => ?_) (fun cdv Ar outer s H vs Q E hr h => ?_)
  · obtain ⟨a, s, M, k, rfl, _⟩ := h
    rfl
  · obtain ⟨a, s, M, k, rfl, st, gs, dn⟩ := h
    refine ⟨_, (pss_cons (ps_expr (pe_call (ok_check_policy T) (hr.mono (by decide)) rfl T.g_check_policy T.fn_check_policy.kp (bi_check_policy T) .nil (passes_call (takes_of rfl rfl rfl rfl) (fun _ _ _ _ h => h)) (pa_cons (pv 1) pa_nil)))
        (pss_cons (ps_set (i := 2) sc_true_value.nd rfl (Or.inl rfl) (pe_call (ok_possible_events T) (hr.mono (by decide)) rfl T.g_possible_events T.fn_possible_events.kp (bi_possible_events T) .nil pass0 (pa_cons (pv 0) (pa_cons (pe_ix ix_list (pe_fld (pv 0) rfl) (pv 1) (fun _ _ => rfl)) pa_nil))))
        (pss_cons (ps_setLc (i := 3) (own := [("event", 4)]) (g := gName 4) (tt := tYes) (te := (tCall (sp_whole K A) [] E0 (tCons (tFld K (tVar 4) "reward") tNil))) (by rfl) sc_true_value.nd rfl rfl (sw_true rfl rfl rfl (by decide +kernel)) (pi_list (pv 2)) (blkOk_by (own := [("event", 4)]) (N := ["study", "policy", "events", "rewards", "event"]) (sc := defScope s_true_value) (by decide +kernel)) (fun _ _ _ _ _ => pg_name (i := 4) sc_true_value.nd rfl (Or.inl rfl)) (fun _ _ _ _ _ => pts_nil) (fun _ _ _ _ _ => (pe_call (ok_whole T) (hr.mono (by decide)) rfl T.g_whole T.fn_whole.kp (bi_whole T) .nil pass0 (pa_cons (pe_fld (pv 4) rfl) pa_nil))))
        (pss_one (ps_ret (pe_op op_cat (pe_lst (pa_cons pe_int pa_nil)) (pe_meth0 (pe_call (ok_expected T) (hr.mono (by decide)) rfl T.g_expected T.fn_expected.kp (bi_expected T) .nil pass0 (pa_cons (pv 0) (pa_cons (pv 2) (pa_cons (pv 3) pa_nil)))) T.cl_Ratio T.me_Ratio_pair (ok_Ratio_pair T) (hr.mono (by decide)) (bi_Ratio_pair T) .nil pass0))))))), ?_⟩
    refine ⟨_, rfl, k, rfl, fun h0 => ?_, fun h0 => dn.bad _ (by decide) (LwM.tru_2 h0)⟩
    have gp := LwM.pol_at gs h0
    have pg := LwM.poss_good (p := Kp432.policyAt s k) gs gp
    have pn := LwM.poss_len (p := Kp432.policyAt s k) gs
    obtain ⟨evs, po, mo, tw, tr, dx, o, us, pa, e1, e2, hpol⟩ := st.policy (k := k) (by rw [gs.poln]; exact h0)
    refine ⟨_, rfl, _, rfl, a, _, dx, _, _, rfl, o, T.cl_Study, T.no_Study_policies, st_policies .., _, rfl, po, _, _, _, rfl, rfl, SqL.of e1, at_of (j := k) rfl e2, a, pa, s, _, rfl, ctx_of st gs h0 hpol, fun D1 H1 s1 l1 => ?_⟩
    refine to_name (to_nx (to_seq (to_asg ?_)))
    refine comp_objs (R := EvAt A) (stays_rat (A := A)) (fun e : Evt => Kp432.ofNat e.reward) l1 (fun s1 r => r.same s1) (by omega) (fun Z hT => ⟨_, rfl, hT⟩) ?_ fun D2 H2 nD2 s2 hD2 => ?_
    · intro x e H2 D hx ⟨de, pr, he, _⟩ s2 ⟨acc, hD⟩ Z hZ
      exact ⟨_, rfl, e, _, de, _, _, rfl, he, T.cl_Event, T.no_Event_reward, ev_reward x pr, x.reward, rfl, fun q H3 s3 r3 => hZ _ _ s3 ⟨q, rfl, r3⟩ (rat_ne r3 (s3 _ _ hD))⟩
    · have s12 := s1.trans s2
      refine ⟨(by show 1 ≤ sizeLine; decide), fun p1 n1 => ?_⟩
      have s3 : Same H2 (L2.upd H2 p1 (.lst [.int 0])) := Same.new n1
      have s13 := s12.trans s3
      have ft : Fit ((LwM.poss s (Kp432.policyAt s k)).map fun e => Kp432.mul (LwM.evW s e) (Kp432.ofNat e.reward)) :=
        ⟨_, 100, 30, LwM.bd_tvParts gs gp, LwM.tvParts_len gs, LwM.ewD_pos gs gp, Nat.lt_trans (LwM.ewD_lt gs gp) (Nat.pow_lt_pow_right (by decide) (by decide)), by decide, lt60 (by decide)⟩
      refine ⟨_, rfl, _, rfl, _, rfl, a, D1, D2, s, M, _, fun e : Evt => Kp432.ofNat e.reward, rfl, st.same s13, gs, l1.same (s2.trans s3) (fun _ _ e => e.same (s2.trans s3)), pg, RatsAt.same hD2.refs s3, fun e he => Sz.nat (Nat.lt_of_le_of_lt (pg e he).rew (by decide)), by omega, ft, fun q H4 s4 r4 => ?_⟩
      obtain ⟨dq, hq⟩ := id r4
      refine ⟨q, dq, _, rfl, hq, rat_no _ (by decide +kernel) (by decide +kernel), ?_⟩
      refine cat_pair (K := K) (E := E0) (s4 _ _ upd_same) r4 fun p H5 n5 s5 hp5 => ?_
      have s14 := s13.trans s4
      refine dn.good _ _ _ (by omega) (LwM.tru_ok h0) p H5 M (s14.free n5) ?_ (st.same (s14.trans s5)) (Moved.of (s14.trans s5))
      rw [LwM.true_is gs gp]
      exact hp5
theorem ok_expectation (T : Txt K mg A) : FnOk P w K mg base (L2.CX P w) 9 A.f_expectation A.d_expectation ["study", "logger", "policy", "kind", "limit"] (sp_expectation K A) := by
  refine T.fn_expectation.okX sc_expectation (fun vs H Q E h => ?_) (fun cdv Ar outer s H vs Q E hr h => ?_)
  · obtain ⟨a, s, M, g, k, kd, l, rfl, _⟩ := h
    rfl
  · obtain ⟨a, s, M, g, k, kd, l, rfl, st, gs, dn⟩ := h
    refine ⟨_, (pss_cons (ps_expr (pe_call (ok_check_policy T) (hr.mono (by decide)) rfl T.g_check_policy T.fn_check_policy.kp (bi_check_policy T) .nil (passes_call (takes_of rfl rfl rfl rfl) (fun _ _ _ _ h => h)) (pa_cons (pv 1) pa_nil)))
        (pss_cons (ps_expr (pe_call (ok_check_policy T) (hr.mono (by decide)) rfl T.g_check_policy T.fn_check_policy.kp (bi_check_policy T) .nil (passes_call (takes_of rfl rfl rfl rfl) (fun _ _ _ _ h => h)) (pa_cons (pv 2) pa_nil)))
        (pss_cons (ps_expr (pe_call (ok_check_estimator T) (hr.mono (by decide)) rfl T.g_check_estimator T.fn_check_estimator.kp (bi_check_estimator T) .nil (passes_call (takes_of rfl rfl rfl rfl) (fun _ _ _ _ h => h)) (pa_cons (pv 3) (pa_cons (pv 4) pa_nil))))
        (pss_cons (ps_set (i := 5) sc_expectation.nd rfl (Or.inl rfl) (pe_call (ok_possible_events T) (hr.mono (by decide)) rfl T.g_possible_events T.fn_possible_events.kp (bi_possible_events T) .nil pass0 (pa_cons (pv 0) (pa_cons (pe_ix ix_list (pe_fld (pv 0) rfl) (pv 1) (fun _ _ => rfl)) pa_nil))))
        (pss_cons (ps_set (i := 6) sc_expectation.nd rfl (Or.inl rfl) (pe_call (ok_terms_of T) (hr.mono (by decide)) rfl T.g_terms_of T.fn_terms_of.kp (bi_terms_of T) .nil pass0 (pa_cons (pv 0) (pa_cons (pe_ix ix_list (pe_fld (pv 0) rfl) (pv 2) (fun _ _ => rfl)) (pa_cons (pv 3) (pa_cons (pv 4) (pa_cons (pv 5) pa_nil)))))))
        (pss_cons (ps_set (i := 7) sc_expectation.nd rfl (Or.inr rfl) (pe_call (ok_expected T) (hr.mono (by decide)) rfl T.g_expected T.fn_expected.kp (bi_expected T) .nil pass0 (pa_cons (pv 0) (pa_cons (pv 5) (pa_cons (pv 6) pa_nil)))))
        (pss_cons (ps_setLc (i := 8) (own := [("term", 9)]) (g := gName 9) (tt := tYes) (te := (tMeth A.c_Ratio "squared" (sp_Ratio_squared K A) [] E0 (tMeth A.c_Ratio "minus" (sp_Ratio_minus K A) [] E0 (tVar 9) (tCons (tVar 7) tNil)) tNil)) (by rfl) sc_expectation.nd rfl rfl (sw_true rfl rfl rfl (by decide +kernel)) (pi_list (pv 6)) (blkOk_by (own := [("term", 9)]) (N := ["study", "logger", "policy", "kind", "limit", "events", "terms", "middle", "squares", "term"]) (sc := defScope s_expectation) (by decide +kernel)) (fun _ _ _ _ _ => pg_name (i := 9) sc_expectation.nd rfl (Or.inl rfl)) (fun _ _ _ _ _ => pts_nil) (fun _ _ _ _ _ => (pe_meth0 (pe_meth (pv 9) T.cl_Ratio T.me_Ratio_minus (ok_Ratio_minus T) (hr.mono (by decide)) (bi_Ratio_minus T) .nil pass0 (pa_cons (pv 7) pa_nil)) T.cl_Ratio T.me_Ratio_squared (ok_Ratio_squared T) (hr.mono (by decide)) (bi_Ratio_squared T) .nil pass0)))
        (pss_one (ps_ret (pe_op op_cat (pe_op op_cat (pe_lst (pa_cons pe_int pa_nil)) (pe_meth0 (pv 7) T.cl_Ratio T.me_Ratio_pair (ok_Ratio_pair T) (hr.mono (by decide)) (bi_Ratio_pair T) .nil pass0)) (pe_meth0 (pe_call (ok_expected T) (hr.mono (by decide)) rfl T.g_expected T.fn_expected.kp (bi_expected T) .nil pass0 (pa_cons (pv 0) (pa_cons (pv 5) (pa_cons (pv 8) pa_nil)))) T.cl_Ratio T.me_Ratio_pair (ok_Ratio_pair T) (hr.mono (by decide)) (bi_Ratio_pair T) .nil pass0))))))))))), ?_⟩
    refine ⟨_, rfl, g, rfl, fun hg => ?_, fun hg => dn.bad _ (by decide) (LwM.exp_2 (by omega))⟩
    refine ⟨_, rfl, k, rfl, fun hk => ?_, fun hk => dn.bad _ (by decide) (LwM.exp_2 (by omega))⟩
    refine ⟨_, rfl, _, rfl, kd, l, rfl, fun h1 => ?_, fun h1 => dn.bad _ (by decide) (LwM.exp_22 ⟨hg, hk⟩ h1)⟩
    have gl := LwM.pol_at gs hg
    have gp := LwM.pol_at gs hk
    have pg := LwM.poss_good (p := Kp432.policyAt s g) gs gl
    have pn := LwM.poss_len (p := Kp432.policyAt s g) gs
    have w0 := LwM.ewD_pos gs gl
    have t0 := LwM.trD_pos gs gl gp
    have t9 := LwM.trD_lt gs gl gp
    have t45 : LwM.trD s (Kp432.policyAt s g) (Kp432.policyAt s k) < 2 ^ 4500 := Nat.lt_trans t9 (Nat.pow_lt_pow_right (by decide) (by decide))
    obtain ⟨evs, po, mo, tw, tr, dx, o, us, pa, e1, e2, hpol⟩ := st.policy (k := g) (by rw [gs.poln]; exact hg)
    refine ⟨_, rfl, _, rfl, a, _, dx, _, _, rfl, o, T.cl_Study, T.no_Study_policies, st_policies .., _, rfl, po, _, _, _, rfl, rfl, SqL.of e1, at_of (j := g) rfl e2, a, pa, s, _, rfl, ctx_of st gs hg hpol, fun D1 H1 s1 l1 => ?_⟩
    refine to_name (to_nx (to_seq (to_asg ?_)))
    obtain ⟨evs, po, mo, tw, tr, dx, o, us, pb, e1, e2, hpol⟩ := (st.same s1).policy (k := k) (by rw [gs.poln]; exact hk)
    refine ⟨_, rfl, _, rfl, a, _, dx, _, _, rfl, o, T.cl_Study, T.no_Study_policies, st_policies .., _, rfl, po, _, _, _, rfl, rfl, SqL.of e1, at_of (j := k) rfl e2, _, rfl, _, rfl, _, rfl,
      a, pb, D1, s, _, kd, l, _, rfl, ctx_of (st.same s1) gs hk hpol, l1, pg, by omega, h1.1, h1.2.1, h1.2.2, fun D2 H2 s2 r2 => ?_⟩
    have sz : ∀ e ∈ LwM.poss s (Kp432.policyAt s g), Sz (Kp432.term s (Kp432.policyAt s k) (est kd l) e) := fun e he => sz_big gs gp (LwM.pp_pro gs gl) (LwM.pp_len gs) (LwM.bd_pterm gs gl gp h1.2.2 he) (by decide)
    have fe : Fit ((LwM.poss s (Kp432.policyAt s g)).map fun e => Kp432.mul (LwM.evW s e) (Kp432.term s (Kp432.policyAt s k) (est kd l) e)) :=
      ⟨_, 1048576, 30, LwM.bd_exParts gs gl gp h1.2.2, LwM.exParts_len gs, t0, t45, by decide, lt60 (by decide)⟩
    have s12 := s1.trans s2
    refine to_name (to_nx (to_seq (to_asg ?_)))
    refine ⟨_, rfl, _, rfl, _, rfl, a, D1, D2, s, M, _, _, rfl, st.same s12, gs, l1.same s2 (fun _ _ e => e.same s2), pg, r2, sz, by omega, fe, fun m H3 s3 r3 => ?_⟩
    have em : Kp432.total ((LwM.poss s (Kp432.policyAt s g)).map fun e => Kp432.mul (LwM.evW s e) (Kp432.term s (Kp432.policyAt s k) (est kd l) e)) = Kp432.expected s (Kp432.policyAt s g) (Kp432.policyAt s k) (est kd l) := (LwM.expected_is ..).symm
    rw [em] at r3
    have sm : Sz (Kp432.expected s (Kp432.policyAt s g) (Kp432.policyAt s k) (est kd l)) := Sz.of (LwM.bd_expected gs gl gp h1.2.2) t0 t45 (lt60 (by decide))
    have s13 := s12.trans s3
    have r23 := RatsAt.same r2 s3
    refine to_name (to_nx (to_seq (to_asg ?_)))
    refine comp_objs (R := RatAt A) (stays_rat (A := A)) (fun t => Kp432.square (Kp432.sub t (Kp432.expected s (Kp432.policyAt s g) (Kp432.policyAt s k) (est kd l)))) r23 (fun s r => r.same s) (by rw [List.length_map]; omega) (fun Z hZ => ⟨_, rfl, hZ⟩) ?_ fun D4 H4 nD4 s4 hD4 => ?_
    · intro x b H4 D hx rb s4 ⟨acc, hD⟩ Z hZ
      obtain ⟨e, he, rfl⟩ := List.mem_map.mp hx
      obtain ⟨db, hb⟩ := id rb
      refine ⟨_, rfl, b, db, _, rfl, hb, rat_no _ (by decide +kernel) (by decide +kernel), _, rfl, b, m, _, _, rfl, rb, r3.same s4, sz e he, sm, fun u H5 s5 r5 => ?_⟩
      obtain ⟨du, hu⟩ := id r5
      have sd : Sz (Kp432.sub (Kp432.term s (Kp432.policyAt s k) (est kd l) e) (Kp432.expected s (Kp432.policyAt s g) (Kp432.policyAt s k) (est kd l))) := Sz.of (LwM.bd_dev gs gl gp h1.2.2 he) t0 t45 (lt60 (by decide))
      exact ⟨u, du, _, rfl, hu, rat_no _ (by decide +kernel) (by decide +kernel), u, _, rfl, r5, sd, fun v H6 s6 r6 => hZ _ _ (s5.trans s6) ⟨v, rfl, r6⟩ (rat_ne r6 ((s5.trans s6) _ _ hD))⟩
    · have rq : RatsAt A H4 D4 ((LwM.poss s (Kp432.policyAt s g)).map fun e => Kp432.square (Kp432.sub (Kp432.term s (Kp432.policyAt s k) (est kd l) e) (Kp432.expected s (Kp432.policyAt s g) (Kp432.policyAt s k) (est kd l)))) := by
        have := hD4.refs
        rw [List.map_map] at this
        exact this
      have s14 := s13.trans s4
      have v9 := LwM.vrD_lt gs gl gp
      have fv : Fit ((LwM.poss s (Kp432.policyAt s g)).map fun e => Kp432.mul (LwM.evW s e) (Kp432.square (Kp432.sub (Kp432.term s (Kp432.policyAt s k) (est kd l) e) (Kp432.expected s (Kp432.policyAt s g) (Kp432.policyAt s k) (est kd l))))) :=
        ⟨_, 32505856 * 32505856, 30, LwM.bd_vrParts gs gl gp h1.2.2, LwM.vrParts_len gs, Nat.mul_pos w0 (Nat.mul_pos t0 t0), Nat.lt_trans v9 (Nat.pow_lt_pow_right (by decide) (by decide)), by decide, lt60 (by decide)⟩
      have sq : ∀ e ∈ LwM.poss s (Kp432.policyAt s g), Sz (Kp432.square (Kp432.sub (Kp432.term s (Kp432.policyAt s k) (est kd l) e) (Kp432.expected s (Kp432.policyAt s g) (Kp432.policyAt s k) (est kd l)))) := fun e he => by
        have b := Nat.mul_lt_mul'' t9 t9
        rw [← Nat.pow_add] at b
        exact Sz.of (LwM.bd_square (LwM.bd_dev gs gl gp h1.2.2 he)) (Nat.mul_pos t0 t0) (Nat.lt_trans b (Nat.pow_lt_pow_right (by decide) (by decide))) (lt60 (by decide))
      refine ⟨(by show 1 ≤ sizeLine; decide), fun p1 n1 => ?_⟩
      have s5 : Same H4 (L2.upd H4 p1 (.lst [.int 0])) := Same.new n1
      have s15 := s14.trans s5
      have rm := r3.same (s4.trans s5)
      obtain ⟨dm, hm⟩ := id rm
      refine ⟨_, rfl, m, dm, _, rfl, hm, rat_no _ (by decide +kernel) (by decide +kernel), ?_⟩
      refine cat_pairL (K := K) (E := E0) (zs := [0]) upd_same rm (by decide) fun p6 H6 n6 s6 hp6 => ?_
      have s26 := (((s2.trans s3).trans s4).trans s5).trans s6
      have s16 := s15.trans s6
      refine ⟨_, rfl, _, rfl, _, rfl, a, D1, D4, s, M, _, _, rfl, st.same s16, gs, l1.same s26 (fun _ _ e => e.same s26), pg, RatsAt.same rq (s5.trans s6), sq, by omega, fv, fun v H7 s7 r7 => ?_⟩
      have ev : Kp432.total ((LwM.poss s (Kp432.policyAt s g)).map fun e => Kp432.mul (LwM.evW s e) (Kp432.square (Kp432.sub (Kp432.term s (Kp432.policyAt s k) (est kd l) e) (Kp432.expected s (Kp432.policyAt s g) (Kp432.policyAt s k) (est kd l))))) = Kp432.termVariance s (Kp432.policyAt s g) (Kp432.policyAt s k) (est kd l) :=
        (LwM.variance_is gs gl fun e he => (sz e he).pos).symm
      rw [ev] at r7
      obtain ⟨dv, hv⟩ := id r7
      refine ⟨v, dv, _, rfl, hv, rat_no _ (by decide +kernel) (by decide +kernel), ?_⟩
      refine cat_pairL (K := K) (E := E0) (s7 _ _ hp6) r7 (by show 3 ≤ 1000; decide) fun p8 H8 n8 s8 hp8 => ?_
      have s17 := s16.trans s7
      exact dn.good _ _ _ (by omega) (LwM.exp_ok ⟨hg, hk⟩ h1) p8 H8 M (s17.free n8) hp8 (st.same (s17.trans s8)) (Moved.of (s17.trans s8))
theorem ok_unsupported (T : Txt K mg A) : FnOk P w K mg base (L2.CX P w) 6 A.f_unsupported A.d_unsupported ["study", "logger", "policy"] (sp_unsupported K A) := by
  refine T.fn_unsupported.okX sc_unsupported (fun vs H Q E h => ?_) (fun cdv Ar outer s H vs Q E hr h => ?_)
  · obtain ⟨a, s, M, g, k, rfl, _⟩ := h
    rfl
  · obtain ⟨a, s, M, g, k, rfl, st, gs, dn⟩ := h
    refine ⟨_, (pss_cons (ps_expr (pe_call (ok_check_policy T) (hr.mono (by decide)) rfl T.g_check_policy T.fn_check_policy.kp (bi_check_policy T) .nil (passes_call (takes_of rfl rfl rfl rfl) (fun _ _ _ _ h => h)) (pa_cons (pv 1) pa_nil)))
        (pss_cons (ps_expr (pe_call (ok_check_policy T) (hr.mono (by decide)) rfl T.g_check_policy T.fn_check_policy.kp (bi_check_policy T) .nil (passes_call (takes_of rfl rfl rfl rfl) (fun _ _ _ _ h => h)) (pa_cons (pv 2) pa_nil)))
        (pss_cons (ps_set (i := 3) sc_unsupported.nd rfl (Or.inl rfl) (pe_ix ix_list (pe_fld (pv 0) rfl) (pv 1) (fun _ _ => rfl)))
        (pss_cons (ps_set (i := 4) sc_unsupported.nd rfl (Or.inl rfl) (pe_lst pa_nil))
        (pss_cons (ps_for (passes_of rfl) rfl (pi_range1 (by rfl) T.n_range (pa_cons (pe_fld (pv 0) rfl) pa_nil)) (pg_name (i := 5) sc_unsupported.nd rfl (Or.inl rfl)) (pss_one (ps_for (passes_of rfl) rfl (pi_range1 (by rfl) T.n_range (pa_cons (pe_fld (pv 0) rfl) pa_nil)) (pg_name (i := 6) sc_unsupported.nd rfl (Or.inl rfl)) (pss_one (ps_if (pw_and (pt_val (pe_meth (pe_ix ix_list (pe_fld (pv 0) rfl) (pv 2) (fun _ _ => rfl)) T.cl_Policy T.me_Policy_can_choose (ok_Policy_can_choose T) (hr.mono (by decide)) (bi_Policy_can_choose T) .nil pass0 (pa_cons (pv 5) (pa_cons (pv 6) pa_nil)))) (pw_and1 (pt_not (pt_val (pe_meth (pv 3) T.cl_Policy T.me_Policy_can_choose (ok_Policy_can_choose T) (hr.mono (by decide)) (bi_Policy_can_choose T) .nil pass0 (pa_cons (pv 5) (pa_cons (pv 6) pa_nil))))))).pt (pss_one (ps_expr (pe_bm PySem.F.plainAttrs_list PySem.F.slot_list_extend PySem.F.type_list_extend mt_extend (pv 4) (pa_cons (pe_lst (pa_cons (pv 5) (pa_cons (pv 6) pa_nil))) pa_nil)))) pss_nil)))))
        (pss_one (ps_ret (pe_op op_cat (pe_lst (pa_cons (pe_op op_fdivW (pe_callB call_len_seq (by rfl) T.n_len PySem.boot_len (pa_cons (pv 4) pa_nil)) pe_int) pa_nil)) (pv 4))))))))), ?_⟩
    refine ⟨_, rfl, g, rfl, fun hg => ?_, fun hg => dn.bad _ (by decide) (LwM.uns_2 (by omega))⟩
    refine ⟨_, rfl, k, rfl, fun hk => ?_, fun hk => dn.bad _ (by decide) (LwM.uns_2 (by omega))⟩
    have gl := LwM.pol_at gs hg
    have gp := LwM.pol_at gs hk
    have c6 := gs.c6
    have a5 := gs.a5
    obtain ⟨evs, po, mo, tw, tr, dx, o, us, pa, e1, e2, hpa⟩ := st.policy (k := g) (by rw [gs.poln]; exact hg)
    refine to_nx (to_seq (to_asg ?_))
    refine ⟨_, rfl, a, _, dx, _, _, rfl, o, T.cl_Study, T.no_Study_policies, st_policies .., _, rfl, po, _, _, _, rfl, rfl, SqL.of e1, at_of (j := g) rfl e2, to_name (to_nx (to_seq (to_asg (to_lst0 fun D nD => to_name (to_nx (to_seq ?_))))))⟩
    have sD : Same H (L2.upd H D (.lst [])) := Same.new nD
    have few : ∀ m n, m < s.contexts → n ≤ s.actions → ((List.range m).flatMap (fun c => LwM.unsRow (Kp432.policyAt s k) (Kp432.policyAt s g) c s.actions) ++ LwM.unsRow (Kp432.policyAt s k) (Kp432.policyAt s g) m n).length ≤ 100 := fun m n hm hn => by
      have x := LwM.unsAll_len (Kp432.policyAt s k) (Kp432.policyAt s g) m s.actions
      have y := LwM.unsRow_len (Kp432.policyAt s k) (Kp432.policyAt s g) m n
      have z := Nat.mul_le_mul (show m ≤ 6 by omega) (Nat.mul_le_mul a5 (Nat.le_refl 2))
      rw [List.length_append]
      unfold LwM.unsAll at x
      omega
    refine ⟨_, rfl, a, _, dx, _, _, rfl, sD _ _ o, T.cl_Study, T.no_Study_contexts, st_contexts .., s.contexts, rfl, by omega, by omega, for_range (lo := 0) (n := s.contexts)
      (fun i σ H' => ∃ v5 v6 : Option V, σ = [some (.ref a), some (nat g), some (nat k), some (.ref pa), some (.ref D), v5, v6] ∧ Same H H' ∧ H' D = some (.lst (((List.range i).flatMap fun c => LwM.unsRow (Kp432.policyAt s k) (Kp432.policyAt s g) c s.actions).map V.int)))
      ⟨none, none, rfl, sD, upd_same⟩ ?_ ?_⟩
    · rintro i σ H1 hi ⟨v5, v6, rfl, s1, l1⟩
      refine to_name ?_
      have e0 : V.int (0 + (i : Int)) = nat i := congrArg V.int (Int.zero_add _)
      rw [e0]
      refine ⟨_, rfl, a, _, dx, _, _, rfl, s1 _ _ o, T.cl_Study, T.no_Study_actions, st_actions .., s.actions, rfl, by omega, by omega, for_range (lo := 0) (n := s.actions)
        (fun j σ H' => ∃ v6 : Option V, σ = [some (.ref a), some (nat g), some (nat k), some (.ref pa), some (.ref D), some (nat i), v6] ∧ Same H H' ∧
          H' D = some (.lst (((List.range i).flatMap (fun c => LwM.unsRow (Kp432.policyAt s k) (Kp432.policyAt s g) c s.actions) ++ LwM.unsRow (Kp432.policyAt s k) (Kp432.policyAt s g) i j).map V.int))) ⟨v6, rfl, s1, ?_⟩ ?_ ?_⟩
      · have e : LwM.unsRow (Kp432.policyAt s k) (Kp432.policyAt s g) i 0 = [] := rfl
        rw [e, List.append_nil]
        exact l1
      · rintro j σ H2 hj ⟨w6, rfl, s2, l2⟩
        refine to_name ?_
        have e1 : V.int (0 + (j : Int)) = nat j := congrArg V.int (Int.zero_add _)
        rw [e1]
        obtain ⟨evs, po, mo, tw, tr, dx, o, us, pb, f1, f2, hpb⟩ := (st.same s2).policy (k := k) (by rw [gs.poln]; exact hk)
        have hpa2 := hpa.same s2
        obtain ⟨lb, Mb, ⟨db, hb⟩, _⟩ := id hpb
        obtain ⟨la, Ma, ⟨da, ha⟩, _⟩ := id hpa2
        have succ : LwM.unsRow (Kp432.policyAt s k) (Kp432.policyAt s g) i (j + 1) = LwM.unsRow (Kp432.policyAt s k) (Kp432.policyAt s g) i j ++ LwM.unsAt (Kp432.policyAt s k) (Kp432.policyAt s g) i j := by
          unfold LwM.unsRow
          rw [List.range_succ, List.flatMap_append]
          simp
        refine ⟨_, rfl, a, _, dx, _, _, rfl, o, T.cl_Study, T.no_Study_policies, st_policies .., _, rfl, po, _, _, _, rfl, rfl, SqL.of f1, at_of (j := k) rfl f2, pb, db, _, rfl, hb, pol_no lb (by decide +kernel), _, rfl, _, rfl, pb, _, i, j, s.contexts, s.actions, rfl, hpb, gp, hi, hj, _, rfl, ?_⟩
        have none_ : ¬ ((Kp432.chance (Kp432.policyAt s k) i j).num ≠ 0 ∧ (Kp432.chance (Kp432.policyAt s g) i j).num = 0) → H2 D = some (.lst (((List.range i).flatMap (fun c => LwM.unsRow (Kp432.policyAt s k) (Kp432.policyAt s g) c s.actions) ++ LwM.unsRow (Kp432.policyAt s k) (Kp432.policyAt s g) i (j + 1)).map V.int)) := fun z => by
          have e : LwM.unsAt (Kp432.policyAt s k) (Kp432.policyAt s g) i j = [] := if_neg z
          rw [succ, e, List.append_nil]
          exact l2
        by_cases z : (Kp432.chance (Kp432.policyAt s k) i j).num = 0
        · have ez : (!decide ((Kp432.chance (Kp432.policyAt s k) i j).num = 0)) = false := by rw [decide_eq_true z]; rfl
          rw [ez]
          exact iteF ⟨some (nat j), rfl, s2, none_ fun q => q.1 z⟩
        · have ez : (!decide ((Kp432.chance (Kp432.policyAt s k) i j).num = 0)) = true := by rw [decide_eq_false z]; rfl
          rw [ez]
          refine iteT ⟨_, rfl, pa, da, _, rfl, ha, pol_no la (by decide +kernel), _, rfl, _, rfl, pa, _, i, j, s.contexts, s.actions, rfl, hpa2, gl, hi, hj, _, rfl, ?_⟩
          by_cases y : (Kp432.chance (Kp432.policyAt s g) i j).num = 0
          · have ey : (!(!decide ((Kp432.chance (Kp432.policyAt s g) i j).num = 0))) = true := by rw [decide_eq_true y]; rfl
            have en : LwM.unsAt (Kp432.policyAt s k) (Kp432.policyAt s g) i j = [(i : Int), (j : Int)] := if_pos ⟨z, y⟩
            have fw := few i j hi (Nat.le_of_lt hj)
            refine (congrArg (fun b => ite (b = true) _ _) ey).mpr (iteT ⟨_, rfl, .inl ⟨rfl, _, SqL.of l2⟩, _, rfl, _, rfl, (by show 2 ≤ sizeLine; decide), fun p2 n2 => ?_⟩)
            have s3 : Same H2 (L2.upd H2 p2 (.lst [nat i, nat j])) := Same.new n2
            refine ⟨D, p2, _, _, rfl, rfl, s3 _ _ l2, upd_same, room2 (by omega), some (nat j), rfl, Same.upd_new (s2.trans s3) nD, ?_⟩
            rw [upd_same, succ, en, ← List.append_assoc, List.map_append (l₂ := [(i : Int), (j : Int)])]
            rfl
          · have ey : (!(!decide ((Kp432.chance (Kp432.policyAt s g) i j).num = 0))) = false := by rw [decide_eq_false y]; rfl
            exact (congrArg (fun b => ite (b = true) _ _) ey).mpr (iteF ⟨some (nat j), rfl, s2, none_ fun q => y q.2⟩)
      · rintro σ H2 ⟨w6, rfl, s2, l2⟩
        refine ⟨some (nat i), w6, rfl, s2, ?_⟩
        rw [List.range_succ, List.flatMap_append]
        simpa using l2
    · rintro σ H1 ⟨v5, v6, rfl, s1, l1⟩
      have l1 : H1 D = some (.lst ((LwM.unsAll (Kp432.policyAt s k) (Kp432.policyAt s g) s.contexts s.actions).map V.int)) := l1
      have tw := LwM.uns_twice s (Kp432.policyAt s g) (Kp432.policyAt s k)
      have ul := LwM.unsAll_len (Kp432.policyAt s k) (Kp432.policyAt s g) s.contexts s.actions
      have z := Nat.mul_le_mul c6 (Nat.mul_le_mul a5 (Nat.le_refl 2))
      refine ⟨_, rfl, D, _, rfl, .inl (SqL.of l1), _, _, rfl, rfl, wide_div (b := 60) (by decide) (by decide) (by decide) (by decide), (by show 1 ≤ sizeLine; decide), fun p1 n1 => ?_⟩
      have s2 : Same H1 (L2.upd H1 p1 (.lst [.int ((((LwM.unsAll (Kp432.policyAt s k) (Kp432.policyAt s g) s.contexts s.actions).map V.int).length : Nat) / 2)])) := Same.new n1
      refine ⟨_, rfl, p1, D, _, _, rfl, rfl, upd_same, s2 _ _ l1, ?_, fun p3 n3 => ?_⟩
      · rw [List.length_map, sizeLine_eq]
        show 1 + _ ≤ _
        omega
      · have s12 := s1.trans s2
        have s3 := Same.new (H := L2.upd H1 p1 (.lst [.int ((((LwM.unsAll (Kp432.policyAt s k) (Kp432.policyAt s g) s.contexts s.actions).map V.int).length : Nat) / 2)])) (o := .lst ([.int ((((LwM.unsAll (Kp432.policyAt s k) (Kp432.policyAt s g) s.contexts s.actions).map V.int).length : Nat) / 2)] ++ (LwM.unsAll (Kp432.policyAt s k) (Kp432.policyAt s g) s.contexts s.actions).map V.int)) n3
        refine dn.good _ _ _ (Int.natCast_nonneg _) (LwM.uns_ans ⟨hg, hk⟩) p3 _ M (s12.free n3) ?_ (st.same (s12.trans s3)) (Moved.of (s12.trans s3))
        rw [upd_same, List.length_map, tw]
        have e : (((Kp432.unsupported s (Kp432.policyAt s g) (Kp432.policyAt s k)).length * 2 : Nat) : Int) / 2 = ((Kp432.unsupported s (Kp432.policyAt s g) (Kp432.policyAt s k)).length : Int) := by omega
        exact congrArg (fun z : Int => some (HO.lst (V.int z :: (LwM.unsAll (Kp432.policyAt s k) (Kp432.policyAt s g) s.contexts s.actions).map V.int))) e
end
end Lw
end
/-! LwReader -/
section
set_option Elab.async false
set_option linter.all false
set_option maxRecDepth 100000
set_option maxHeartbeats 4000000
/-! taking the list of calls apart -/
namespace Lw
open PySem PySem.Spec PyProof.Rows L2
def rdF (l : Addr) (i : Nat) : List (Str × V) := [("calls", .ref l), ("place", nat i)]
theorem rd_calls (l : Addr) (i : Nat) : (rdF l i).lookup ("calls" : Str) = some (.ref l) := lk0
theorem rd_place (l : Addr) (i : Nat) : (rdF l i).lookup ("place" : Str) = some (nat i) := (lk1 (by decide +kernel)).trans lk0
theorem rd_no (l : Addr) (i : Nat) {m : Str} (h1 : (m == ("calls" : Str)) = false) (h2 : (m == ("place" : Str)) = false) : (rdF l i).lookup m = none := (lk1 h1).trans ((lk1 h2).trans rfl)
theorem rd_put (l : Addr) (i j : Nat) : putF "place" (nat j) (rdF l i) = rdF l j := (pf1 (by decide +kernel)).trans (congrArg _ pf0)
/-- the reader stands at a, over the list at l, in front of its i-th number -/
def RdAt (A : Ad) (H : Hp) (a l : Addr) (i : Nat) : Prop := ∃ dx, H a = some (.ins A.c_Reader dx (rdF l i))
theorem RdAt.same {A : Ad} {H H' : Hp} {a l : Addr} {i : Nat} (h : RdAt A H a l i) (s : Same H H') : RdAt A H' a l i := by
  obtain ⟨dx, h⟩ := h
  exact ⟨dx, s _ _ h⟩
theorem RdAt.but {A : Ad} {H H' : Hp} {a l m : Addr} {i : Nat} (h : RdAt A H a l i) (k : But H H' m) : RdAt A H' a l i := by
  obtain ⟨dx, h⟩ := h
  exact ⟨dx, k.ins h⟩
/-- numbers that are read -/
abbrev Nums (K : PySem.W.Frag) (H : Hp) (l : Addr) (ns : List Nat) : Prop := SqL K H l (ns.map nat)
theorem sq_but {K : PySem.W.Frag} {H H' : Hp} {a l C dx : Addr} {fs : List (Str × V)} {xs : List V} (h : SqL K H l xs) (s : SameBut a H H') (ha : H a = some (.ins C dx fs)) : SqL K H' l xs := by
  rcases h with (h | ⟨o, h⟩) | h
  · exact .inl (.inl (s _ _ h (ne_of h ha (by intro z; cases z))))
  · exact .inl (.inr ⟨o, s _ _ h (ne_of h ha (by intro z; cases z))⟩)
  · exact .inr h
theorem sq_mut {K : PySem.W.Frag} {H H' : Hp} {l m : Addr} {xs : List V} (h : SqL K H l xs) (k : But H H' m) (n : l ≠ m) : SqL K H' l xs := by
  rcases h with (h | ⟨o, h⟩) | h
  · exact .inl (.inl (k.keep _ _ h n))
  · exact .inl (.inr ⟨o, k.keep _ _ h n⟩)
  · exact .inr h
def sp_Reader_init (K : PySem.W.Frag) (A : Ad) : Sp := fun vs H Q _ => ∃ (p dx l : Addr), vs = [.ref p, .ref l] ∧ H p = some (.ins A.c_Reader dx []) ∧ ∀ H', RdAt A H' p l 0 → SameBut p H H' → Q .non H'
def sp_Reader_ended (K : PySem.W.Frag) (A : Ad) : Sp := fun vs H Q _ => ∃ (a l : Addr) (ns : List Nat) (i : Nat), vs = [.ref a] ∧ RdAt A H a l i ∧ Nums K H l ns ∧ Q (.bl (decide (ns.length ≤ i))) H
def sp_Reader_number (K : PySem.W.Frag) (A : Ad) : Sp := fun vs H Q _ => ∃ (a l : Addr) (ns : List Nat) (i z : Nat), vs = [.ref a] ∧ RdAt A H a l i ∧ Nums K H l ns ∧ ns[i]? = some z ∧
  ∀ H', RdAt A H' a l (i + 1) → SameBut a H H' → Q (nat z) H'
def sp_Reader_row (K : PySem.W.Frag) (A : Ad) : Sp := fun vs H Q _ => ∃ (a l : Addr) (ns row rest : List Nat) (i : Nat), vs = [.ref a] ∧ RdAt A H a l i ∧ Nums K H l ns ∧ ns.drop i = row.length :: (row ++ rest) ∧ ns.length ≤ 1000000 ∧
  ∀ p H', H p = none → NatsAt H' p row → RdAt A H' a l (i + 1 + row.length) → SameBut a H H' → Q (.ref p) H'
def sp_Reader_arguments (K : PySem.W.Frag) (A : Ad) : Sp := fun vs H Q _ => ∃ (a l : Addr) (ns xs rest : List Nat) (rows : List (List Nat)) (i : Nat), vs = [.ref a, nat xs.length, nat rows.length] ∧ RdAt A H a l i ∧ Nums K H l ns ∧ ns.drop i = xs ++ (flatRows rows ++ rest) ∧
  ns.length ≤ 1000000 ∧ xs.length ≤ 100 ∧ rows.length ≤ 100 ∧ ∀ D H' (ps : List Addr), H D = none → H' D = some (.lst (xs.map nat ++ ps.map V.ref)) → ps.length = rows.length → (∀ (j : Nat) (p : Addr) (row : List Nat), ps[j]? = some p → rows[j]? = some row → NatsAt H' p row ∧ H p = none) →
    RdAt A H' a l (i + xs.length + (flatRows rows).length) → SameBut a H H' → Q (.ref D) H'
theorem get_drop {ns ys : List Nat} {i z : Nat} (h : ns.drop i = z :: ys) : ns[i]? = some z ∧ ns.drop (i + 1) = ys := by
  constructor
  · have := congrArg (fun l => l[0]?) h
    rw [List.getElem?_drop] at this
    exact this
  · rw [← List.drop_drop, h]
    rfl
theorem drop_len {ns xs : List Nat} {i : Nat} (h : ns.drop i = xs) : xs.length = ns.length - i := by
  rw [← h, List.length_drop]
theorem SameBut.side {p D : Addr} {H H1 : Hp} {o : HO} (s : SameBut p H H1) (n : H D = none) : SameBut p H (L2.upd H1 D o) := fun b u h nb => by
  rw [upd_ne (ne_of_none h n)]
  exact s b u h nb
theorem flatRows_split {rows : List (List Nat)} {row : List Nat} {j : Nat} (h : rows[j]? = some row) :
    flatRows rows = flatRows (rows.take j) ++ (row.length :: (row ++ flatRows (rows.drop (j + 1)))) ∧ flatRows (rows.take (j + 1)) = flatRows (rows.take j) ++ (row.length :: row) := by
  have lt : j < rows.length := (List.getElem?_eq_some_iff.mp h).1
  have e : rows[j] = row := (List.getElem?_eq_some_iff.mp h).2
  constructor
  · have s1 : rows = rows.take j ++ row :: rows.drop (j + 1) := by
      rw [← e, ← List.drop_eq_getElem_cons lt, List.take_append_drop]
    have s2 : flatRows rows = flatRows (rows.take j ++ row :: rows.drop (j + 1)) := congrArg flatRows s1
    rw [s2]
    unfold flatRows
    rw [List.flatMap_append, List.flatMap_cons]
    rfl
  · have s1 : rows.take (j + 1) = rows.take j ++ [row] := by
      rw [List.take_succ, h]
      rfl
    rw [s1]
    unfold flatRows
    rw [List.flatMap_append, List.flatMap_cons]
    simp
section
variable {P : Program} {w : World} {K : PySem.W.Frag} {mg : Str → Option Value} {base : Heap} {A : Ad}
theorem ok_Reader_init (T : Txt K mg A) : FnOk P w K mg base CX0 1 A.f_Reader_init A.d_Reader_init ["self", "calls"] (sp_Reader_init K A) := by
  refine T.fn_Reader_init.ok sc_Reader_init (fun vs H Q E h => ?_) (fun cdv Ar outer s H vs Q E hr h => ?_)
  · obtain ⟨p, dx, l, rfl, _⟩ := h
    rfl
  · obtain ⟨p, dx, l, rfl, hp, k⟩ := h
    refine ⟨_, (pss_cons (ps_fld (pv 0) (pv 1) rfl)
        (pss_one (ps_fld (pv 0) pe_int rfl))), ?_⟩
    refine ⟨_, rfl, _, rfl, p, _, dx, _, rfl, hp, T.cl_Reader, T.no_Reader_calls, (by show 0 < 1000; decide), ?_⟩
    refine ⟨_, rfl, p, _, dx, _, rfl, upd_same, T.cl_Reader, T.no_Reader_place, (by show 1 < 1000; decide), ?_⟩
    exact k _ ⟨dx, upd_same⟩ (SameBut.refl.put.put)
theorem ok_Reader_ended (T : Txt K mg A) : FnOk P w K mg base CX0 1 A.f_Reader_ended A.d_Reader_ended ["self"] (sp_Reader_ended K A) := by
  refine T.fn_Reader_ended.ok sc_Reader_ended (fun vs H Q E h => ?_) (fun cdv Ar outer s H vs Q E hr h => ?_)
  · obtain ⟨a, l, ns, i, rfl, _⟩ := h
    rfl
  · obtain ⟨a, l, ns, i, rfl, ⟨dx, hr⟩, hn, k⟩ := h
    refine ⟨_, (pss_one (ps_ret (pe_cmpR op_ge (pe_fld (pv 0) rfl) (pe_callB call_len_seq (by rfl) T.n_len PySem.boot_len (pa_cons (pe_fld (pv 0) rfl) pa_nil)) (nomark _)))), ?_⟩
    refine ⟨_, rfl, a, _, dx, _, _, rfl, hr, T.cl_Reader, T.no_Reader_place, rd_place l i, _, rfl, a, _, dx, _, _, rfl, hr, T.cl_Reader, T.no_Reader_calls, rd_calls l i, l, _, rfl, .inl hn, _, _, rfl, rfl, ?_⟩
    have e : decide (((ns.map nat).length : Int) ≤ (i : Int)) = decide (ns.length ≤ i) := by
      rw [List.length_map]
      exact decide_eq_decide.mpr (by omega)
    show Q (.bl (decide (((ns.map nat).length : Int) ≤ (i : Int)))) H
    rw [e]
    exact k
theorem ok_Reader_number (T : Txt K mg A) : FnOk P w K mg base CX0 1 A.f_Reader_number A.d_Reader_number ["self"] (sp_Reader_number K A) := by
  refine T.fn_Reader_number.ok sc_Reader_number (fun vs H Q E h => ?_) (fun cdv Ar outer s H vs Q E hr h => ?_)
  · obtain ⟨a, l, ns, i, z, rfl, _⟩ := h
    rfl
  · obtain ⟨a, l, ns, i, z, rfl, ⟨dx, hr⟩, hn, hz, k⟩ := h
    refine ⟨_, (pss_cons (ps_set (i := 1) sc_Reader_number.nd rfl (Or.inl rfl) (pe_ix ix_list (pe_fld (pv 0) rfl) (pe_fld (pv 0) rfl) (fun _ _ => rfl)))
        (pss_cons (ps_fldaug (pv 0) pe_int in_add)
        (pss_one (ps_ret (pv 1))))), ?_⟩
    refine ⟨_, rfl, a, _, dx, _, _, rfl, hr, T.cl_Reader, T.no_Reader_calls, rd_calls l i, _, rfl, a, _, dx, _, _, rfl, hr, T.cl_Reader, T.no_Reader_place, rd_place l i, l, _, _, nat z, rfl, rfl, hn, at_of (j := i) rfl (by rw [List.getElem?_map, hz]; rfl), ?_⟩
    refine ⟨_, rfl, a, _, dx, _, _, rfl, hr, T.cl_Reader, T.no_Reader_place, rd_place l i, _, _, rfl, rfl, dx, _, hr, (by show 2 < 1000; decide), ?_⟩
    refine ⟨_, rfl, k _ ⟨dx, ?_⟩ SameBut.refl.put⟩
    rw [upd_same]
    have e : V.int ((i : Int) + 1) = nat (i + 1) := congrArg V.int (by omega)
    rw [e, rd_put]
theorem ok_Reader_row (T : Txt K mg A) : FnOk P w K mg base CX0 2 A.f_Reader_row A.d_Reader_row ["self"] (sp_Reader_row K A) := by
  refine T.fn_Reader_row.ok sc_Reader_row (fun vs H Q E h => ?_) (fun cdv Ar outer s H vs Q E hr h => ?_)
  · obtain ⟨a, l, ns, row, rest, i, rfl, _⟩ := h
    rfl
  · obtain ⟨a, l, ns, row, rest, i, rfl, rd, hn, hd, hl, k⟩ := h
    refine ⟨_, (pss_cons (ps_set (i := 1) sc_Reader_row.nd rfl (Or.inl rfl) (pe_meth0 (pv 0) T.cl_Reader T.me_Reader_number (ok_Reader_number T) (hr.mono (by decide)) (bi_Reader_number T) .nil pass0))
        (pss_cons (ps_set (i := 2) sc_Reader_row.nd rfl (Or.inl rfl) (pe_fld (pv 0) rfl))
        (pss_cons (ps_fldaug (pv 0) (pv 1) in_add)
        (pss_one (ps_ret (pe_slice sl_list (pe_fld (pv 0) rfl) (po_some (pv 2)) (po_some (pe_fld (pv 0) rfl)))))))), ?_⟩
    obtain ⟨h1, h2⟩ := get_drop hd
    obtain ⟨dx, hr0⟩ := id rd
    refine ⟨_, rfl, a, dx, _, rfl, hr0, rd_no l i (by decide +kernel) (by decide +kernel), a, l, ns, i, row.length, rfl, rd, hn, h1, fun H1 ⟨dx1, hr1⟩ s1 => ?_⟩
    refine ⟨_, rfl, a, _, dx1, _, _, rfl, hr1, T.cl_Reader, T.no_Reader_place, rd_place l (i + 1), ?_⟩
    refine ⟨_, rfl, a, _, dx1, _, _, rfl, hr1, T.cl_Reader, T.no_Reader_place, rd_place l (i + 1), _, rfl, _, _, rfl, rfl, dx1, _, hr1, (by show 2 < 1000; decide), ?_⟩
    have e : V.int (((i + 1 : Nat) : Int) + (row.length : Int)) = nat (i + 1 + row.length) := congrArg V.int (by omega)
    have r2 : RdAt A (L2.upd H1 a (.ins A.c_Reader dx1 (putF "place" (V.int (((i + 1 : Nat) : Int) + (row.length : Int))) (rdF l (i + 1))))) a l (i + 1 + row.length) := ⟨dx1, by rw [upd_same, e, rd_put]⟩
    have s2 : SameBut a H (L2.upd H1 a (.ins A.c_Reader dx1 (putF "place" (V.int (((i + 1 : Nat) : Int) + (row.length : Int))) (rdF l (i + 1))))) := s1.put
    have n2 := sq_but hn s2 hr0
    generalize (L2.upd H1 a (.ins A.c_Reader dx1 (putF "place" (V.int (((i + 1 : Nat) : Int) + (row.length : Int))) (rdF l (i + 1))))) = H2 at r2 s2 n2 ⊢
    obtain ⟨dx2, hr2⟩ := id r2
    refine ⟨_, rfl, a, _, dx2, _, _, rfl, hr2, T.cl_Reader, T.no_Reader_calls, rd_calls l _, _, rfl, _, rfl, _, rfl, a, _, dx2, _, _, rfl, hr2, T.cl_Reader, T.no_Reader_place, rd_place l _, _, rfl, l, _, rfl, n2, fun p np => ?_⟩
    have pa : p ≠ a := Ne.symm (ne_of_none hr2 np)
    refine k p _ (s2.free np pa) ?_ (r2.same (Same.new np)) (s2.then (Same.new np))
    show L2.upd H2 p _ p = _
    rw [upd_same]
    have len := drop_len hd
    rw [List.length_cons, List.length_append] at len
    have e1 : cutV (ns.map nat) (some ((i + 1 : Nat) : Int)) (some ((i + 1 + row.length : Nat) : Int)) = row.map nat := by
      unfold cutV
      rw [HT.sIx_nat, HT.sIx_nat, List.length_map]
      have m1 : min (i + 1) ns.length = i + 1 := by omega
      have m2 : min (i + 1 + row.length) ns.length = i + 1 + row.length := by omega
      rw [m1, m2, ← List.map_drop, h2, ← List.map_take]
      have m3 : i + 1 + row.length - (i + 1) = row.length := by omega
      rw [m3, List.take_left]
    exact congrArg (fun z => some (HO.lst z)) e1
theorem ok_Reader_arguments (T : Txt K mg A) : FnOk P w K mg base CX0 3 A.f_Reader_arguments A.d_Reader_arguments ["self", "wholes", "rows"] (sp_Reader_arguments K A) := by
  refine T.fn_Reader_arguments.ok sc_Reader_arguments (fun vs H Q E h => ?_) (fun cdv Ar outer s H vs Q E hr h => ?_)
  · obtain ⟨a, l, ns, xs, rest, rows, i, rfl, _⟩ := h
    rfl
  · obtain ⟨a, l, ns, xs, rest, rows, i, rfl, rd, hn, hd, hl, hx9, hr9, k⟩ := h
    refine ⟨_, (pss_cons (ps_set (i := 3) sc_Reader_arguments.nd rfl (Or.inl rfl) (pe_lst pa_nil))
        (pss_cons (ps_for PassesOwn.never rfl (pi_range1 (by rfl) T.n_range (pa_cons (pv 1) pa_nil)) (pg_name (i := 4) sc_Reader_arguments.nd rfl (Or.inl rfl)) (pss_one (ps_expr (pe_bm PySem.F.plainAttrs_list PySem.F.slot_list_append PySem.F.type_list_append mt_append (pv 3) (pa_cons (pe_meth0 (pv 0) T.cl_Reader T.me_Reader_number (ok_Reader_number T) (hr.mono (by decide)) (bi_Reader_number T) .nil pass0) pa_nil)))))
        (pss_cons (ps_for PassesOwn.never rfl (pi_range1 (by rfl) T.n_range (pa_cons (pv 2) pa_nil)) (pg_name (i := 4) sc_Reader_arguments.nd rfl (Or.inl rfl)) (pss_one (ps_expr (pe_bm PySem.F.plainAttrs_list PySem.F.slot_list_append PySem.F.type_list_append mt_append (pv 3) (pa_cons (pe_meth0 (pv 0) T.cl_Reader T.me_Reader_row (ok_Reader_row T) (hr.mono (by decide)) (bi_Reader_row T) .nil pass0) pa_nil)))))
        (pss_one (ps_ret (pv 3)))))), ?_⟩
    have len := drop_len hd
    rw [List.length_append, List.length_append] at len
    obtain ⟨dx, ra⟩ := id rd
    refine to_seq (to_asg (to_lst0 fun D nD => to_name (to_nx (to_seq ?_))))
    have aD : a ≠ D := ne_of_none ra nD
    refine ⟨nat xs.length, rfl, xs.length, rfl, by omega, by omega, for_range (lo := 0) (n := xs.length) (fun j σ H' => ∃ (v : Option V), σ = [some (.ref a), some (nat xs.length), some (nat rows.length), some (.ref D), v] ∧ RdAt A H' a l (i + j) ∧ SameBut a H H' ∧ H' D = some (.lst ((xs.take j).map nat)))
      ⟨none, rfl, rd.same (Same.new nD), (SameBut.refl (p := a)).side nD, upd_same⟩ ?_ ?_⟩
    · rintro j σ H1 hj ⟨v, rfl, rd1, s1, h1⟩
      obtain ⟨dx1, ra1⟩ := id rd1
      have hx : xs[j]? = some (xs[j]) := List.getElem?_eq_getElem hj
      have hz : ns[i + j]? = some (xs[j]) := by
        have := congrArg (fun l => l[j]?) hd
        rw [List.getElem?_drop, List.getElem?_append_left hj] at this
        rw [this, hx]
      refine to_name ?_
      refine ⟨_, rfl, .inl ⟨rfl, _, SqL.of h1⟩, _, rfl, a, dx1, _, rfl, ra1, rd_no l _ (by decide +kernel) (by decide +kernel), a, l, ns, i + j, xs[j], rfl, rd1, sq_but hn s1 ra, hz, fun H2 rd2 s2 => ?_⟩
      have h2 := s2 _ _ h1 (Ne.symm aD)
      refine ⟨D, _, _, rfl, rfl, h2, ?_, ?_⟩
      · rw [List.length_map, List.length_take]
        exact size1000 (by omega)
      · refine ⟨_, rfl, ?_, (s1.trans s2).side nD, ?_⟩
        · exact rd2.but (But.upd h2)
        · rw [upd_same]
          have e : (xs.take (j + 1)).map nat = (xs.take j).map nat ++ [nat xs[j]] := by
            rw [List.take_succ, hx, List.map_append]
            rfl
          rw [e]
    · rintro σ H1 ⟨v, rfl, rd1, s1, h1⟩
      rw [List.take_length] at h1
      refine ⟨nat rows.length, rfl, rows.length, rfl, by omega, by omega, for_range (lo := 0) (n := rows.length) (fun j σ H' => ∃ (v : Option V) (ps : List Addr), σ = [some (.ref a), some (nat xs.length), some (nat rows.length), some (.ref D), v] ∧ RdAt A H' a l (i + xs.length + (flatRows (rows.take j)).length) ∧ SameBut a H H' ∧ H' D = some (.lst (xs.map nat ++ ps.map V.ref)) ∧ ps.length = j ∧
        ∀ (m : Nat) (p : Addr) (row : List Nat), ps[m]? = some p → rows[m]? = some row → NatsAt H' p row ∧ H p = none ∧ p ≠ D)
        ⟨v, [], rfl, rd1, s1, h1.trans (by simp), rfl, fun m p row hp => by cases hp⟩ ?_ ?_⟩
      · rintro j σ H2 hj ⟨v2, ps, rfl, rd2, s2, h2, hps, hr2⟩
        obtain ⟨dx2, ra2⟩ := id rd2
        have hx : rows[j]? = some (rows[j]) := List.getElem?_eq_getElem hj
        obtain ⟨f1, f2⟩ := flatRows_split hx
        have hd2 : ns.drop (i + xs.length + (flatRows (rows.take j)).length) = rows[j].length :: (rows[j] ++ (flatRows (rows.drop (j + 1)) ++ rest)) := by
          rw [← List.drop_drop, ← List.drop_drop, hd, List.drop_left, f1, List.append_assoc, List.drop_left]
          simp
        refine to_name ?_
        refine ⟨_, rfl, .inl ⟨rfl, _, SqL.of h2⟩, _, rfl, a, dx2, _, rfl, ra2, rd_no l _ (by decide +kernel) (by decide +kernel), a, l, ns, rows[j], _, _, rfl, rd2, sq_but hn s2 ra, hd2, hl, fun p H3 np r3 rd3 s3 => ?_⟩
        have h3 := s3 _ _ h2 (Ne.symm aD)
        have pD : p ≠ D := Ne.symm (ne_of_none h2 np)
        have pa : p ≠ a := Ne.symm (ne_of_none ra2 np)
        refine ⟨D, _, _, rfl, rfl, h3, ?_, ?_⟩
        · rw [List.length_append, List.length_map, List.length_map, hps]
          exact size1000 (by omega)
        · have e : xs.map nat ++ ps.map V.ref ++ [V.ref p] = xs.map nat ++ (ps ++ [p]).map V.ref := by
            rw [List.map_append, List.append_assoc]
            rfl
          refine ⟨_, ps ++ [p], rfl, ?_, (s2.trans s3).side nD, ?_, by rw [List.length_append, hps]; rfl, ?_⟩
          · have e2 : i + xs.length + (flatRows (rows.take (j + 1))).length = i + xs.length + (flatRows (rows.take j)).length + 1 + rows[j].length := by
              rw [f2, List.length_append, List.length_cons]
              omega
            rw [e2]
            exact rd3.but (But.upd h3)
          · rw [upd_same, e]
          · intro m p' row' hp' hrow'
            rcases Nat.lt_trichotomy m ps.length with hm | hm | hm
            · rw [List.getElem?_append_left hm] at hp'
              obtain ⟨q1, q2, q3⟩ := hr2 m p' row' hp' hrow'
              refine ⟨?_, q2, q3⟩
              have na : p' ≠ a := Ne.symm (ne_of_none ra q2)
              exact (upd_ne q3).trans (s3 _ _ q1 na)
            · subst hm
              rw [List.getElem?_append_right (Nat.le_refl _), Nat.sub_self] at hp'
              injection hp' with hp'
              subst hp'
              rw [hps, hx] at hrow'
              injection hrow' with hrow'
              subst hrow'
              exact ⟨(upd_ne pD).trans r3, s2.free np pa, pD⟩
            · rw [List.getElem?_eq_none (by rw [List.length_append]; show ps.length + 1 ≤ m; omega)] at hp'
              cases hp'
      · rintro σ H2 ⟨v2, ps, rfl, rd2, s2, h2, hps, hr2⟩
        rw [List.take_length] at rd2
        exact ⟨_, rfl, k D H2 ps nD h2 hps (fun m p row hp hrow => ⟨(hr2 m p row hp hrow).1, (hr2 m p row hp hrow).2.1⟩) rd2 s2⟩
end
end Lw
end
/-! LwSession -/
section
set_option Elab.async false
set_option linter.all false
set_option maxRecDepth 100000
set_option maxHeartbeats 4000000
/-! one call: which def carries it out, and how -/
namespace Lw
open PySem PySem.Spec PyProof.Rows L2
open Kp432 (Fraction Study Policy State)
/-- the defs that carry calls out, with their promises -/
inductive OpAt (K : PySem.W.Frag) (A : Ad) : Addr → Sp → Prop
  | add_event : OpAt K A A.f_add_event (sp_add_event K A)
  | remove_last : OpAt K A A.f_remove_last (sp_remove_last K A)
  | log_event : OpAt K A A.f_log_event (sp_log_event K A)
  | set_policy : OpAt K A A.f_set_policy (sp_set_policy K A)
  | copy_policy : OpAt K A A.f_copy_policy (sp_copy_policy K A)
  | set_model : OpAt K A A.f_set_model (sp_set_model K A)
  | fit_model : OpAt K A A.f_fit_model (sp_fit_model K A)
  | set_truth : OpAt K A A.f_set_truth (sp_set_truth K A)
  | propensity : OpAt K A A.f_propensity (sp_propensity K A)
  | estimate : OpAt K A A.f_estimate (sp_estimate K A)
  | normalized : OpAt K A A.f_normalized (sp_normalized K A)
  | replay : OpAt K A A.f_replay (sp_replay K A)
  | effective_size : OpAt K A A.f_effective_size (sp_effective_size K A)
  | variance : OpAt K A A.f_variance (sp_variance K A)
  | interval : OpAt K A A.f_interval (sp_interval K A)
  | compare : OpAt K A A.f_compare (sp_compare K A)
  | by_context : OpAt K A A.f_by_context (sp_by_context K A)
  | greatest_weight : OpAt K A A.f_greatest_weight (sp_greatest_weight K A)
  | model_info : OpAt K A A.f_model_info (sp_model_info K A)
  | bootstrap : OpAt K A A.f_bootstrap (sp_bootstrap K A)
  | status : OpAt K A A.f_status (sp_status K A)
  | precision : OpAt K A A.f_precision (sp_precision K A)
  | rank_measures : OpAt K A A.f_rank_measures (sp_rank_measures K A)
  | gain_measures : OpAt K A A.f_gain_measures (sp_gain_measures K A)
  | order_measure : OpAt K A A.f_order_measure (sp_order_measure K A)
  | true_value : OpAt K A A.f_true_value (sp_true_value K A)
  | expectation : OpAt K A A.f_expectation (sp_expectation K A)
  | unsupported : OpAt K A A.f_unsupported (sp_unsupported K A)
/-- the table that names a call's def, of three -/
inductive Named (z : Nat) (f : Addr) (t1 t2 t3 : List (Int × Addr)) : Prop
  | one (h : t1.lookup (z : Int) = some f)
  | two (n : t1.lookup (z : Int) = none) (h : t2.lookup (z : Int) = some f)
  | three (n : t1.lookup (z : Int) = none) (m : t2.lookup (z : Int) = none) (h : t3.lookup (z : Int) = some f)
def sp_operation_of (K : PySem.W.Frag) (A : Ad) : Sp := fun vs H Q _ => ∃ (z : Nat) (f : Addr) (t1 t2 t3 : List (Int × Addr)), vs = [nat z] ∧ KInt K A.v_CHANGES t1 ∧ KInt K A.v_TRUTHS t2 ∧ KInt K A.v_QUESTIONS t3 ∧ Named z f t1 t2 t3 ∧ Q (.ref f) H
def sp_carry_out (K : PySem.W.Frag) (A : Ad) : Sp := fun vs H Q E => ∃ (f D : Addr) (sp : Sp) (xs : List V), vs = [.ref f, .ref D] ∧ OpAt K A f sp ∧ H D = some (.lst xs) ∧ 1 ≤ xs.length ∧ xs.length ≤ 6 ∧ sp xs H Q E
/-- a test of a length -/
theorem len_yes {K : PySem.W.Frag} {t u : TS} {B : Ends} {σ : L2.St} {H : Hp} {D : Addr} {xs : List V} {j : Nat} {m : Int} (hs : σ[j]? = some (some (.ref D))) (sq : SqL K H D xs) (e : (xs.length : Int) = m) (h : t B σ H) :
    tIfS (tTest (tOp rEq (tCB (fun vs H1 Q => ∃ p ys, vs = [V.ref p] ∧ (SqL K H1 p ys ∨ SqT K H1 p ys) ∧ Q (V.int ys.length) H1) (tCons (tVar j) tNil)) (tC (V.int m)))) t u B σ H := by
  refine ⟨_, hs, D, xs, rfl, .inl sq, rfl, true, ?_, ?_⟩
  · exact congrArg V.bl (decide_eq_true (congrArg V.int e))
  · exact h
theorem len_no {K : PySem.W.Frag} {t u : TS} {B : Ends} {σ : L2.St} {H : Hp} {D : Addr} {xs : List V} {j : Nat} {m : Int} (hs : σ[j]? = some (some (.ref D))) (sq : SqL K H D xs) (e : (xs.length : Int) ≠ m) (h : u B σ H) :
    tIfS (tTest (tOp rEq (tCB (fun vs H1 Q => ∃ p ys, vs = [V.ref p] ∧ (SqL K H1 p ys ∨ SqT K H1 p ys) ∧ Q (V.int ys.length) H1) (tCons (tVar j) tNil)) (tC (V.int m)))) t u B σ H := by
  refine ⟨_, hs, D, xs, rfl, .inl sq, rfl, false, ?_, ?_⟩
  · exact congrArg V.bl (decide_eq_false fun z => e (by injection z))
  · exact h
section
variable {P : Program} {w : World} {K : PySem.W.Frag} {mg : Str → Option Value} {base : Heap} {A : Ad}
theorem ops_held (T : Txt K mg A) : ∀ f sp, OpAt K A f sp → HeldX P w K mg base 10 f sp := by
  intro f sp h
  constructor
  cases h with
  | add_event => exact ⟨_, _, (ok_add_event T).mono (by decide), T.fn_add_event.kp, bi_add_event T⟩
  | remove_last => exact ⟨_, _, (ok_remove_last T).mono (by decide), T.fn_remove_last.kp, bi_remove_last T⟩
  | log_event => exact ⟨_, _, (ok_log_event T).mono (by decide), T.fn_log_event.kp, bi_log_event T⟩
  | set_policy => exact ⟨_, _, (ok_set_policy T).mono (by decide), T.fn_set_policy.kp, bi_set_policy T⟩
  | copy_policy => exact ⟨_, _, (ok_copy_policy T).mono (by decide), T.fn_copy_policy.kp, bi_copy_policy T⟩
  | set_model => exact ⟨_, _, (ok_set_model T).mono (by decide), T.fn_set_model.kp, bi_set_model T⟩
  | fit_model => exact ⟨_, _, (ok_fit_model T).toX.mono (by decide), T.fn_fit_model.kp, bi_fit_model T⟩
  | set_truth => exact ⟨_, _, (ok_set_truth T).mono (by decide), T.fn_set_truth.kp, bi_set_truth T⟩
  | propensity => exact ⟨_, _, (ok_propensity T).mono (by decide), T.fn_propensity.kp, bi_propensity T⟩
  | estimate => exact ⟨_, _, (ok_estimate T).mono (by decide), T.fn_estimate.kp, bi_estimate T⟩
  | normalized => exact ⟨_, _, (ok_normalized T).mono (by decide), T.fn_normalized.kp, bi_normalized T⟩
  | replay => exact ⟨_, _, (ok_replay T).mono (by decide), T.fn_replay.kp, bi_replay T⟩
  | effective_size => exact ⟨_, _, (ok_effective_size T).mono (by decide), T.fn_effective_size.kp, bi_effective_size T⟩
  | variance => exact ⟨_, _, (ok_variance T).mono (by decide), T.fn_variance.kp, bi_variance T⟩
  | interval => exact ⟨_, _, (ok_interval T).mono (by decide), T.fn_interval.kp, bi_interval T⟩
  | compare => exact ⟨_, _, (ok_compare T).mono (by decide), T.fn_compare.kp, bi_compare T⟩
  | by_context => exact ⟨_, _, (ok_by_context T).mono (by decide), T.fn_by_context.kp, bi_by_context T⟩
  | greatest_weight => exact ⟨_, _, (ok_greatest_weight T).mono (by decide), T.fn_greatest_weight.kp, bi_greatest_weight T⟩
  | model_info => exact ⟨_, _, (ok_model_info T).mono (by decide), T.fn_model_info.kp, bi_model_info T⟩
  | bootstrap => exact ⟨_, _, (ok_bootstrap T).mono (by decide), T.fn_bootstrap.kp, bi_bootstrap T⟩
  | status => exact ⟨_, _, (ok_status T).toX.mono (by decide), T.fn_status.kp, bi_status T⟩
  | precision => exact ⟨_, _, (ok_precision T).mono (by decide), T.fn_precision.kp, bi_precision T⟩
  | rank_measures => exact ⟨_, _, (ok_rank_measures T).mono (by decide), T.fn_rank_measures.kp, bi_rank_measures T⟩
  | gain_measures => exact ⟨_, _, (ok_gain_measures T).mono (by decide), T.fn_gain_measures.kp, bi_gain_measures T⟩
  | order_measure => exact ⟨_, _, (ok_order_measure T).mono (by decide), T.fn_order_measure.kp, bi_order_measure T⟩
  | true_value => exact ⟨_, _, (ok_true_value T).mono (by decide), T.fn_true_value.kp, bi_true_value T⟩
  | expectation => exact ⟨_, _, (ok_expectation T).mono (by decide), T.fn_expectation.kp, bi_expectation T⟩
  | unsupported => exact ⟨_, _, (ok_unsupported T).mono (by decide), T.fn_unsupported.kp, bi_unsupported T⟩
theorem ok_operation_of (T : Txt K mg A) : FnOk P w K mg base CX0 1 A.f_operation_of A.d_operation_of ["number"] (sp_operation_of K A) := by
  refine T.fn_operation_of.ok sc_operation_of (fun vs H Q E h => ?_) (fun cdv Ar outer s H vs Q E hr h => ?_)
  · obtain ⟨z, f, t1, t2, t3, rfl, _⟩ := h
    rfl
  · obtain ⟨z, f, t1, t2, t3, rfl, k1, k2, k3, hz, k⟩ := h
    have k_CHANGES := T.k_CHANGES
    have k_TRUTHS := T.k_TRUTHS
    have k_QUESTIONS := T.k_QUESTIONS
    refine ⟨_, (pss_cons (ps_if (pt_cmpR op_in_kint (pv 0) (pe_glob (v := .ref A.v_CHANGES) rfl k_CHANGES rfl) (by rfl)) (pss_one (ps_ret (pe_ix ix_kint (pe_glob (v := .ref A.v_CHANGES) rfl k_CHANGES rfl) (pv 0) (fun _ _ => rfl)))) pss_nil)
        (pss_cons (ps_if (pt_cmpR op_in_kint (pv 0) (pe_glob (v := .ref A.v_TRUTHS) rfl k_TRUTHS rfl) (by rfl)) (pss_one (ps_ret (pe_ix ix_kint (pe_glob (v := .ref A.v_TRUTHS) rfl k_TRUTHS rfl) (pv 0) (fun _ _ => rfl)))) pss_nil)
        (pss_one (ps_ret (pe_ix ix_kint (pe_glob (v := .ref A.v_QUESTIONS) rfl k_QUESTIONS rfl) (pv 0) (fun _ _ => rfl)))))), ?_⟩
    refine ⟨_, rfl, (z : Int), A.v_CHANGES, t1, rfl, rfl, k1, ?_⟩
    cases hz with
    | one hz =>
      rw [hz]
      exact ⟨_, rfl, _, rfl, (z : Int), A.v_CHANGES, f, t1, rfl, rfl, k1, hz, k⟩
    | two n1 hz =>
      rw [n1]
      refine ⟨_, rfl, _, rfl, (z : Int), A.v_TRUTHS, t2, rfl, rfl, k2, ?_⟩
      rw [hz]
      exact ⟨_, rfl, _, rfl, (z : Int), A.v_TRUTHS, f, t2, rfl, rfl, k2, hz, k⟩
    | three n1 n2 hz =>
      rw [n1]
      refine ⟨_, rfl, _, rfl, (z : Int), A.v_TRUTHS, t2, rfl, rfl, k2, ?_⟩
      rw [n2]
      exact ⟨_, rfl, _, rfl, (z : Int), A.v_QUESTIONS, f, t3, rfl, rfl, k3, hz, k⟩
theorem ok_carry_out (T : Txt K mg A) : FnOk P w K mg base (L2.CX P w) 11 A.f_carry_out A.d_carry_out ["operation", "given"] (sp_carry_out K A) := by
  refine T.fn_carry_out.okX sc_carry_out (fun vs H Q E h => ?_) (fun cdv Ar outer s H vs Q E hr h => ?_)
  · obtain ⟨f, D, sp, xs, rfl, _⟩ := h
    rfl
  · obtain ⟨f, D, sp, xs, rfl, op, hD, h1, hn, k⟩ := h
    refine ⟨_, (pss_cons (ps_if (pt_cmpR op_eq (pe_callB call_len_seq (by rfl) T.n_len PySem.boot_len (pa_cons (pv 1) pa_nil)) pe_int (nomark _)) (pss_one (ps_ret (pe_callX (i := 0) (ops_held T) (hr.mono (by decide)) rfl (Or.inl rfl) (passes_call (takes_of rfl rfl rfl rfl) (fun _ _ _ _ h => h)) (pa_cons (pe_ix ix_list (pv 1) pe_int (fun _ _ => rfl)) pa_nil)))) pss_nil)
        (pss_cons (ps_if (pt_cmpR op_eq (pe_callB call_len_seq (by rfl) T.n_len PySem.boot_len (pa_cons (pv 1) pa_nil)) pe_int (nomark _)) (pss_one (ps_ret (pe_callX (i := 0) (ops_held T) (hr.mono (by decide)) rfl (Or.inl rfl) (passes_call (takes_of rfl rfl rfl rfl) (fun _ _ _ _ h => h)) (pa_cons (pe_ix ix_list (pv 1) pe_int (fun _ _ => rfl)) (pa_cons (pe_ix ix_list (pv 1) pe_int (fun _ _ => rfl)) pa_nil))))) pss_nil)
        (pss_cons (ps_if (pt_cmpR op_eq (pe_callB call_len_seq (by rfl) T.n_len PySem.boot_len (pa_cons (pv 1) pa_nil)) pe_int (nomark _)) (pss_one (ps_ret (pe_callX (i := 0) (ops_held T) (hr.mono (by decide)) rfl (Or.inl rfl) (passes_call (takes_of rfl rfl rfl rfl) (fun _ _ _ _ h => h)) (pa_cons (pe_ix ix_list (pv 1) pe_int (fun _ _ => rfl)) (pa_cons (pe_ix ix_list (pv 1) pe_int (fun _ _ => rfl)) (pa_cons (pe_ix ix_list (pv 1) pe_int (fun _ _ => rfl)) pa_nil)))))) pss_nil)
        (pss_cons (ps_if (pt_cmpR op_eq (pe_callB call_len_seq (by rfl) T.n_len PySem.boot_len (pa_cons (pv 1) pa_nil)) pe_int (nomark _)) (pss_one (ps_ret (pe_callX (i := 0) (ops_held T) (hr.mono (by decide)) rfl (Or.inl rfl) (passes_call (takes_of rfl rfl rfl rfl) (fun _ _ _ _ h => h)) (pa_cons (pe_ix ix_list (pv 1) pe_int (fun _ _ => rfl)) (pa_cons (pe_ix ix_list (pv 1) pe_int (fun _ _ => rfl)) (pa_cons (pe_ix ix_list (pv 1) pe_int (fun _ _ => rfl)) (pa_cons (pe_ix ix_list (pv 1) pe_int (fun _ _ => rfl)) pa_nil))))))) pss_nil)
        (pss_cons (ps_if (pt_cmpR op_eq (pe_callB call_len_seq (by rfl) T.n_len PySem.boot_len (pa_cons (pv 1) pa_nil)) pe_int (nomark _)) (pss_one (ps_ret (pe_callX (i := 0) (ops_held T) (hr.mono (by decide)) rfl (Or.inl rfl) (passes_call (takes_of rfl rfl rfl rfl) (fun _ _ _ _ h => h)) (pa_cons (pe_ix ix_list (pv 1) pe_int (fun _ _ => rfl)) (pa_cons (pe_ix ix_list (pv 1) pe_int (fun _ _ => rfl)) (pa_cons (pe_ix ix_list (pv 1) pe_int (fun _ _ => rfl)) (pa_cons (pe_ix ix_list (pv 1) pe_int (fun _ _ => rfl)) (pa_cons (pe_ix ix_list (pv 1) pe_int (fun _ _ => rfl)) pa_nil)))))))) pss_nil)
        (pss_one (ps_ret (pe_callX (i := 0) (ops_held T) (hr.mono (by decide)) rfl (Or.inl rfl) (passes_call (takes_of rfl rfl rfl rfl) (fun _ _ _ _ h => h)) (pa_cons (pe_ix ix_list (pv 1) pe_int (fun _ _ => rfl)) (pa_cons (pe_ix ix_list (pv 1) pe_int (fun _ _ => rfl)) (pa_cons (pe_ix ix_list (pv 1) pe_int (fun _ _ => rfl)) (pa_cons (pe_ix ix_list (pv 1) pe_int (fun _ _ => rfl)) (pa_cons (pe_ix ix_list (pv 1) pe_int (fun _ _ => rfl)) (pa_cons (pe_ix ix_list (pv 1) pe_int (fun _ _ => rfl)) pa_nil)))))))))))))), ?_⟩
    have sq : SqL K H D xs := SqL.of hD
    match xs, h1, hn with
    | [], h1, _ => exact absurd h1 (by decide)
    | [x0], _, _ =>
      refine len_yes rfl sq rfl ?_
      exact ⟨f, sp, rfl, op, _, rfl, D, _, 0, _, rfl, rfl, sq, rfl, k⟩
    | [x0, x1], _, _ =>
      refine len_no rfl sq (by show ((2 : Nat) : Int) ≠ 1; decide) ?_
      refine len_yes rfl sq rfl ?_
      exact ⟨f, sp, rfl, op, _, rfl, D, _, 0, _, rfl, rfl, sq, rfl, _, rfl, D, _, 1, _, rfl, rfl, sq, rfl, k⟩
    | [x0, x1, x2], _, _ =>
      refine len_no rfl sq (by show ((3 : Nat) : Int) ≠ 1; decide) ?_
      refine len_no rfl sq (by show ((3 : Nat) : Int) ≠ 2; decide) ?_
      refine len_yes rfl sq rfl ?_
      exact ⟨f, sp, rfl, op, _, rfl, D, _, 0, _, rfl, rfl, sq, rfl, _, rfl, D, _, 1, _, rfl, rfl, sq, rfl, _, rfl, D, _, 2, _, rfl, rfl, sq, rfl, k⟩
    | [x0, x1, x2, x3], _, _ =>
      refine len_no rfl sq (by show ((4 : Nat) : Int) ≠ 1; decide) ?_
      refine len_no rfl sq (by show ((4 : Nat) : Int) ≠ 2; decide) ?_
      refine len_no rfl sq (by show ((4 : Nat) : Int) ≠ 3; decide) ?_
      refine len_yes rfl sq rfl ?_
      exact ⟨f, sp, rfl, op, _, rfl, D, _, 0, _, rfl, rfl, sq, rfl, _, rfl, D, _, 1, _, rfl, rfl, sq, rfl, _, rfl, D, _, 2, _, rfl, rfl, sq, rfl, _, rfl, D, _, 3, _, rfl, rfl, sq, rfl, k⟩
    | [x0, x1, x2, x3, x4], _, _ =>
      refine len_no rfl sq (by show ((5 : Nat) : Int) ≠ 1; decide) ?_
      refine len_no rfl sq (by show ((5 : Nat) : Int) ≠ 2; decide) ?_
      refine len_no rfl sq (by show ((5 : Nat) : Int) ≠ 3; decide) ?_
      refine len_no rfl sq (by show ((5 : Nat) : Int) ≠ 4; decide) ?_
      refine len_yes rfl sq rfl ?_
      exact ⟨f, sp, rfl, op, _, rfl, D, _, 0, _, rfl, rfl, sq, rfl, _, rfl, D, _, 1, _, rfl, rfl, sq, rfl, _, rfl, D, _, 2, _, rfl, rfl, sq, rfl, _, rfl, D, _, 3, _, rfl, rfl, sq, rfl, _, rfl, D, _, 4, _, rfl, rfl, sq, rfl, k⟩
    | [x0, x1, x2, x3, x4, x5], _, _ =>
      refine len_no rfl sq (by show ((6 : Nat) : Int) ≠ 1; decide) ?_
      refine len_no rfl sq (by show ((6 : Nat) : Int) ≠ 2; decide) ?_
      refine len_no rfl sq (by show ((6 : Nat) : Int) ≠ 3; decide) ?_
      refine len_no rfl sq (by show ((6 : Nat) : Int) ≠ 4; decide) ?_
      refine len_no rfl sq (by show ((6 : Nat) : Int) ≠ 5; decide) ?_
      exact ⟨f, sp, rfl, op, _, rfl, D, _, 0, _, rfl, rfl, sq, rfl, _, rfl, D, _, 1, _, rfl, rfl, sq, rfl, _, rfl, D, _, 2, _, rfl, rfl, sq, rfl, _, rfl, D, _, 3, _, rfl, rfl, sq, rfl, _, rfl, D, _, 4, _, rfl, rfl, sq, rfl, _, rfl, D, _, 5, _, rfl, rfl, sq, rfl, k⟩
    | _ :: _ :: _ :: _ :: _ :: _ :: _ :: _, _, hn => exact absurd hn (by simp)
end
end Lw
end
/-! LwAnswer -/
section
set_option Elab.async false
set_option linter.all false
set_option maxRecDepth 100000
set_option maxHeartbeats 4000000
/-! one call answered -/
namespace Lw
open PySem PySem.Spec PyProof.Rows L2
open Kp432 (Fraction Study Policy State)
/-- what a call is given lies at D: its numbers, then its rows, each a list of its own -/
structure GivenAt (H : Hp) (D : Addr) (c : Kp432.Call) (M : List Addr) : Prop where
  ex : ∃ ps : List Addr, H D = some (.lst ((cArgs c).2.1.map nat ++ ps.map V.ref)) ∧ ps.length = (cArgs c).2.2.length ∧ ∀ (i : Nat) (p : Addr) (row : List Nat), ps[i]? = some p → (cArgs c).2.2[i]? = some row → RowArg H p row M
theorem GivenAt.none {H : Hp} {D : Addr} {c : Kp432.Call} {M : List Addr} (g : GivenAt H D c M) (h : (cArgs c).2.2 = []) : H D = some (.lst ((cArgs c).2.1.map nat)) := by
  obtain ⟨ps, h1, h2, _⟩ := g.ex
  rw [h] at h2
  have e : ps = [] := List.length_eq_zero_iff.mp h2
  rw [e, List.map_nil, List.append_nil] at h1
  exact h1
theorem GivenAt.one {H : Hp} {D : Addr} {c : Kp432.Call} {M : List Addr} {l : List Nat} (g : GivenAt H D c M) (h : (cArgs c).2.2 = [l]) : ∃ p, H D = some (.lst ((cArgs c).2.1.map nat ++ [.ref p])) ∧ RowArg H p l M := by
  obtain ⟨ps, h1, h2, h3⟩ := g.ex
  rw [h] at h2 h3
  match ps, h2 with
  | [p], _ => exact ⟨p, h1, h3 0 p l rfl rfl⟩
/-- the same by what lies in that list -/
structure ArgsAt (H : Hp) (c : Kp432.Call) (xs : List V) (M : List Addr) : Prop where
  ex : ∃ ps : List Addr, xs = (cArgs c).2.1.map nat ++ ps.map V.ref ∧ ps.length = (cArgs c).2.2.length ∧ ∀ (i : Nat) (p : Addr) (row : List Nat), ps[i]? = some p → (cArgs c).2.2[i]? = some row → RowArg H p row M
theorem GivenAt.args {H : Hp} {D : Addr} {c : Kp432.Call} {M : List Addr} (g : GivenAt H D c M) : ∃ xs, H D = some (.lst xs) ∧ ArgsAt H c xs M := by
  obtain ⟨ps, h1, h2, h3⟩ := g.ex
  exact ⟨_, h1, ps, rfl, h2, h3⟩
theorem ArgsAt.same {H H' : Hp} {c : Kp432.Call} {xs : List V} {M : List Addr} (g : ArgsAt H c xs M) (s : Same H H') : ArgsAt H' c xs M := by
  obtain ⟨ps, h1, h2, h3⟩ := g.ex
  exact ⟨ps, h1, h2, fun i p row hp hr => ⟨(h3 i p row hp hr).at_.same s, (h3 i p row hp hr).out⟩⟩
theorem ArgsAt.none {H : Hp} {c : Kp432.Call} {xs : List V} {M : List Addr} (g : ArgsAt H c xs M) (h : (cArgs c).2.2 = []) : xs = (cArgs c).2.1.map nat := by
  obtain ⟨ps, h1, h2, _⟩ := g.ex
  rw [h] at h2
  have e : ps = [] := List.length_eq_zero_iff.mp h2
  rw [e, List.map_nil, List.append_nil] at h1
  exact h1
theorem ArgsAt.one {H : Hp} {c : Kp432.Call} {xs : List V} {M : List Addr} {l : List Nat} (g : ArgsAt H c xs M) (h : (cArgs c).2.2 = [l]) : ∃ p, xs = (cArgs c).2.1.map nat ++ [.ref p] ∧ RowArg H p l M := by
  obtain ⟨ps, h1, h2, h3⟩ := g.ex
  rw [h] at h2 h3
  match ps, h2 with
  | [p], _ => exact ⟨p, h1, h3 0 p l rfl rfl⟩
/-- the session at a: without a study, or with one -/
def sesF (v : V) : List (Str × V) := [("study", v)]
theorem ses_study (v : V) : (sesF v).lookup ("study" : Str) = some v := lk0
theorem ses_put (v u : V) : putF "study" u (sesF v) = sesF u := pf0
theorem ses_no {v : V} {m : Str} (h : (m == ("study" : Str)) = false) : (sesF v).lookup m = none := (lk1 h).trans rfl
def SesAt (A : Ad) (H : Hp) (a : Addr) (st : State) (M : List Addr) : Prop := match st with
  | none => (∃ dx, H a = some (.ins A.c_Session dx (sesF .non))) ∧ M = []
  | some s => ∃ sa, (∃ dx, H a = some (.ins A.c_Session dx (sesF (.ref sa)))) ∧ StAt A H sa s M
theorem SesAt.same {A : Ad} {H H' : Hp} {a : Addr} {st : State} {M : List Addr} (h : SesAt A H a st M) (s : Same H H') : SesAt A H' a st M := by
  cases st with
  | none =>
    obtain ⟨⟨dx, e⟩, m⟩ := h
    exact ⟨⟨dx, s _ _ e⟩, m⟩
  | some t =>
    obtain ⟨sa, ⟨dx, e⟩, m⟩ := h
    exact ⟨sa, ⟨dx, s _ _ e⟩, m.same s⟩
theorem SesAt.ins {A : Ad} {H : Hp} {a : Addr} {st : State} {M : List Addr} (h : SesAt A H a st M) : ∃ dx v, H a = some (.ins A.c_Session dx (sesF v)) := by
  cases st with
  | none =>
    obtain ⟨⟨dx, e⟩, m⟩ := h
    exact ⟨dx, _, e⟩
  | some t =>
    obtain ⟨sa, ⟨dx, e⟩, m⟩ := h
    exact ⟨dx, _, e⟩
/-- all objects of which p holds have stayed -/
def KeepP (p : HO → Prop) (H H' : Hp) : Prop := ∀ b o, H b = some o → p o → H' b = some o
/-- p holds of all that a study consists of -/
structure StP (A : Ad) (p : HO → Prop) : Prop where
  lst : ∀ xs, p (.lst xs)
  rat : ∀ dx x, p (.ins A.c_Ratio dx (ratF x))
  ev : ∀ dx e pr, p (.ins A.c_Event dx (evF e pr))
  pol : ∀ dx l, p (.ins A.c_Policy dx (polF l))
  st : ∀ dx s ev po mo tw tr, p (.ins A.c_Study dx (stF s ev po mo tw tr))
section
variable {p : HO → Prop} {A : Ad} {H H' : Hp} {a l : Addr} {M : List Addr}
theorem KeepP.rat (k : KeepP p H H') (n : StP A p) {x : Fraction} (h : RatAt A H a x) : RatAt A H' a x := by
  obtain ⟨dx, h⟩ := h
  exact ⟨dx, k _ _ h (n.rat _ _)⟩
theorem KeepP.ev (k : KeepP p H H') (n : StP A p) {e : Evt} (h : EvAt A H a e) : EvAt A H' a e := by
  obtain ⟨dx, pr, h1, h2⟩ := h
  exact ⟨dx, pr, k _ _ h1 (n.ev _ _ _), k.rat n h2⟩
theorem KeepP.list {α : Type} {R : Hp → Addr → α → Prop} (k : KeepP p H H') (n : StP A p) {xs : List α} (h : LstAt R H l xs) (r : ∀ a x, R H a x → R H' a x) : LstAt R H' l xs := by
  obtain ⟨as, h1, h2, h3⟩ := h.ex
  exact ⟨as, k _ _ h1 (n.lst _), h2, fun i a x ha hx => r a x (h3 i a x ha hx)⟩
theorem KeepP.rows {α : Type} {R : Hp → Addr → α → Prop} (k : KeepP p H H') (n : StP A p) {xs : List α} (h : RowsAt R H l xs M) (r : ∀ a x, R H a x → R H' a x) : RowsAt R H' l xs M := by
  obtain ⟨as, h1, h2, h3, h4⟩ := h.ex
  exact ⟨as, k _ _ h1 (n.lst _), h2, fun i a x ha hx => r a x (h3 i a x ha hx), h4⟩
theorem KeepP.st (k : KeepP p H H') (n : StP A p) {s : Study} (h : StAt A H a s M) : StAt A H' a s M := by
  obtain ⟨ev, po, mo, tw, tr, pl, wl, h⟩ := h.ex
  refine ⟨ev, po, mo, tw, tr, pl, wl, ?_⟩
  exact {
    mu := h.mu
    obj := by
      obtain ⟨dx, e⟩ := h.obj
      exact ⟨dx, k _ _ e (n.st ..)⟩
    evs := k.list n h.evs fun _ _ e => k.ev n e
    pol := k _ _ h.pol (n.lst _)
    plen := h.plen
    wlen := h.wlen
    pat := fun i p l r h1 h2 h3 => by
      obtain ⟨⟨dx, e⟩, q⟩ := h.pat i p l r h1 h2 h3
      exact ⟨⟨dx, k _ _ e (n.pol _ _)⟩, k.rows n q fun _ _ e => k _ _ e (n.lst _)⟩
    mod := k.rows n h.mod fun _ _ e => k.list n e fun _ _ e => k.rat n e
    tw := k _ _ h.tw (n.lst _)
    tr := k.rows n h.tr fun _ _ e => k _ _ e (n.lst _)
    nd := h.nd }
theorem KeepP.ses (k : KeepP p H H') (n : StP A p) (ns : ∀ dx v, p (.ins A.c_Session dx (sesF v))) {st : State} (h : SesAt A H a st M) : SesAt A H' a st M := by
  cases st with
  | none =>
    obtain ⟨⟨dx, e⟩, m⟩ := h
    exact ⟨⟨dx, k _ _ e (ns _ _)⟩, m⟩
  | some t =>
    obtain ⟨sa, ⟨dx, e⟩, m⟩ := h
    exact ⟨sa, ⟨dx, k _ _ e (ns _ _)⟩, k.st n m⟩
end
/-- objects without the field m -/
def NoFld (m : Str) (o : HO) : Prop := ∀ C dx fs, o = .ins C dx fs → fs.lookup m = none
theorem noFld_ins {m : Str} {C dx : Addr} {fs : List (Str × V)} (h : fs.lookup m = none) : NoFld m (.ins C dx fs) := fun C' dx' fs' z => by
  injection z with _ _ z
  rw [← z]
  exact h
theorem keep_but {m : Str} {H H' : Hp} {a C dx : Addr} {fs : List (Str × V)} (h : H a = some (.ins C dx fs)) (n : fs.lookup m ≠ none) (s : SameBut a H H') : KeepP (NoFld m) H H' := fun b u e q => s b u e fun z => by
  subst z
  rw [h] at e
  exact n (q _ _ _ (Option.some.inj e).symm)
theorem noKey {A : Ad} {m : Str} (h1 : (m == ("top" : Str)) = false) (h2 : (m == ("bottom" : Str)) = false) (h3 : (m == ("context" : Str)) = false) (h4 : (m == ("action" : Str)) = false) (h5 : (m == ("reward" : Str)) = false) (h6 : (m == ("propensity" : Str)) = false)
    (h7 : (m == ("weights" : Str)) = false) (i1 : (m == ("contexts" : Str)) = false) (i2 : (m == ("actions" : Str)) = false) (i3 : (m == ("events" : Str)) = false) (i4 : (m == ("policies" : Str)) = false) (i5 : (m == ("model" : Str)) = false)
    (i6 : (m == ("truth_weights" : Str)) = false) (i7 : (m == ("truth_rewards" : Str)) = false) : StP A (NoFld m) :=
  ⟨fun xs _ _ _ z => (by cases z), fun _ x => noFld_ins (rat_no x h1 h2), fun _ e pr => noFld_ins ((lk1 h3).trans ((lk1 h4).trans ((lk1 h5).trans ((lk1 h6).trans rfl)))), fun _ l => noFld_ins (pol_no l h7),
    fun _ s ev po mo tw tr => noFld_ins ((lk1 i1).trans ((lk1 i2).trans ((lk1 i3).trans ((lk1 i4).trans ((lk1 i5).trans ((lk1 i6).trans ((lk1 i7).trans rfl)))))))⟩
theorem no_study {A : Ad} : StP A (NoFld "study") := noKey (by decide +kernel) (by decide +kernel) (by decide +kernel) (by decide +kernel) (by decide +kernel) (by decide +kernel) (by decide +kernel) (by decide +kernel) (by decide +kernel) (by decide +kernel) (by decide +kernel) (by decide +kernel) (by decide +kernel) (by decide +kernel)
theorem no_calls {A : Ad} : StP A (NoFld "calls") := noKey (by decide +kernel) (by decide +kernel) (by decide +kernel) (by decide +kernel) (by decide +kernel) (by decide +kernel) (by decide +kernel) (by decide +kernel) (by decide +kernel) (by decide +kernel) (by decide +kernel) (by decide +kernel) (by decide +kernel) (by decide +kernel)
/-- objects that are not locked -/
def NoFrz (o : HO) : Prop := ∀ od u, o ≠ .frz od u
theorem no_frz {A : Ad} : StP A NoFrz := ⟨fun _ _ _ z => (by cases z), fun _ _ _ _ z => (by cases z), fun _ _ _ _ _ z => (by cases z), fun _ _ _ _ z => (by cases z), fun _ _ _ _ _ _ _ _ _ z => (by cases z)⟩
/-- what may have moved: the session itself, and the lists of the study -/
structure MovedS (a : Addr) (M M' : List Addr) (H H' : Hp) : Prop where
  keep : ∀ b o, H b = some o → b ≠ a → b ∉ M → H' b = some o
  new : ∀ m ∈ M', m ∈ M ∨ H m = none
theorem MovedS.of {a : Addr} {M : List Addr} {H H' : Hp} (s : Same H H') : MovedS a M M H H' := ⟨fun b o e _ _ => s b o e, fun m hm => .inl hm⟩
theorem MovedS.moved {a : Addr} {M M' : List Addr} {H H' : Hp} (s : Moved M M' H H') : MovedS a M M' H H' := ⟨fun b o e _ n => s.keep b o e n, s.new⟩
theorem MovedS.then {a : Addr} {M M' : List Addr} {H H1 H2 : Hp} (k : MovedS a M M' H H1) (s : Same H1 H2) : MovedS a M M' H H2 := ⟨fun b o e n1 n2 => s b o (k.keep b o e n1 n2), k.new⟩
/-- the numbers of an answer -/
def ansV (x : Kp432.Ans) : List V := (x.num :: x.nums).map V.int
def sp_Session_init (K : PySem.W.Frag) (A : Ad) : Sp := fun vs H Q _ => ∃ (p dx : Addr), vs = [.ref p] ∧ H p = some (.ins A.c_Session dx []) ∧ ∀ H', SesAt A H' p none [] → SameBut p H H' → Q .non H'
def sp_Session_answer (K : PySem.W.Frag) (A : Ad) : Sp := fun vs H Q _ => ∃ (a D : Addr) (st : State) (M : List Addr) (c : Kp432.Call), vs = [.ref a, nat (cArgs c).1, .ref D] ∧ CallOk c ∧ SesAt A H a st M ∧ LwM.GoodSt st ∧ GivenAt H D c M ∧
  ∀ p H' M', H p = none → H' p = some (.lst (ansV (Kp432.step st c).2)) → SesAt A H' a (Kp432.step st c).1 M' → MovedS a M M' H H' → Q (.ref p) H'
section
variable {P : Program} {w : World} {K : PySem.W.Frag} {mg : Str → Option Value} {base : Heap} {A : Ad}
/-- a call on a study: the def that carries it out keeps its promise -/
structure OpFor (K : PySem.W.Frag) (A : Ad) (H0 : Hp) (a : Addr) (s : Study) (M : List Addr) (c : Kp432.Call) (f : Addr) (sp : Sp) (xs : List V) : Prop where
  look : ∀ H' Q' E', Q' (.ref f) H' → sp_operation_of K A [nat (cArgs c).1] H' Q' E'
  op : OpAt K A f sp
  len : xs.length ≤ 5
  can : ∀ (H : Hp) (Q : VK) (E : XK), Same H0 H → StAt A H a s M → DoneOp A H Q E a s M c → sp (.ref a :: xs) H Q E
theorem RowArg.same {H H' : Hp} {r : Addr} {l : List Nat} {M : List Addr} (h : RowArg H r l M) (s : Same H H') : RowArg H' r l M := ⟨h.at_.same s, h.out⟩
/-- the measures of ranked lists -/
def isRank (c : Kp432.Call) : Bool := decide (24 ≤ (cArgs c).1) && decide ((cArgs c).1 ≤ 27)
theorem lt_u32 {c : Kp432.Call} (ok : CallOk c) {n : Nat} (h : n ∈ (cArgs c).2.1) : n < 2 ^ 60 := Nat.lt_trans (ok.nums n h) (by decide)
theorem find_op (T : Txt K mg A) {H0 : Hp} {a : Addr} {s : Study} {M : List Addr} {c : Kp432.Call} {xs : List V} (hr : isRank c = false) (h0 : (cArgs c).1 ≠ 0) (ok : CallOk c) (g : LwM.Good s) (av : ArgsAt H0 c xs M) :
    ∃ f sp, OpFor K A H0 a s M c f sp xs := by
  have look : ∀ {z : Nat} {f : Addr}, Named z f _ _ _ → ∀ H' Q' E', Q' (.ref f) H' → sp_operation_of K A [nat z] H' Q' E' := fun {z f} e H' Q' E' q => ⟨z, f, _, _, _, rfl, T.ki_CHANGES, T.ki_TRUTHS, T.ki_QUESTIONS, e, q⟩
  cases c with
  | create => exact absurd rfl h0
  | addEvent c x r n e =>
    have e := av.none rfl
    subst e
    exact ⟨_, _, look (.one rfl), .add_event, (by show 5 ≤ 5; decide), fun H Q E s0 st d => ⟨a, s, M, c, x, r, n, e, rfl, st, g, d⟩⟩
  | removeLast  =>
    have e := av.none rfl
    subst e
    exact ⟨_, _, look (.one rfl), .remove_last, (by show 0 ≤ 5; decide), fun H Q E s0 st d => ⟨a, s, M, rfl, st, g, d⟩⟩
  | logEvent k c x r =>
    have e := av.none rfl
    subst e
    exact ⟨_, _, look (.one rfl), .log_event, (by show 4 ≤ 5; decide), fun H Q E s0 st d => ⟨a, s, M, k, c, x, r, rfl, st, g, d⟩⟩
  | setPolicy k c l =>
    obtain ⟨p, rfl, ra⟩ := av.one rfl
    exact ⟨_, _, look (.one rfl), .set_policy, (by show 3 ≤ 5; decide), fun H Q E s0 st d => ⟨a, p, s, M, k, c, l, rfl, st, g, ra.same s0, d⟩⟩
  | copyPolicy k t =>
    have e := av.none rfl
    subst e
    exact ⟨_, _, look (.one rfl), .copy_policy, (by show 2 ≤ 5; decide), fun H Q E s0 st d => ⟨a, s, M, k, t, rfl, st, g, d⟩⟩
  | setModel c l =>
    obtain ⟨p, rfl, ra⟩ := av.one rfl
    exact ⟨_, _, look (.one rfl), .set_model, (by show 2 ≤ 5; decide), fun H Q E s0 st d => ⟨a, p, s, M, c, l, rfl, st, g, ra.same s0, d⟩⟩
  | fitModel  =>
    have e := av.none rfl
    subst e
    exact ⟨_, _, look (.one rfl), .fit_model, (by show 0 ≤ 5; decide), fun H Q E s0 st d => ⟨a, s, M, rfl, st, g, d⟩⟩
  | setTruth c n l =>
    obtain ⟨p, rfl, ra⟩ := av.one rfl
    exact ⟨_, _, look (.one rfl), .set_truth, (by show 3 ≤ 5; decide), fun H Q E s0 st d => ⟨a, p, s, M, c, n, l, rfl, st, g, ra.same s0, d⟩⟩
  | propensity k c x =>
    have e := av.none rfl
    subst e
    exact ⟨_, _, look (.three rfl rfl rfl), .propensity, (by show 3 ≤ 5; decide), fun H Q E s0 st d => ⟨a, s, M, k, c, x, rfl, st, g, d⟩⟩
  | estimate k kd l =>
    have e := av.none rfl
    subst e
    exact ⟨_, _, look (.three rfl rfl rfl), .estimate, (by show 3 ≤ 5; decide), fun H Q E s0 st d => ⟨a, s, M, k, kd, l, rfl, st, g, d⟩⟩
  | normalized k =>
    have e := av.none rfl
    subst e
    exact ⟨_, _, look (.three rfl rfl rfl), .normalized, (by show 1 ≤ 5; decide), fun H Q E s0 st d => ⟨a, s, M, k, rfl, st, g, d⟩⟩
  | replay k =>
    have e := av.none rfl
    subst e
    exact ⟨_, _, look (.three rfl rfl rfl), .replay, (by show 1 ≤ 5; decide), fun H Q E s0 st d => ⟨a, s, M, k, rfl, st, g, d⟩⟩
  | effectiveSize k =>
    have e := av.none rfl
    subst e
    exact ⟨_, _, look (.three rfl rfl rfl), .effective_size, (by show 1 ≤ 5; decide), fun H Q E s0 st d => ⟨a, s, M, k, rfl, st, g, d⟩⟩
  | variance k kd l =>
    have e := av.none rfl
    subst e
    exact ⟨_, _, look (.three rfl rfl rfl), .variance, (by show 3 ≤ 5; decide), fun H Q E s0 st d => ⟨a, s, M, k, kd, l, rfl, st, g, d⟩⟩
  | interval k kd l f =>
    have e := av.none rfl
    subst e
    exact ⟨_, _, look (.three rfl rfl rfl), .interval, (by show 4 ≤ 5; decide), fun H Q E s0 st d => ⟨a, s, M, k, kd, l, f, rfl, st, g, d⟩⟩
  | compare k g2 kd l =>
    have e := av.none rfl
    subst e
    exact ⟨_, _, look (.three rfl rfl rfl), .compare, (by show 4 ≤ 5; decide), fun H Q E s0 st d => ⟨a, s, M, k, g2, kd, l, rfl, st, g, d⟩⟩
  | byContext k kd l =>
    have e := av.none rfl
    subst e
    exact ⟨_, _, look (.three rfl rfl rfl), .by_context, (by show 3 ≤ 5; decide), fun H Q E s0 st d => ⟨a, s, M, k, kd, l, rfl, st, g, d⟩⟩
  | greatestWeight k =>
    have e := av.none rfl
    subst e
    exact ⟨_, _, look (.three rfl rfl rfl), .greatest_weight, (by show 1 ≤ 5; decide), fun H Q E s0 st d => ⟨a, s, M, k, rfl, st, g, d⟩⟩
  | modelInfo c =>
    have e := av.none rfl
    subst e
    exact ⟨_, _, look (.three rfl rfl rfl), .model_info, (by show 1 ≤ 5; decide), fun H Q E s0 st d => ⟨a, s, M, c, rfl, st, g, d⟩⟩
  | trueValue k =>
    have e := av.none rfl
    subst e
    exact ⟨_, _, look (.two rfl rfl), .true_value, (by show 1 ≤ 5; decide), fun H Q E s0 st d => ⟨a, s, M, k, rfl, st, g, d⟩⟩
  | expectation g2 k kd l =>
    have e := av.none rfl
    subst e
    exact ⟨_, _, look (.two rfl rfl), .expectation, (by show 4 ≤ 5; decide), fun H Q E s0 st d => ⟨a, s, M, g2, k, kd, l, rfl, st, g, d⟩⟩
  | unsupported g2 k =>
    have e := av.none rfl
    subst e
    exact ⟨_, _, look (.two rfl rfl), .unsupported, (by show 2 ≤ 5; decide), fun H Q E s0 st d => ⟨a, s, M, g2, k, rfl, st, g, d⟩⟩
  | bootstrap k kd l r sd =>
    have e := av.none rfl
    subst e
    exact ⟨_, _, look (.three rfl rfl rfl), .bootstrap, (by show 5 ≤ 5; decide), fun H Q E s0 st d => ⟨a, s, M, k, kd, l, r, sd, rfl, st, g, lt_u32 ok (n := sd) (by simp [cArgs]), d⟩⟩
  | status  =>
    have e := av.none rfl
    subst e
    exact ⟨_, _, look (.three rfl rfl rfl), .status, (by show 0 ≤ 5; decide), fun H Q E s0 st d => ⟨a, s, M, rfl, st, g, d⟩⟩
  | _ => exact absurd hr (by simp [isRank, cArgs])
/-- none of these is in the table of the measures -/
theorem rank_no (T : Txt K mg A) {c : Kp432.Call} (hr : isRank c = false) : ∃ t : List (Int × Addr), KInt K A.v_RANKED t ∧ t.lookup ((cArgs c).1 : Int) = none := by
  refine ⟨_, T.ki_RANKED, ?_⟩
  cases c with
  | precision | rankMeasures | gains | orderMeasure => exact absurd hr (by simp [isRank, cArgs])
  | _ => rfl
/-- a measure: its def keeps its promise -/
theorem find_rank (T : Txt K mg A) {H : Hp} {Q : VK} {E : XK} {M : List Addr} {c : Kp432.Call} {xs : List V} (hr : isRank c = true) (av : ArgsAt H c xs M) (d : DoneR A H Q E c) :
    ∃ (t : List (Int × Addr)) (f : Addr) (sp : Sp), KInt K A.v_RANKED t ∧ t.lookup ((cArgs c).1 : Int) = some f ∧ OpAt K A f sp ∧ 1 ≤ xs.length ∧ xs.length ≤ 6 ∧ sp xs H Q E := by
  cases c with
  | precision n l =>
    obtain ⟨p, rfl, ra⟩ := av.one rfl
    exact ⟨_, _, _, T.ki_RANKED, rfl, .precision, (by show 1 ≤ 2; decide), (by show 2 ≤ 6; decide), n, p, l, rfl, ra.at_, d⟩
  | rankMeasures l =>
    obtain ⟨p, rfl, ra⟩ := av.one rfl
    exact ⟨_, _, _, T.ki_RANKED, rfl, .rank_measures, (by show 1 ≤ 1; decide), (by show 1 ≤ 6; decide), p, l, rfl, ra.at_, d⟩
  | gains l =>
    obtain ⟨p, rfl, ra⟩ := av.one rfl
    exact ⟨_, _, _, T.ki_RANKED, rfl, .gain_measures, (by show 1 ≤ 1; decide), (by show 1 ≤ 6; decide), p, l, rfl, ra.at_, d⟩
  | orderMeasure l =>
    obtain ⟨p, rfl, ra⟩ := av.one rfl
    exact ⟨_, _, _, T.ki_RANKED, rfl, .order_measure, (by show 1 ≤ 1; decide), (by show 1 ≤ 6; decide), p, l, rfl, ra.at_, d⟩
  | _ => exact absurd hr (by simp [isRank, cArgs])
/-- the errors are what the clause takes, and bear their codes -/
theorem err_facts (T : Txt K mg A) (code : Int) : PySem.W.exmOne K (.ref (errAt A code)) (.ref A.c_Refusal) = some true ∧ XfC K (errAt A code) ∧ PySem.W.findIn K (.ref (errAt A code)) "code" = some none := by
  unfold errAt
  split
  · exact ⟨T.ex_NoStudy, T.xf_NoStudy, T.nc_NoStudy⟩
  · exact ⟨T.ex_Missing, T.xf_Missing, T.nc_Missing⟩
  · exact ⟨T.ex_OutOfLimits, T.xf_OutOfLimits, T.nc_OutOfLimits⟩
  · exact ⟨T.ex_LogFull, T.xf_LogFull, T.nc_LogFull⟩
  · exact ⟨T.ex_NotEnough, T.xf_NotEnough, T.nc_NotEnough⟩
theorem to_nil {σ : L2.St} {H : Hp} {Q : List V → Hp → Prop} (h : Q [] H) : tNil σ H Q := h
/-- an error is caught and answered by its code -/
theorem caught (T : Txt K mg A) {B : Ends} {σ : L2.St} {H : Hp} {code : Int} (h3 : 3 < σ.length) (k : ∀ p H', H p = none → H' p = some (.lst [.int code]) → Same H H' → B.rt (.ref p) H') :
    Bad A H (WE (wAs K (.ref A.c_Refusal) 3 (fun a cls d => tRet (tLst (tCons (tXfA K a cls d "code" (tVar 3)) tNil))) (fun _ _ _ _ => False) B) σ) code := by
  intro d H' s e
  obtain ⟨e1, e2, e3⟩ := err_facts T code
  refine ⟨true, e1, fun _ ae na => ?_, fun q => nomatch q⟩
  refine ⟨errAt A code, rfl, e2, e3, .ref ae, List.getElem?_set_self h3, rfl, rfl, d, _, .int code, rfl, e, lk0, (by show 1 ≤ sizeLine; decide), fun p hp => ?_⟩
  exact k p _ (s.free hp) upd_same (s.trans (Same.new hp))
theorem ok_Session_init (T : Txt K mg A) : FnOk P w K mg base CX0 1 A.f_Session_init A.d_Session_init ["self"] (sp_Session_init K A) := by
  refine T.fn_Session_init.ok sc_Session_init (fun vs H Q E h => ?_) (fun cdv Ar outer s H vs Q E hr h => ?_)
  · obtain ⟨p, dx, rfl, _⟩ := h
    rfl
  · obtain ⟨p, dx, rfl, hp, k⟩ := h
    refine ⟨_, (pss_one (ps_fld (pv 0) pe_non rfl)), ?_⟩
    refine ⟨_, rfl, p, _, dx, _, rfl, hp, T.cl_Session, T.no_Session_study, (by show 0 < 1000; decide), ?_⟩
    exact k _ ⟨⟨dx, upd_same⟩, rfl⟩ SameBut.refl.put
theorem ok_Session_answer (T : Txt K mg A) : FnOk P w K mg base CX0 12 A.f_Session_answer A.d_Session_answer ["self", "number", "given"] (sp_Session_answer K A) := by
  refine T.fn_Session_answer.ok sc_Session_answer (fun vs H Q E h => ?_) (fun cdv Ar outer s H vs Q E hr h => ?_)
  · obtain ⟨a, D, st, M, c, rfl, _⟩ := h
    rfl
  · obtain ⟨a, D, st, M, c, rfl, ok, se, g, gv, k⟩ := h
    obtain ⟨t_CREATE, k_CREATE⟩ := T.k_CREATE
    have k_RANKED := T.k_RANKED
    refine ⟨_, (pss_one (ps_try_as (i := 3) (tb := (fun W => (tSeq (tIfS (tTest (tOp rEq (tVar 1) (tC (.int 0)))) (tSeq (sFld K (tVar 0) (tCallS (sp_create K A) (WE W) (tCons (tOp (rIxL K) (tVar 2) (tC (.int 0))) (tCons (tOp (rIxL K) (tVar 2) (tC (.int 1))) tNil))) "study") (tRet (tLst (tCons (tC (.int 0)) tNil)))) tNext) (tSeq (tIfS (tTest (tOp rIsN (tFld K (tVar 0) "study") (tC .non))) (fun _ σ H => tErrNew0 A.c_NoStudy (sp_NoStudy_init K A) σ H fun cls d H1 => W cls d σ H1) tNext) (tSeq (tIfS (tTest (tOp (rInK K) (tVar 1) (tC (.ref A.v_RANKED)))) (tRet (tCallS (sp_carry_out K A) (WE W) (tCons (tOp (rIxK K) (tC (.ref A.v_RANKED)) (tVar 1)) (tCons (tVar 2) tNil)))) tNext) (tRet (tCallS (sp_carry_out K A) (WE W) (tCons (tCall (sp_operation_of K A) [] E0 (tCons (tVar 1) tNil)) (tCons (tOp rCat (tLst (tCons (tFld K (tVar 0) "study") tNil)) (tVar 2)) tNil))))))))) (ts := (fun a cls d => (tRet (tLst (tCons (tXfA K a cls d "code" (tVar 3)) tNil))))) (Wout := fun _ _ _ _ => False) rfl rfl sc_Session_answer.nd rfl rfl ⟨rfl, by decide, Or.inl T.g_Refusal⟩ takesN
          (fun W pn xe tk _ => (pss_cons (ps_if (pt_cmpR op_eq (pv 1) (pe_glob (v := .int 0) rfl k_CREATE ⟨_, rfl⟩) (nomark _)) (pss_cons (ps_fld (pv 0) (pe_callS (ok_create T) (hr.mono (by decide)) rfl T.g_create T.fn_create.kp (bi_create T) (fun σ => passAt tk σ) (pa_cons (pe_ix ix_list (pv 2) pe_int (fun _ _ => rfl)) (pa_cons (pe_ix ix_list (pv 2) pe_int (fun _ _ => rfl)) pa_nil))) rfl)
            (pss_one (ps_ret (pe_lst (pa_cons pe_int pa_nil))))) pss_nil)
          (pss_cons (ps_if (pt_cmpR op_isN1 (pe_fld (pv 0) rfl) pe_non (nomark _)) (pss_one (ps_raise rfl tk (pmk_err0 T.er_NoStudy T.oi_NoStudy T.of_NoStudy (ok_NoStudy_init T) (hr.mono (by decide)) (bi_NoStudy_init T) pass0 rfl T.g_NoStudy))) pss_nil)
          (pss_cons (ps_if (pt_cmpR op_in_kint (pv 1) (pe_glob (v := .ref A.v_RANKED) rfl k_RANKED rfl) (by rfl)) (pss_one (ps_ret (pe_callS (ok_carry_out T) (hr.mono (by decide)) rfl T.g_carry_out T.fn_carry_out.kp (bi_carry_out T) (fun σ => passAt tk σ) (pa_cons (pe_ix ix_kint (pe_glob (v := .ref A.v_RANKED) rfl k_RANKED rfl) (pv 1) (fun _ _ => rfl)) (pa_cons (pv 2) pa_nil))))) pss_nil)
          (pss_one (ps_ret (pe_callS (ok_carry_out T) (hr.mono (by decide)) rfl T.g_carry_out T.fn_carry_out.kp (bi_carry_out T) (fun σ => passAt tk σ) (pa_cons (pe_call (ok_operation_of T) (hr.mono (by decide)) rfl T.g_operation_of T.fn_operation_of.kp (bi_operation_of T) .nil pass0 (pa_cons (pv 1) pa_nil)) (pa_cons (pe_op op_cat (pe_lst (pa_cons (pe_fld (pv 0) rfl) pa_nil)) (pv 2)) pa_nil)))))))))
          (fun a oe cls d pn hz hf => (pss_one (ps_ret (pe_lst (pa_cons (pe_xfA hz hf (pv 3)) pa_nil))))))), ?_⟩
    have bad : ∀ code : Int, Kp432.step st c = (st, Kp432.single code) → Bad A H (WE (wAs K (.ref A.c_Refusal) 3 (fun a cls d => tRet (tLst (tCons (tXfA K a cls d "code" (tVar 3)) tNil))) (fun _ _ _ _ => False) ⟨fun x H' => Q V.non H', Q, fun _ _ => False, fun _ _ => False⟩) [some (.ref a), some (nat (cArgs c).1), some (.ref D), none]) code := fun code e => by
      refine caught T (by show 3 < 4; decide) fun p H' np hp s => ?_
      refine k p H' M np ?_ ?_ (.of s)
      · rw [e]
        exact hp
      · rw [e]
        exact se.same s
    by_cases h0 : (cArgs c).1 = 0
    · cases c with
      | create n m =>
        have hD := gv.none rfl
        have sq : SqL K H D [nat n, nat m] := SqL.of hD
        obtain ⟨dx, v, ha⟩ := se.ins
        refine ⟨_, rfl, rfl, true, rfl, ?_⟩
        refine ⟨_, rfl, D, _, 0, _, rfl, rfl, sq, rfl, _, rfl, D, _, 1, _, rfl, rfl, sq, rfl, n, m, rfl, fun hn => bad _ (LwM.create_no hn), fun hy p H1 M1 np st1 nM s1 => ?_⟩
        have e1 := LwM.create_ok (st := st) hy
        have ha1 := s1 _ _ ha
        refine ⟨_, rfl, a, _, dx, _, rfl, ha1, T.cl_Session, T.no_Session_study, (by show 1 < 1000; decide), ?_⟩
        refine ⟨(by show 1 ≤ sizeLine; decide), fun q nq => ?_⟩
        obtain ⟨qa, nq1⟩ := upd_none nq
        refine k q _ M1 (s1.free nq1) ?_ ?_ ?_
        · rw [e1]
          exact upd_same
        · rw [e1]
          refine ⟨p, ⟨dx, ?_⟩, ((keep_but ha1 (by rw [ses_study]; exact fun z => by cases z) SameBut.refl.put).st no_study st1).same (Same.new nq)⟩
          rw [upd_ne (Ne.symm qa), upd_same, ses_put]
        · refine ⟨fun b o hb n1 n2 => ?_, fun x hx => .inr (nM x hx)⟩
          rw [upd_ne (ne_of_none (s1 _ _ hb) nq1), upd_ne n1]
          exact s1 _ _ hb
      | _ => cases h0
    · refine ⟨_, rfl, rfl, false, ?_, ?_⟩
      · refine congrArg V.bl (decide_eq_false fun z => h0 ?_)
        injection z with z
        omega
      cases st with
      | none =>
        obtain ⟨⟨dx, ha⟩, rfl⟩ := se
        refine ⟨_, rfl, a, _, dx, _, _, rfl, ha, T.cl_Session, T.no_Session_study, ses_study _, rfl, true, rfl, ?_⟩
        refine raised T.er_NoStudy rfl (bad (-11) ?_)
        cases c with
        | create => exact absurd rfl h0
        | _ => rfl
      | some t =>
        obtain ⟨sa, ⟨dx, ha⟩, sta⟩ := se
        refine ⟨_, rfl, a, _, dx, _, _, rfl, ha, T.cl_Session, T.no_Session_study, ses_study _, rfl, false, rfl, ?_⟩
        have am : a ∉ M := fun hm => by
          obtain ⟨_, _, _, _, _, _, _, si⟩ := sta.ex
          obtain ⟨xs, e⟩ := si.tracked a hm
          rw [ha] at e
          cases e
        obtain ⟨xs, hD, av⟩ := gv.args
        cases hr : isRank c with
        | true =>
          obtain ⟨tb, f, sp, kr, lf, op, l1, l6, can⟩ := find_rank T (Q := Q) (E := WE (wAs K (.ref A.c_Refusal) 3 (fun a cls d => tRet (tLst (tCons (tXfA K a cls d "code" (tVar 3)) tNil))) (fun _ _ _ _ => False) ⟨fun x H' => Q V.non H', Q, fun _ _ => False, fun _ _ => False⟩) [some (.ref a), some (nat (cArgs c).1), some (.ref D), none]) hr av
            ⟨fun code _ e => bad code (e t), fun z zs hz e p H' np hp s' => k p H' M np (by rw [e t]; exact hp) (by rw [e t]; exact ⟨sa, ⟨dx, s' _ _ ha⟩, sta.same s'⟩) (.of s')⟩
          refine ⟨_, rfl, ((cArgs c).1 : Int), A.v_RANKED, tb, rfl, rfl, kr, true, congrArg V.bl (by rw [lf]; rfl), ?_⟩
          exact ⟨_, rfl, ((cArgs c).1 : Int), A.v_RANKED, f, tb, rfl, rfl, kr, lf, _, rfl, f, D, sp, xs, rfl, op, hD, l1, l6, can⟩
        | false =>
          obtain ⟨tb, kr, ln⟩ := rank_no T hr
          refine ⟨_, rfl, ((cArgs c).1 : Int), A.v_RANKED, tb, rfl, rfl, kr, false, congrArg V.bl (by rw [ln]; rfl), ?_⟩
          obtain ⟨f, sp, op⟩ := find_op T (a := sa) hr h0 ok g av
          refine ⟨_, rfl, to_nil ?_⟩
          refine op.look _ _ _ ?_
          refine ⟨_, rfl, a, _, dx, _, _, rfl, ha, T.cl_Session, T.no_Session_study, ses_study _, (by show 1 ≤ sizeLine; decide), fun p1 n1 => ?_⟩
          have s1 : Same H (L2.upd H p1 (.lst [.ref sa])) := Same.new n1
          refine ⟨_, rfl, p1, D, _, _, rfl, rfl, upd_same, s1 _ _ hD, ?_, fun p2 n2 => ?_⟩
          · have := op.len
            rw [sizeLine_eq]
            show 1 + xs.length ≤ _
            omega
          have s12 := s1.trans (Same.new (o := .lst ([.ref sa] ++ xs)) n2)
          refine ⟨f, p2, sp, .ref sa :: xs, rfl, op.op, upd_same, (by simp), (by have := op.len; simp; omega), ?_⟩
          refine op.can _ _ _ s12 (sta.same s12) ⟨fun code _ e => (bad code e).same s12, fun s' z zs hz e p H' M' np hp st' mv => ?_⟩
          exact k p H' M' (s12.free np) (by rw [e]; exact hp) (by rw [e]; exact ⟨sa, ⟨dx, mv.keep _ _ (s12 _ _ ha) am⟩, st'⟩) (.moved (Moved.after s12 mv))
end
end Lw
end
/-! LwMain -/
section
set_option Elab.async false
set_option linter.all false
set_option maxRecDepth 100000
set_option maxHeartbeats 4000000
/-! all calls in their order -/
namespace Lw
open PySem PySem.Spec PyProof.Rows L2
open Kp432 (Fraction Study Policy State)
/-- the list that is handed in: read, never changed -/
def NumsF (K : PySem.W.Frag) (H : Hp) (l : Addr) (ns : List Nat) : Prop :=
  (∃ o, H l = some (.frz o (.lst (ns.map nat)))) ∨
    ∃ (o : Obj) (its : Array Value) (n : Nat), K.lookup l = some o ∧ o.cls = .type "list" ∧ o.dict = none ∧ o.data = .seq its n ∧ its.size ≤ sizeLine ∧ Vals (ns.map nat) its.toList
theorem NumsF.sq {K : PySem.W.Frag} {H : Hp} {l : Addr} {ns : List Nat} (h : NumsF K H l ns) : Nums K H l ns := by
  rcases h with h | h
  · exact .inl (.inr h)
  · exact .inr h
theorem NumsF.but {K : PySem.W.Frag} {H H' : Hp} {a l C dx : Addr} {fs : List (Str × V)} {ns : List Nat} (h : NumsF K H l ns) (s : SameBut a H H') (ha : H a = some (.ins C dx fs)) : NumsF K H' l ns := by
  rcases h with ⟨o, h⟩ | h
  · exact .inl ⟨o, s _ _ h (ne_of h ha (by intro z; cases z))⟩
  · exact .inr h
theorem NumsF.same {K : PySem.W.Frag} {H H' : Hp} {l : Addr} {ns : List Nat} (h : NumsF K H l ns) (s : Same H H') : NumsF K H' l ns := by
  rcases h with ⟨o, h⟩ | h
  · exact .inl ⟨o, s _ _ h⟩
  · exact .inr h
theorem NumsF.lst {K : PySem.W.Frag} {H H' : Hp} {l m : Addr} {ns : List Nat} (h : NumsF K H l ns) (s : But H H' m) : NumsF K H' l ns := by
  rcases h with ⟨o, h⟩ | h
  · obtain ⟨xs, hm⟩ := s.was
    exact .inl ⟨o, s.keep _ _ h (ne_of h hm (by intro z; cases z))⟩
  · exact .inr h
theorem SesAt.tracked {A : Ad} {H : Hp} {a : Addr} {st : State} {M : List Addr} (h : SesAt A H a st M) : ∀ m ∈ M, ∃ xs, H m = some (.lst xs) := fun m hm => by
  cases st with
  | none =>
    obtain ⟨_, rfl⟩ := h
    cases hm
  | some t =>
    obtain ⟨sa, _, sta⟩ := h
    obtain ⟨_, _, _, _, _, _, _, si⟩ := sta.ex
    exact si.tracked m hm
theorem SesAt.not {A : Ad} {H : Hp} {a b : Addr} {st : State} {M : List Addr} {o : HO} (h : SesAt A H a st M) (hb : H b = some o) (n : ∀ xs, o ≠ .lst xs) : b ∉ M := fun hm => by
  obtain ⟨xs, e⟩ := h.tracked b hm
  rw [hb] at e
  exact n xs (Option.some.inj e)
theorem SesAt.reader {A : Ad} {H H' : Hp} {a rd l : Addr} {i : Nat} {st : State} {M : List Addr} (h : SesAt A H a st M) (r : RdAt A H rd l i) (s : SameBut rd H H') : SesAt A H' a st M := by
  obtain ⟨dr, hr⟩ := r
  exact (keep_but hr (by rw [rd_calls]; exact fun z => by cases z) s).ses no_calls (fun _ _ => noFld_ins (ses_no (by decide +kernel))) h
/-- the heap without what stands at one place -/
theorem del_in {H : Hp} {a : Addr} : Same (L2.del H a) H := fun b o e => by
  by_cases z : b = a
  · subst z
    rw [L2.del_same] at e
    cases e
  · rw [del_ne z] at e
    exact e
theorem del_up {H : Hp} {a : Addr} {o : HO} : Same (L2.del H a) (L2.upd H a o) := fun b u e => by
  by_cases z : b = a
  · subst z
    rw [L2.del_same] at e
    cases e
  · rw [del_ne z] at e
    rw [upd_ne z]
    exact e
theorem del_but {H H' : Hp} {a b : Addr} (s : SameBut b H H') : SameBut b (L2.del H a) (L2.del H' a) := fun c o e n => by
  by_cases z : c = a
  · subst z
    rw [L2.del_same] at e
    cases e
  · rw [del_ne z] at e ⊢
    exact s c o e n
theorem del_put {H H' : Hp} {a : Addr} (s : ∀ b o, H b = some o → b ≠ a → H' b = some o) {od : Obj} {u : HO} (h : H a = some (.frz od u)) : KeepP NoFrz H (L2.del H' a) := fun b o e n => by
  have z : b ≠ a := fun z => by
    subst z
    rw [h] at e
    exact n od u (Option.some.inj e).symm
  rw [del_ne z]
  exact s b o e z
/-- each call's numbers and rows, counted -/
theorem shape_row (c : Kp432.Call) : ([(2, 0), (5, 0), (0, 0), (4, 0), (2, 1), (2, 0), (1, 1), (0, 0), (2, 1), (3, 0), (3, 0), (1, 0), (1, 0), (1, 0), (3, 0), (4, 0), (4, 0), (3, 0), (1, 0), (1, 0), (1, 0), (4, 0), (2, 0), (5, 0), (1, 1), (0, 1), (0, 1), (0, 1), (0, 0)] : List (Int × Int))[(cArgs c).1]? = some (((cArgs c).2.1.length : Int), ((cArgs c).2.2.length : Int)) := by
  cases c <;> rfl
theorem args_few (c : Kp432.Call) : (cArgs c).2.1.length ≤ 100 ∧ (cArgs c).2.2.length ≤ 100 := by
  cases c <;> exact ⟨by simp [cArgs], by simp [cArgs]⟩
theorem ses_new {A : Ad} {H : Hp} {a r : Addr} {o : HO} {st : State} {M : List Addr} (h : SesAt A H a st M) (n : H r = none) : SesAt A (L2.del (L2.upd H r o) r) a st M := h.same fun b u e => by
  have z : b ≠ r := ne_of_none e n
  rw [del_ne z, upd_ne z]
  exact e
theorem nums_new {K : PySem.W.Frag} {H : Hp} {l r : Addr} {o : HO} {ns : List Nat} (h : NumsF K H l ns) (n : H r = none) : NumsF K (L2.del (L2.upd H r o) r) l ns := h.same fun b u e => by
  have z : b ≠ r := ne_of_none e n
  rw [del_ne z, upd_ne z]
  exact e
theorem ne_ses {H : Hp} {a rd l dx C dy C' : Addr} {i : Nat} {v : V} (hr : H rd = some (.ins C dx (rdF l i))) (hs : H a = some (.ins C' dy (sesF v))) : rd ≠ a := ne_of hr hs fun z => by
  injection z with _ _ z
  exact absurd (congrArg List.length z) (by show ¬ 2 = 1; decide)
/-- the loop: so many calls are left -/
structure Run (K : PySem.W.Frag) (A : Ad) (l ses rd res : Addr) (ns : List Nat) (all : List Int) (H : Hp) (m : Nat) : Prop where
  ex : ∃ (st : State) (M : List Addr) (rest : List Kp432.Call) (out : List Int) (i : Nat), rest.length = m ∧ (∀ c ∈ rest, CallOk c) ∧ LwM.GoodSt st ∧ SesAt A (L2.del H res) ses st M ∧ RdAt A H rd l i ∧ NumsF K (L2.del H res) l ns ∧ ns.drop i = flats rest ∧
    H res = some (.lst (out.map V.int)) ∧ out ++ outs st rest = all
def sp_answers (K : PySem.W.Frag) (A : Ad) : Sp := fun vs H Q _ => ∃ (l : Addr) (cs : List Kp432.Call), vs = [.ref l] ∧ NumsF K H l (flats cs) ∧ (flats cs).length ≤ 1000000 ∧ (∀ c ∈ cs, CallOk c) ∧ (outs none cs).length ≤ 10000000 ∧
  ∀ p H', H' p = some (.lst ((outs none cs).map V.int)) → Q (.ref p) H'
section
variable {P : Program} {w : World} {K : PySem.W.Frag} {mg : Str → Option Value} {base : Heap} {A : Ad}
theorem ok_answers (T : Txt K mg A) : FnOk P w K mg base CX0 13 A.f_answers A.d_answers ["calls"] (sp_answers K A) := by
  refine T.fn_answers.ok sc_answers (fun vs H Q E h => ?_) (fun cdv Ar outer s H vs Q E hr h => ?_)
  · obtain ⟨l, cs, rfl, _⟩ := h
    rfl
  · obtain ⟨l, cs, rfl, hn, hl, hc, ho, k⟩ := h
    have k_SHAPES := T.k_SHAPES
    refine ⟨_, (pss_cons (ps_set (i := 1) sc_answers.nd rfl (Or.inl rfl) (pe_make0 T.mk_Session (ok_Session_init T) (hr.mono (by decide)) rfl T.g_Session (bi_Session_init T) .nil pass0))
        (pss_cons (ps_set (i := 2) sc_answers.nd rfl (Or.inl rfl) (pe_make T.mk_Reader (ok_Reader_init T) (hr.mono (by decide)) rfl T.g_Reader (bi_Reader_init T) .nil pass0 (pa_cons (pv 0) pa_nil)))
        (pss_cons (ps_set (i := 3) sc_answers.nd rfl (Or.inl rfl) (pe_lst pa_nil))
        (pss_cons (ps_while PassesOwn.never (pt_not (pt_val (pe_meth0 (pv 2) T.cl_Reader T.me_Reader_ended (ok_Reader_ended T) (hr.mono (by decide)) (bi_Reader_ended T) .nil pass0))) (pss_cons (ps_set (i := 4) sc_answers.nd rfl (Or.inl rfl) (pe_meth0 (pv 2) T.cl_Reader T.me_Reader_number (ok_Reader_number T) (hr.mono (by decide)) (bi_Reader_number T) .nil pass0))
          (pss_cons (ps_set (i := 5) sc_answers.nd rfl (Or.inl rfl) (pe_ix ix_tup (pe_glob (v := .ref A.v_SHAPES) rfl k_SHAPES rfl) (pv 4) (fun _ _ => rfl)))
          (pss_cons (ps_set (i := 6) sc_answers.nd rfl (Or.inl rfl) (pe_lock (pe_meth (pv 1) T.cl_Session T.me_Session_answer (ok_Session_answer T) (hr.mono (by decide)) (bi_Session_answer T) .nil pass0 (pa_cons (pv 4) (pa_cons (pe_meth (pv 2) T.cl_Reader T.me_Reader_arguments (ok_Reader_arguments T) (hr.mono (by decide)) (bi_Reader_arguments T) .nil pass0 (pa_cons (pe_ix ix_tup (pv 5) pe_int (fun _ _ => rfl)) (pa_cons (pe_ix ix_tup (pv 5) pe_int (fun _ _ => rfl)) pa_nil))) pa_nil)))))
          (pss_cons (ps_expr (pe_bm PySem.F.plainAttrs_list PySem.F.slot_list_append PySem.F.type_list_append mt_append (pv 3) (pa_cons (pe_callB call_len_seq (by rfl) T.n_len PySem.boot_len (pa_cons (pv 6) pa_nil)) pa_nil)))
          (pss_one (ps_expr (pe_bm PySem.F.plainAttrs_list PySem.F.slot_list_extend PySem.F.type_list_extend mt_extend (pv 3) (pa_cons (pv 6) pa_nil)))))))))
        (pss_one (ps_ret (pv 3))))))), ?_⟩
    refine to_seq (to_asg ?_)
    intro ses dx n1 n2 n3
    refine ⟨ses, dx, rfl, upd_same, fun H1 se1 sb1 => ⟨rfl, ?_⟩⟩
    have s1 : Same H H1 := Same.made n1 n2 sb1
    refine to_name (to_nx (to_seq (to_asg ?_)))
    refine ⟨_, rfl, fun rd dy m1 m2 m3 => ?_⟩
    refine ⟨rd, dy, l, rfl, upd_same, fun H2 r2 sb2 => ⟨rfl, ?_⟩⟩
    have s2 : Same H1 H2 := Same.made m1 m2 sb2
    refine to_name (to_nx (to_seq (to_asg (to_lst0 fun res nr => to_name (to_nx (to_seq ?_))))))
    refine ⟨fun m σ H' => Run K A l ses rd res (flats cs) (outs none cs) H' m ∧ ∃ v4 v5 v6, σ = [some (.ref l), some (.ref ses), some (.ref rd), some (.ref res), v4, v5, v6], ⟨cs.length, ⟨none, [], cs, [], 0, rfl, hc, trivial, ses_new (se1.same s2) nr, r2.same (Same.new nr), nums_new ((hn.same s1).same s2) nr, rfl, upd_same, by simp⟩, none, none, none, rfl⟩, ?_⟩
    rintro m σ H3 ⟨run, v4, v5, v6, rfl⟩
    obtain ⟨st, M, rest, out, i, hm, hrest, good, ses3, rd3, nf, hdrop, hres, htot⟩ := run.ex
    obtain ⟨dr, hrd⟩ := id rd3
    have nfd := nf
    have nf := nfd.same (del_in (H := H3) (a := res))
    refine ⟨_, rfl, rd, dr, _, rfl, hrd, rd_no l i (by decide +kernel) (by decide +kernel), rd, l, flats cs, i, rfl, rd3, nf.sq, ?_⟩
    cases rest with
    | nil =>
      have e : decide ((flats cs).length ≤ i) = true := decide_eq_true (by
        have := drop_len hdrop
        simp [flats] at this ⊢
        omega)
      refine ⟨true, congrArg V.bl e, ?_⟩
      refine ⟨_, rfl, k res H3 ?_⟩
      rw [hres, ← htot]
      simp [outs]
    | cons c rest =>
      have hdrop : (flats cs).drop i = (cArgs c).1 :: ((cArgs c).2.1 ++ (flatRows (cArgs c).2.2 ++ flats rest)) := by
        rw [hdrop]
        show flats (c :: rest) = _
        unfold flats
        rw [List.flatMap_cons]
        unfold flatC
        simp
      have e : decide ((flats cs).length ≤ i) = false := decide_eq_false (by
        have := drop_len hdrop
        rw [List.length_cons] at this
        omega)
      obtain ⟨z1, z2⟩ := get_drop hdrop
      have cok := hrest c List.mem_cons_self
      refine ⟨false, congrArg V.bl e, fun σ' H' => Run K A l ses rd res (flats cs) (outs none cs) H' rest.length ∧ ∃ v4 v5 v6, σ' = [some (.ref l), some (.ref ses), some (.ref rd), some (.ref res), v4, v5, v6], fun σ' H' h => ⟨rest.length, by rw [← hm]; exact Nat.lt_succ_self _, h⟩, ?_⟩
      refine to_seq (to_asg ?_)
      refine ⟨_, rfl, rd, dr, _, rfl, hrd, rd_no l i (by decide +kernel) (by decide +kernel), rd, l, flats cs, i, (cArgs c).1, rfl, rd3, nf.sq, z1, fun H4 r4 sb4 => to_name (to_nx (to_seq (to_asg ?_)))⟩
      obtain ⟨as, l1, l2, l3⟩ := T.ts_SHAPES.ok
      have row := shape_row c
      obtain ⟨av, hav⟩ := get_of_len l1.symm row
      refine ⟨_, rfl, A.v_SHAPES, _, ((cArgs c).1 : Int), _, rfl, rfl, l2 H4, at_of (j := (cArgs c).1) rfl (by rw [List.getElem?_map, hav]; rfl), to_name (to_nx (to_seq (to_asg ?_)))⟩
      have res_rd : res ≠ rd := ne_of hres hrd (by intro z; cases z)
      have h4res : H4 res = some (.lst (out.map V.int)) := sb4 _ _ hres res_rd
      have ses4 : SesAt A (L2.del H4 res) ses st M := ses3.reader (l := l) (i := i) ⟨dr, by rw [del_ne (Ne.symm res_rd)]; exact hrd⟩ (del_but sb4)
      have nf4d : NumsF K (L2.del H4 res) l (flats cs) := nfd.but (del_but sb4) (C := A.c_Reader) (dx := dr) (fs := rdF l i) (by rw [del_ne (Ne.symm res_rd)]; exact hrd)
      refine ⟨res, _, h4res, trivial, fun od => ?_⟩
      have c5 : Same (L2.del H4 res) (L2.upd H4 res (.frz od (.lst (out.map V.int)))) := del_up
      have h5res : (L2.upd H4 res (.frz od (.lst (out.map V.int)))) res = some (.frz od (.lst (out.map V.int))) := upd_same
      have r5 : RdAt A (L2.upd H4 res (.frz od (.lst (out.map V.int)))) rd l (i + 1) := by
        obtain ⟨d4, e4⟩ := r4
        exact ⟨d4, by rw [upd_ne (Ne.symm res_rd)]; exact e4⟩
      have nf5 : NumsF K (L2.upd H4 res (.frz od (.lst (out.map V.int)))) l (flats cs) := nf4d.same c5
      have ses5 := ses4.same c5
      generalize (L2.upd H4 res (.frz od (.lst (out.map V.int)))) = H5 at c5 h5res r5 nf5 ses5 ⊢
      obtain ⟨d5, e5⟩ := id r5
      obtain ⟨ds, vs, es⟩ := ses5.ins
      refine ⟨_, rfl, ses, ds, _, rfl, es, ses_no (by decide +kernel), _, rfl, _, rfl, rd, d5, _, rfl, e5, rd_no l _ (by decide +kernel) (by decide +kernel), _, rfl, av, _, 0, _, rfl, rfl, l3 _ _ _ hav row _, rfl, _, rfl, av, _, 1, _, rfl, rfl, l3 _ _ _ hav row _, rfl,
        rd, l, flats cs, (cArgs c).2.1, flats rest, (cArgs c).2.2, i + 1, rfl, r5, nf5.sq, z2, hl, (args_few c).1, (args_few c).2, fun D H6 ps nD hD hps hrows r6 sb6 => ?_⟩
      have h6res := sb6 _ _ h5res res_rd
      have ses6 := ses5.reader r5 sb6
      obtain ⟨d6, e6⟩ := id r6
      obtain ⟨ds6, vs6, es6⟩ := ses6.ins
      refine ⟨ses, D, st, M, c, rfl, cok, ses6, good, ⟨ps, hD, hps, fun j p row hp hrow => ⟨(hrows j p row hp hrow).1, fun hm => ?_⟩⟩, fun p H7 M' np hp ses7 mv => ?_⟩
      · obtain ⟨xs, e⟩ := ses5.tracked p hm
        rw [(hrows j p row hp hrow).2] at e
        cases e
      have h7res := mv.keep _ _ h6res (ne_of h6res es6 (by intro z; cases z)) (ses6.not h6res (fun _ z => by cases z))
      have pres : p ≠ res := Ne.symm (ne_of_none h6res np)
      refine ⟨h7res, to_name (to_nx (to_seq ?_))⟩
      have tot : (out.length + (((Kp432.step st c).2.num :: (Kp432.step st c).2.nums).length + 1)) ≤ 10000000 := by
        have h2 : out ++ ((((Kp432.step st c).2.nums.length + 1 : Nat) : Int) :: ((Kp432.step st c).2.num :: (Kp432.step st c).2.nums) ++ outs (Kp432.step st c).1 rest) = outs none cs := htot
        have := congrArg List.length h2
        simp only [List.length_append, List.length_cons] at this ⊢
        omega
      refine ⟨_, rfl, .inl ⟨rfl, _, SqL.of upd_same⟩, _, rfl, p, _, rfl, .inl (SqL.of (by rw [upd_ne pres]; exact hp)), res, _, _, rfl, rfl, upd_same, ?_, ?_⟩
      · rw [List.length_map, sizeLine_eq]
        omega
      refine ⟨_, rfl, .inl ⟨rfl, _, SqL.of upd_same⟩, _, rfl, res, p, _, _, rfl, rfl, upd_same, (by rw [upd_ne pres, upd_ne pres]; exact hp), ?_, ?_⟩
      · rw [sizeLine_eq]
        unfold ansV
        simp only [List.length_append, List.length_cons, List.length_map, List.length_nil] at tot ⊢
        omega
      have keep : ∀ (x : List V) (y : List V) (z : List V) (b : Addr) (o : HO), H7 b = some o → b ≠ res → L2.upd (L2.upd (L2.upd H7 res (.lst x)) res (.lst y)) res (.lst z) b = some o := fun x y z b o e n => by
        rw [upd_ne n, upd_ne n, upd_ne n]
        exact e
      refine ⟨⟨(Kp432.step st c).1, M', rest, out ++ (((Kp432.step st c).2.nums.length + 1 : Nat) : Int) :: ((Kp432.step st c).2.num :: (Kp432.step st c).2.nums), i + 1 + (cArgs c).2.1.length + (flatRows (cArgs c).2.2).length, rfl, fun d hd => hrest d (List.mem_cons_of_mem _ hd), LwM.good_step good c,
        (del_put (keep _ _ _) h7res).ses no_frz (fun _ _ _ _ z => by cases z) ses7, ?_, ?_, ?_, ?_, ?_⟩, _, _, _, rfl⟩
      · exact ⟨d6, keep _ _ _ _ _ (mv.keep _ _ e6 (ne_ses e6 es6) (ses6.not e6 (fun _ z => by cases z))) (Ne.symm res_rd)⟩
      · rcases nf4d with ⟨o, e⟩ | e
        · have ln : l ≠ res := fun z => by
            subst z
            rw [L2.del_same] at e
            cases e
          have f5 := c5 _ _ e
          have f6 := sb6 _ _ f5 (ne_of f5 e5 (by intro z; cases z))
          have f7 := mv.keep _ _ f6 (ne_of f6 es6 (by intro z; cases z)) (ses6.not f6 (fun _ z => by cases z))
          exact .inl ⟨o, by rw [del_ne ln]; exact keep _ _ _ _ _ f7 ln⟩
        · exact .inr e
      · rw [← List.drop_drop, ← List.drop_drop, z2, List.drop_left, List.drop_left]
      · rw [upd_same]
        unfold ansV
        simp
      · rw [← htot]
        show _ = out ++ (_ :: (_ :: _) ++ outs _ rest)
        simp
end
end Lw
end
/-! LwFin -/
section
set_option Elab.async false
set_option linter.all false
set_option maxRecDepth 100000
set_option maxHeartbeats 4000000
namespace Lw
open PySem PySem.Spec PyProof.Rows L2
theorem flatC_len {c : Kp432.Call} (h : CallOk c) : (flatC c).length ≤ 30 := by
  have r := h.rows
  unfold flatC flatRows
  cases c <;> first
    | (simp [cArgs]; done)
    | (have q := (r _ (List.mem_singleton.mpr rfl)).1
       simp [cArgs]
       omega)
theorem flats_len {cs : List Kp432.Call} (h : ∀ c ∈ cs, CallOk c) : (flats cs).length ≤ 30 * cs.length := by
  induction cs with
  | nil => exact Nat.le_refl _
  | cons c cs ih =>
    have h1 := flatC_len (h c List.mem_cons_self)
    have h2 := ih fun d hd => h d (List.mem_cons_of_mem _ hd)
    unfold flats at h2 ⊢
    rw [List.flatMap_cons, List.length_append, List.length_cons]
    omega
theorem nums_of {K : PySem.W.Frag} {H : Hp} {l : Addr} {ns : List Nat} (hO : OnlyF H) (h : SqL K H l ((up ns).map V.int)) : NumsF K H l ns := by
  have e : (up ns).map V.int = ns.map nat := by
    unfold up
    rw [List.map_map]
    rfl
  rw [e] at h
  rcases h with (h | h) | h
  · rcases hO l with q | ⟨o, u, q⟩
    · rw [h] at q
      cases q
    · rw [h] at q
      cases q
  · exact .inl h
  · exact .inr h
end Lw
end
/-! LwEnd2 -/
section
set_option Elab.async false
set_option linter.all false
set_option maxRecDepth 100000
set_option maxHeartbeats 4000000
/-! the end over a written part that is told by facts -/
namespace Lw
open PySem PySem.Spec PyProof.Rows L2
open PySem.W (Codec OpenSpec)
theorem walk_any {R : OpenSpec} {n : Nat} {view : Program} {bound : List Str} {top : (Str → Option Value) → Heap → Prop} {says : World → Heap → Prop} {rec_ : DefRec} {names : List Str} {sp : PySem.W.Frag → Sp}
    (well : R.wellSaid = true) (plain : rec_.params.defaults = []) (many : R.args.length = names.length) (room : Room n callerA)
    (have_ : ∀ (w : World) (mg : Str → Option Value) (f : Addr) (h : Heap), says w h → h.Ns mainGlobals mg → mg rec_.name = some (.ref f) →
      ∃ (K : PySem.W.Frag) (fd : FuncData), K.In h ∧ (∀ (s : Shared) (us : List Value), us.length = names.length → BindsTo s fd ⟨us, []⟩ (names.zip us)) ∧ ∀ base : Heap, K.In base → base.Ns mainGlobals mg → FnOk R.prog w K mg base CX0 n f fd names (sp K))
    (keeps : ∀ (K : PySem.W.Frag) (H : Hp) (xs : List V) (a : Codec.denoteAll R.args), OnlyF H → Codec.withinAll R.args a = true → Codec.app R.args R.asked a = true → DwAll K H xs (Codec.encAll R.args a) →
      sp K xs H (fun v H' => Dw K H' v (R.ret.enc (Codec.app R.args R.f a))) E0) :
    PySem.W.WalkOS view bound top says R rec_ [] (fun f vs => PySem.call f vs) := by
  intro w s0 s1 mg mb G Y f o pm cd doc dV kV e1 e2 e3 e4 e5 e6 args vals as pre lay reads wl low
  obtain ⟨a, d1, d2⟩ := PySem.W.os_pre_some pre
  obtain ⟨d3, inside⟩ := Codec.encAll_of_decAll R.args args a d1
  subst d3
  obtain ⟨K, fd, KX, bnd, fok⟩ := have_ w mg f _ Y G.T.g e5
  have ran := spec_call (R := []) (cl := classAt s0.heap) (d0 := R.ret.enc (Codec.app R.args R.f a)) KX G.T.g G.T.b G.T.builtins G.T.nolimit e6 wl (pl_encAll _ _) (layable_weight lay) room fok bnd ((encAll_len _ _).trans many)
    (fun H xs only says_ => keeps K H xs a only inside d2 says_) (fun _ _ _ z => z.elim)
  refine PySem.W.enter_call (codeAny_mono ran fun res s2 got => ?_)
  obtain ⟨u, as2, rfl, g1, g2, g3, g4⟩ := got
  refine ⟨.inl ⟨u, _, as2, rfl, fun _ => rfl, g1, ?_, ?_⟩, g2, g3, g4⟩
  · exact (OpenSpec.post_iff well inside _ _).mpr rfl
  · intro z
    exact Bool.noConfusion (show false = true from z)
end Lw
end
/-! LwHook -/
section
set_option Elab.async false
set_option linter.all false
set_option maxRecDepth 100000
set_option maxHeartbeats 4000000
/-! what the top leaves: read off by names after one run -/
namespace Lw
open PySem PySem.Spec PyProof.Rows L2
/-- a def of the text -/
def mkD (at_ : Str × Option Str) (x q : Str) (st : Stmt) : He.FnD := ⟨at_, x, q, defArgs st, defBody st, defScope st⟩
def fs0 : List He.Fa := [.glo "Ratio", .cls "Ratio", .mkr "Ratio", .noat "Ratio" "top", .noat "Ratio" "bottom", .meth "Ratio" "plus", .meth "Ratio" "minus", .meth "Ratio" "times", .meth "Ratio" "over", .meth "Ratio" "below", .meth "Ratio" "smaller", .meth "Ratio" "squared", .meth "Ratio" "pair", .glo "Event", .cls "Event", .mkr "Event", .noat "Event" "context", .noat "Event" "action", .noat "Event" "reward", .noat "Event" "propensity", .glo "Policy", .cls "Policy", .mkr "Policy", .noat "Policy" "weights", .meth "Policy" "chance", .meth "Policy" "can_choose", .meth "Policy" "preferred", .glo "Study", .cls "Study", .mkr "Study", .noat "Study" "contexts", .noat "Study" "actions", .noat "Study" "events", .noat "Study" "policies", .noat "Study" "model", .noat "Study" "truth_weights", .noat "Study" "truth_rewards", .glo "Reader", .cls "Reader", .mkr "Reader", .noat "Reader" "calls", .noat "Reader" "place", .meth "Reader" "ended", .meth "Reader" "number", .meth "Reader" "row", .meth "Reader" "arguments", .glo "Session", .cls "Session", .mkr "Session", .noat "Session" "study", .meth "Session" "answer", .glo "Refusal", .noat "Refusal" "code", .glo "NoStudy", .noat "NoStudy" "code", .exm "NoStudy" "Refusal" true, .glo "Missing", .noat "Missing" "code", .exm "Missing" "Refusal" true, .glo "OutOfLimits", .noat "OutOfLimits" "code", .exm "OutOfLimits" "Refusal" true, .glo "LogFull", .noat "LogFull" "code", .exm "LogFull" "Refusal" true, .glo "NotEnough", .noat "NotEnough" "code", .exm "NotEnough" "Refusal" true, .glo "common_divisor", .glo "whole", .glo "total", .glo "mean", .glo "greatest", .glo "common_bottom", .glo "tops_over", .glo "importance", .glo "importances", .glo "direct_value", .glo "correction", .glo "term_of", .glo "terms_of", .glo "variance_of_mean", .glo "mean_reward", .glo "fitted_estimate", .glo "grid", .glo "check_place", .glo "check_policy", .glo "check_context", .glo "check_decision", .glo "check_range", .glo "check_numbers", .glo "check_row", .glo "check_weights", .glo "check_rewards", .glo "check_relevance", .glo "check_gains", .glo "check_ranks", .glo "check_reward", .glo "check_estimator", .glo "check_room", .glo "check_events", .glo "check_positive", .glo "create", .glo "keep_event", .glo "add_event", .glo "remove_last", .glo "log_event", .glo "set_policy", .glo "copy_policy", .glo "set_model", .glo "fit_model", .glo "set_truth", .glo "following_seed", .glo "resampled_sums", .glo "propensity", .glo "checked_terms", .glo "estimate", .glo "normalized", .glo "replay", .glo "effective_size", .glo "variance", .glo "interval", .glo "compare", .glo "by_context", .glo "greatest_weight", .glo "model_info", .glo "bootstrap", .glo "status", .glo "precision_at", .glo "relevant_ranks", .glo "reciprocal_rank", .glo "discounted_gain", .glo "precision", .glo "rank_measures", .glo "gain_measures", .glo "order_measure", .glo "possible_events", .glo "event_chance", .glo "expected", .glo "true_value", .glo "expectation", .glo "unsupported", .glo "operation_of", .glo "carry_out", .glo "answers", .int "DIRECT" 0, .int "CLIPPED" 2, .int "ROBUST" 3, .int "POLICIES" 3, .int "MOST_CONTEXTS" 6, .int "MOST_ACTIONS" 5, .int "MOST_EVENTS" 40, .int "MOST_REWARD" 100, .int "MOST_DEN" 1000, .int "MOST_WEIGHT" 1000, .int "MOST_KIND" 3, .int "MOST_LIMIT" 100000, .int "MOST_FACTOR" 10000, .int "MOST_ROUNDS" 50, .int "MOST_RANKS" 12, .int "MOST_GAIN" 100, .int "MOST_RANK_NUMBER" 1000, .glo "CHANGES", .int "MULTIPLIER" 1103515245, .int "INCREMENT" 12345, .int "MODULUS" 2147483648, .int "CUT" 65536, .glo "QUESTIONS", .glo "RANKED", .glo "TRUTHS", .int "CREATE" 0, .glo "SHAPES", .free "abs", .free "enumerate", .free "len", .free "list", .free "max", .free "range", .free "sorted", .free "sum", .free "zip", .free "Exception"]
def ds0 : List He.FnD := [mkD ("common_divisor", none) "common_divisor" "common_divisor" s_common_divisor, mkD ("Ratio", some "__init__") "__init__" "Ratio.__init__" s_Ratio_init, mkD ("Ratio", some "plus") "plus" "Ratio.plus" s_Ratio_plus, mkD ("Ratio", some "minus") "minus" "Ratio.minus" s_Ratio_minus, mkD ("Ratio", some "times") "times" "Ratio.times" s_Ratio_times, mkD ("Ratio", some "over") "over" "Ratio.over" s_Ratio_over, mkD ("Ratio", some "below") "below" "Ratio.below" s_Ratio_below, mkD ("Ratio", some "smaller") "smaller" "Ratio.smaller" s_Ratio_smaller, mkD ("Ratio", some "squared") "squared" "Ratio.squared" s_Ratio_squared, mkD ("Ratio", some "pair") "pair" "Ratio.pair" s_Ratio_pair, mkD ("whole", none) "whole" "whole" s_whole, mkD ("total", none) "total" "total" s_total, mkD ("mean", none) "mean" "mean" s_mean, mkD ("greatest", none) "greatest" "greatest" s_greatest, mkD ("common_bottom", none) "common_bottom" "common_bottom" s_common_bottom, mkD ("tops_over", none) "tops_over" "tops_over" s_tops_over, mkD ("importance", none) "importance" "importance" s_importance, mkD ("importances", none) "importances" "importances" s_importances, mkD ("direct_value", none) "direct_value" "direct_value" s_direct_value, mkD ("correction", none) "correction" "correction" s_correction, mkD ("term_of", none) "term_of" "term_of" s_term_of, mkD ("terms_of", none) "terms_of" "terms_of" s_terms_of, mkD ("variance_of_mean", none) "variance_of_mean" "variance_of_mean" s_variance_of_mean, mkD ("mean_reward", none) "mean_reward" "mean_reward" s_mean_reward, mkD ("fitted_estimate", none) "fitted_estimate" "fitted_estimate" s_fitted_estimate, mkD ("Refusal", some "__init__") "__init__" "Refusal.__init__" s_Refusal_init, mkD ("NoStudy", some "__init__") "__init__" "NoStudy.__init__" s_NoStudy_init, mkD ("Missing", some "__init__") "__init__" "Missing.__init__" s_Missing_init, mkD ("OutOfLimits", some "__init__") "__init__" "OutOfLimits.__init__" s_OutOfLimits_init, mkD ("LogFull", some "__init__") "__init__" "LogFull.__init__" s_LogFull_init, mkD ("NotEnough", some "__init__") "__init__" "NotEnough.__init__" s_NotEnough_init, mkD ("Event", some "__init__") "__init__" "Event.__init__" s_Event_init, mkD ("Policy", some "__init__") "__init__" "Policy.__init__" s_Policy_init, mkD ("Policy", some "chance") "chance" "Policy.chance" s_Policy_chance, mkD ("Policy", some "can_choose") "can_choose" "Policy.can_choose" s_Policy_can_choose, mkD ("Policy", some "preferred") "preferred" "Policy.preferred" s_Policy_preferred, mkD ("Study", some "__init__") "__init__" "Study.__init__" s_Study_init, mkD ("grid", none) "grid" "grid" s_grid, mkD ("check_place", none) "check_place" "check_place" s_check_place, mkD ("check_policy", none) "check_policy" "check_policy" s_check_policy, mkD ("check_context", none) "check_context" "check_context" s_check_context, mkD ("check_decision", none) "check_decision" "check_decision" s_check_decision, mkD ("check_range", none) "check_range" "check_range" s_check_range, mkD ("check_numbers", none) "check_numbers" "check_numbers" s_check_numbers, mkD ("check_row", none) "check_row" "check_row" s_check_row, mkD ("check_weights", none) "check_weights" "check_weights" s_check_weights, mkD ("check_rewards", none) "check_rewards" "check_rewards" s_check_rewards, mkD ("check_relevance", none) "check_relevance" "check_relevance" s_check_relevance, mkD ("check_gains", none) "check_gains" "check_gains" s_check_gains, mkD ("check_ranks", none) "check_ranks" "check_ranks" s_check_ranks, mkD ("check_reward", none) "check_reward" "check_reward" s_check_reward, mkD ("check_estimator", none) "check_estimator" "check_estimator" s_check_estimator, mkD ("check_room", none) "check_room" "check_room" s_check_room]
def ds1 : List He.FnD := [mkD ("check_events", none) "check_events" "check_events" s_check_events, mkD ("check_positive", none) "check_positive" "check_positive" s_check_positive, mkD ("create", none) "create" "create" s_create, mkD ("keep_event", none) "keep_event" "keep_event" s_keep_event, mkD ("add_event", none) "add_event" "add_event" s_add_event, mkD ("remove_last", none) "remove_last" "remove_last" s_remove_last, mkD ("log_event", none) "log_event" "log_event" s_log_event, mkD ("set_policy", none) "set_policy" "set_policy" s_set_policy, mkD ("copy_policy", none) "copy_policy" "copy_policy" s_copy_policy, mkD ("set_model", none) "set_model" "set_model" s_set_model, mkD ("fit_model", none) "fit_model" "fit_model" s_fit_model, mkD ("set_truth", none) "set_truth" "set_truth" s_set_truth, mkD ("following_seed", none) "following_seed" "following_seed" s_following_seed, mkD ("resampled_sums", none) "resampled_sums" "resampled_sums" s_resampled_sums, mkD ("propensity", none) "propensity" "propensity" s_propensity, mkD ("checked_terms", none) "checked_terms" "checked_terms" s_checked_terms, mkD ("estimate", none) "estimate" "estimate" s_estimate, mkD ("normalized", none) "normalized" "normalized" s_normalized, mkD ("replay", none) "replay" "replay" s_replay, mkD ("effective_size", none) "effective_size" "effective_size" s_effective_size, mkD ("variance", none) "variance" "variance" s_variance, mkD ("interval", none) "interval" "interval" s_interval, mkD ("compare", none) "compare" "compare" s_compare, mkD ("by_context", none) "by_context" "by_context" s_by_context, mkD ("greatest_weight", none) "greatest_weight" "greatest_weight" s_greatest_weight, mkD ("model_info", none) "model_info" "model_info" s_model_info, mkD ("bootstrap", none) "bootstrap" "bootstrap" s_bootstrap, mkD ("status", none) "status" "status" s_status, mkD ("precision_at", none) "precision_at" "precision_at" s_precision_at, mkD ("relevant_ranks", none) "relevant_ranks" "relevant_ranks" s_relevant_ranks, mkD ("reciprocal_rank", none) "reciprocal_rank" "reciprocal_rank" s_reciprocal_rank, mkD ("discounted_gain", none) "discounted_gain" "discounted_gain" s_discounted_gain, mkD ("precision", none) "precision" "precision" s_precision, mkD ("rank_measures", none) "rank_measures" "rank_measures" s_rank_measures, mkD ("gain_measures", none) "gain_measures" "gain_measures" s_gain_measures, mkD ("order_measure", none) "order_measure" "order_measure" s_order_measure, mkD ("Reader", some "__init__") "__init__" "Reader.__init__" s_Reader_init, mkD ("Reader", some "ended") "ended" "Reader.ended" s_Reader_ended, mkD ("Reader", some "number") "number" "Reader.number" s_Reader_number, mkD ("Reader", some "row") "row" "Reader.row" s_Reader_row, mkD ("Reader", some "arguments") "arguments" "Reader.arguments" s_Reader_arguments, mkD ("possible_events", none) "possible_events" "possible_events" s_possible_events, mkD ("event_chance", none) "event_chance" "event_chance" s_event_chance, mkD ("expected", none) "expected" "expected" s_expected, mkD ("true_value", none) "true_value" "true_value" s_true_value, mkD ("expectation", none) "expectation" "expectation" s_expectation, mkD ("unsupported", none) "unsupported" "unsupported" s_unsupported, mkD ("Session", some "__init__") "__init__" "Session.__init__" s_Session_init, mkD ("Session", some "answer") "answer" "Session.answer" s_Session_answer, mkD ("operation_of", none) "operation_of" "operation_of" s_operation_of, mkD ("carry_out", none) "carry_out" "carry_out" s_carry_out, mkD ("answers", none) "answers" "answers" s_answers]
/-- an own error's class -/
def erB (K : PySem.W.Frag) (C : Addr) : Bool := (match K.lookup C with
    | some ⟨.type t, _, .cls cd, sl⟩ => (match cd.mro, sl.toList with
      | .ref D :: up, [_, _, _, _, some (.builtin mk), _] => decide (t = "type") && (decide (D = C) && (decide (mk = "Exception.__new__") && (decide (cd.hasDel = false) && (cd.hasDict && LwX.overE up))))
      | _, _ => false)
    | _ => false) &&
  (He.eqO (PySem.W.findIn K (.ref C) "__setattr__") (some (some (.builtin "object.__setattr__"))) && (decide (PySem.W.subIn K (.ref C) (.type "BaseException") = some true) && (decide (PySem.W.typeIn K (.ref C) = some (.type "type")) && (PySem.W.keepIn K (.ref C) &&
  (xfB K C && (He.eqO (PySem.W.findIn K (.ref C) "__init__") (some (some (.ref (He.ma K C "__init__")))) && decide (PySem.W.typeIn K (.ref (He.ma K C "__init__")) = some (.type "function"))))))))
structure ErB (K : PySem.W.Frag) (C : Addr) : Prop where
  er : PySem.W.findIn K (.ref C) "code" = some none → ErrC K C
  xf : XfC K C
  oi : PySem.W.findIn K (.ref C) "__init__" = some (some (.ref (He.ma K C "__init__")))
  of : PySem.W.typeIn K (.ref (He.ma K C "__init__")) = some (.type "function")
theorem erB_ok {K : PySem.W.Frag} {C : Addr} (h : erB K C = true) : ErB K C := by
  unfold erB at h
  obtain ⟨h0, h⟩ := He.ba h
  obtain ⟨h1, h⟩ := He.ba h
  obtain ⟨h2, h⟩ := He.ba h
  obtain ⟨h3, h⟩ := He.ba h
  obtain ⟨h4, h⟩ := He.ba h
  obtain ⟨h5, h⟩ := He.ba h
  obtain ⟨h6, h7⟩ := He.ba h
  refine ⟨fun nc => ⟨?_, He.eqO_ok h1, of_decide_eq_true h2, of_decide_eq_true h3, h4, nc⟩, xfB_ok h5, He.eqO_ok h6, of_decide_eq_true h7⟩
  split at h0
  · rename_i t dd cd sl q
    split at h0
    · rename_i D up k0 k1 k2 k3 mk k5 hm hs
      obtain ⟨g1, h0⟩ := He.ba h0
      obtain ⟨g2, h0⟩ := He.ba h0
      obtain ⟨g3, h0⟩ := He.ba h0
      obtain ⟨g4, h0⟩ := He.ba h0
      obtain ⟨g5, g6⟩ := He.ba h0
      obtain ⟨nm, bs, mro, ns, qn, hd, sn, sub, ab, col, del⟩ := cd
      have y1 := of_decide_eq_true g1
      have y2 := of_decide_eq_true g2
      have y3 := of_decide_eq_true g3
      have y4 : del = false := of_decide_eq_true g4
      have y5 : hd = true := g5
      have ym : mro = _ := hm
      clear g1 g2 g3 g4 g5 h0 hm
      subst ym y1 y2 y3 y4 y5
      have e : sl = #[k0, k1, k2, k3, some (.builtin "Exception.__new__"), k5] := by
        obtain ⟨l⟩ := sl
        exact congrArg Array.mk hs
      subst e
      exact ⟨_, _, _, _, _, _, _, _, _, _, _, _, _, _, _, q, g6⟩
    · cases h0
  · cases h0
def offB (K : PySem.W.Frag) (C : Addr) : Bool := PySem.W.readsIn K C (.type "type") && (He.eqO (PySem.W.specialIn K (.ref C) "__getattribute__") (some (some (.builtin "type.__getattribute__"))) && ((match PySem.W.findCls K (.ref C) (.type "type") "__init__" with
    | some (.val (.ref a)) => decide (a = He.ma K C "__init__")
    | _ => false) && PySem.W.keepIn K (.ref (He.ma K C "__init__"))))
theorem offB_ok {K : PySem.W.Frag} {C : Addr} (h : offB K C = true) : OffCls K C "__init__" (He.ma K C "__init__") := by
  obtain ⟨h1, h⟩ := He.ba h
  obtain ⟨h2, h⟩ := He.ba h
  obtain ⟨h3, h4⟩ := He.ba h
  refine ⟨⟨_, h1, He.eqO_ok h2, ?_⟩, h4⟩
  split at h3
  · rename_i a e
    rw [of_decide_eq_true h3] at e
    exact e
  · cases h3
def exAll (K : PySem.W.Frag) : List Bool := [erB K (He.ga K "Refusal"), erB K (He.ga K "NoStudy"), erB K (He.ga K "Missing"), erB K (He.ga K "OutOfLimits"), erB K (He.ga K "LogFull"), erB K (He.ga K "NotEnough"), offB K (He.ga K "Refusal"), decide (intTab K (He.ga K "CHANGES") = some ([(1, He.ga K "add_event"), (2, He.ga K "remove_last"), (3, He.ga K "log_event"), (4, He.ga K "set_policy"), (5, He.ga K "copy_policy"), (6, He.ga K "set_model"), (7, He.ga K "fit_model"), (8, He.ga K "set_truth")].map some)), decide (intTab K (He.ga K "QUESTIONS") = some ([(9, He.ga K "propensity"), (10, He.ga K "estimate"), (11, He.ga K "normalized"), (12, He.ga K "replay"), (13, He.ga K "effective_size"), (14, He.ga K "variance"), (15, He.ga K "interval"), (16, He.ga K "compare"), (17, He.ga K "by_context"), (18, He.ga K "greatest_weight"), (19, He.ga K "model_info"), (23, He.ga K "bootstrap"), (28, He.ga K "status")].map some)), decide (intTab K (He.ga K "RANKED") = some ([(24, He.ga K "precision"), (25, He.ga K "rank_measures"), (26, He.ga K "gain_measures"), (27, He.ga K "order_measure")].map some)), decide (intTab K (He.ga K "TRUTHS") = some ([(20, He.ga K "true_value"), (21, He.ga K "expectation"), (22, He.ga K "unsupported")].map some)), decide (tupTab K (He.ga K "SHAPES") = some ([(2, 0), (5, 0), (0, 0), (4, 0), (2, 1), (2, 0), (1, 1), (0, 0), (2, 1), (3, 0), (3, 0), (1, 0), (1, 0), (1, 0), (3, 0), (4, 0), (4, 0), (3, 0), (1, 0), (1, 0), (1, 0), (4, 0), (2, 0), (5, 0), (1, 1), (0, 1), (0, 1), (0, 1), (0, 0)].map some))]
abbrev Seen : Type := Bool × List He.FnV
def seeF (l : List He.Fa) (K : PySem.W.Frag) : Seen := (l.all fun f => f.ok K, [])
def seeD (l : List He.FnD) (K : PySem.W.Frag) : Seen := (l.all fun d => (He.Fa.code d.at_ d.qual).ok K && PySem.W.keepIn K (.ref (He.fAd K d.at_)), l.map fun d => He.fnObs K d.at_)
def seeE (K : PySem.W.Frag) : Seen := ((exAll K).all id, [])
def seeA (K : PySem.W.Frag) : Seen := ((seeF fs0 K).1 && (seeE K).1, [])
theorem seeA_ok {K : PySem.W.Frag} (c : seeA K = (true, [])) : seeF fs0 K = (true, []) ∧ seeE K = (true, []) := by
  have z : ((seeF fs0 K).1 && (seeE K).1) = true := congrArg (fun z : Seen => z.1) c
  obtain ⟨z1, z2⟩ := He.ba z
  exact ⟨Prod.ext z1 rfl, Prod.ext z2 rfl⟩
def seenOf (K : PySem.W.Frag) : List Seen := [seeA K, seeD ds0 K, seeD ds1 K]
def seenDue : List Seen := [(true, []), (true, ds0.map He.FnD.val), (true, ds1.map He.FnD.val)]
def Says (K : PySem.W.Frag) : Prop := seenOf K = seenDue
def ad0 : List Addr := [2, 3, 15, 17, 18, 20, 21, 29, 31, 32, 34, 35, 36, 38, 39, 41, 42, 43, 45, 46, 48, 49, 50, 52, 53, 55, 56, 57, 59, 60, 62, 63, 64, 66, 67, 69, 70, 71, 73, 74]
def ad1 : List Addr := [76, 77, 78, 80, 81, 83, 84, 85, 87, 88, 90, 91, 92, 93, 94, 95, 96, 99, 101, 102, 104, 105, 106, 108, 109, 111, 112, 113, 115, 116, 118, 119, 120, 122, 123, 125, 126, 127, 129, 130]
def ad2 : List Addr := [132, 133, 134, 137, 138, 139, 141, 142, 144, 145, 146, 149, 150, 151, 154, 155, 156, 158, 159, 161, 162, 163, 165, 166, 168, 169, 170, 173, 174, 175, 178, 179, 180, 183, 184, 185, 188, 189, 190, 197]
def ad3 : List Addr := [199, 200, 202, 203, 204, 205, 206, 207, 210, 217, 219, 220, 222, 223, 224, 225, 226, 229, 236, 238, 239, 241, 242, 243, 244, 245, 248, 255, 257, 258, 260, 261, 262, 263, 264, 267, 274, 276, 277, 279]
def ad4 : List Addr := [280, 281, 282, 283, 286, 293, 295, 296, 298, 299, 300, 301, 302, 312, 314, 315, 317, 318, 319, 320, 321, 322, 323, 333, 335, 336, 338, 339, 340, 342, 343, 345, 346, 347, 349, 350, 352, 353, 354, 356]
def ad5 : List Addr := [357, 359, 360, 361, 362, 363, 364, 365, 375, 378, 379, 380, 381, 382, 383, 384, 387, 390, 391, 392, 394, 395, 397, 398, 399, 401, 402, 404, 405, 406, 408, 409, 411, 412, 413, 415, 416, 418, 419, 420]
def ad6 : List Addr := [422, 423, 425, 426, 427, 429, 430, 432, 433, 434, 436, 437, 439, 440, 441, 443, 444, 446, 447, 448, 450, 451, 453, 454, 455, 457, 458, 460, 461, 462, 464, 465, 467, 468, 469, 471, 472, 474, 475, 476]
def ad7 : List Addr := [478, 479, 481, 482, 483, 485, 486, 488, 489, 490, 492, 493, 495, 496, 497, 499, 500, 502, 503, 504, 506, 507, 509, 510, 511, 513, 514, 516, 517, 518, 520, 521, 523, 524, 525, 527, 528, 530, 531, 532]
def ad8 : List Addr := [534, 535, 537, 538, 539, 541, 542, 544, 545, 546, 548, 549, 551, 552, 553, 556, 557, 558, 561, 562, 563, 566, 567, 568, 570, 571, 573, 574, 575, 576, 578, 579, 581, 582, 583, 585, 586, 588, 589, 590]
def ad9 : List Addr := [592, 593, 595, 596, 597, 599, 600, 602, 603, 604, 606, 607, 609, 610, 611, 614, 615, 616, 619, 620, 621, 624, 625, 626, 628, 629, 631, 632, 633, 635, 636, 638, 639, 640, 643, 644, 645, 648, 649, 650]
def ad10 : List Addr := [652, 653, 655, 656, 657, 659, 660, 662, 663, 664, 666, 667, 669, 670, 671, 674, 675, 676, 677, 679, 680, 682, 683, 684, 687, 688, 689, 691, 692, 694, 695, 696, 699, 700, 701, 703, 704, 706, 707, 708]
def ad11 : List Addr := [711, 712, 713, 715, 716, 718, 719, 720, 723, 724, 725, 733, 735, 736, 738, 739, 740, 742, 743, 745, 746, 747, 749, 750, 752, 753, 754, 756, 757, 759, 760, 761, 763, 764, 766, 767, 768, 769, 770, 771]
def ad12 : List Addr := [772, 775, 777, 778, 780, 781, 782, 784, 785, 787, 788, 789, 792, 793, 794, 797, 798, 799, 802, 803, 804, 806, 807, 809, 810, 811, 812, 813, 814, 815, 816, 817, 818, 819, 820, 821, 822, 823, 824, 825]
def ad13 : List Addr := [826, 827, 828, 829, 830, 831, 832, 833, 834, 835, 836, 837, 838, 839, 840, 841, 849, 851, 852, 854, 855, 856, 858, 859, 861, 862, 863, 864, 865, 866, 867, 870, 872, 873, 875, 876, 877, 879, 880, 882]
def ad14 : List Addr := [883, 884, 886, 887, 889, 890]
def adAll : List Addr := ad0 ++ ad1 ++ ad2 ++ ad3 ++ ad4 ++ ad5 ++ ad6 ++ ad7 ++ ad8 ++ ad9 ++ ad10 ++ ad11 ++ ad12 ++ ad13 ++ ad14
def partOf (g : Addr → Option Obj) : PySem.W.Frag := He.frG g adAll
def hookL : PySem.W.Hook where
  α := List Seen
  obs := fun s => seenOf (partOf s.heap.get?)
  val := fun _ => seenDue
  says := fun _ h => ∃ K : PySem.W.Frag, K.In h ∧ Says K
  of := fun _ _ e => ⟨_, He.frG_in, e⟩
  keeps := fun _ _ _ ⟨K, hK, c⟩ k => ⟨K, hK.keeps k, c⟩
section
variable {K : PySem.W.Frag} {h : Heap} {mg : Str → Option Value}
theorem Says.at_ (c : Says K) (j : Nat) {a b : Seen} (ea : (seenOf K)[j]? = some a := by rfl) (eb : seenDue[j]? = some b := by rfl) : a = b := by
  have c : seenOf K = seenDue := c
  rw [c, eb] at ea
  exact (Option.some.inj ea).symm
theorem factF {l : List He.Fa} (c : seeF l K = (true, [])) (i : Nat) {f : He.Fa} (e : l[i]? = some f := by rfl) : f.ok K = true := List.all_eq_true.mp (show (l.all fun f => f.ok K) = true from congrArg (fun z : Seen => z.1) c) f (List.mem_of_getElem? e)
theorem factE (c : seeE K = (true, [])) (i : Nat) {b : Bool} (e : (exAll K)[i]? = some b := by rfl) : b = true := List.all_eq_true.mp (show (exAll K).all id = true from congrArg (fun z : Seen => z.1) c) b (List.mem_of_getElem? e)
theorem factD {l : List He.FnD} (c : seeD l K = (true, l.map He.FnD.val)) (i : Nat) {at_ : Str × Option Str} {x q : Str} {st : Stmt} (e : l[i]? = some (mkD at_ x q st) := by rfl) : ∃ fd, Fun K x q st (He.fAd K at_) fd := by
  have h1 : (l.all fun d => (He.Fa.code d.at_ d.qual).ok K && PySem.W.keepIn K (.ref (He.fAd K d.at_))) = true := congrArg (fun z : Seen => z.1) c
  have h2 : (l.map fun d => He.fnObs K d.at_) = l.map He.FnD.val := congrArg (fun z : Seen => z.2) c
  obtain ⟨k1, k2⟩ := He.ba (List.all_eq_true.mp h1 _ (List.mem_of_getElem? e))
  have e2 : (l.map fun d => He.fnObs K d.at_)[i]? = (l.map He.FnD.val)[i]? := by rw [h2]
  rw [List.getElem?_map, List.getElem?_map, e] at e2
  obtain ⟨oc, od, osl, kV, doc, pm, an, cdv, ct, lo, cd⟩ := He.fn_ok (Option.some.inj e2) k1
  exact ⟨_, fun_mk lo cd k2⟩
end

theorem txt_of {K : PySem.W.Frag} {h : Heap} {mg : Str → Option Value} (X : K.In h) (G : h.Ns mainGlobals mg) (c : Says K) : ∃ A : Ad, Txt K mg A ∧ A.f_answers = He.ga K "answers" := by
  obtain ⟨d_common_divisor, F_common_divisor⟩ := factD (l := ds0) (c.at_ 1) 0
  obtain ⟨d_Ratio_init, F_Ratio_init⟩ := factD (l := ds0) (c.at_ 1) 1
  obtain ⟨d_Ratio_plus, F_Ratio_plus⟩ := factD (l := ds0) (c.at_ 1) 2
  obtain ⟨d_Ratio_minus, F_Ratio_minus⟩ := factD (l := ds0) (c.at_ 1) 3
  obtain ⟨d_Ratio_times, F_Ratio_times⟩ := factD (l := ds0) (c.at_ 1) 4
  obtain ⟨d_Ratio_over, F_Ratio_over⟩ := factD (l := ds0) (c.at_ 1) 5
  obtain ⟨d_Ratio_below, F_Ratio_below⟩ := factD (l := ds0) (c.at_ 1) 6
  obtain ⟨d_Ratio_smaller, F_Ratio_smaller⟩ := factD (l := ds0) (c.at_ 1) 7
  obtain ⟨d_Ratio_squared, F_Ratio_squared⟩ := factD (l := ds0) (c.at_ 1) 8
  obtain ⟨d_Ratio_pair, F_Ratio_pair⟩ := factD (l := ds0) (c.at_ 1) 9
  obtain ⟨d_whole, F_whole⟩ := factD (l := ds0) (c.at_ 1) 10
  obtain ⟨d_total, F_total⟩ := factD (l := ds0) (c.at_ 1) 11
  obtain ⟨d_mean, F_mean⟩ := factD (l := ds0) (c.at_ 1) 12
  obtain ⟨d_greatest, F_greatest⟩ := factD (l := ds0) (c.at_ 1) 13
  obtain ⟨d_common_bottom, F_common_bottom⟩ := factD (l := ds0) (c.at_ 1) 14
  obtain ⟨d_tops_over, F_tops_over⟩ := factD (l := ds0) (c.at_ 1) 15
  obtain ⟨d_importance, F_importance⟩ := factD (l := ds0) (c.at_ 1) 16
  obtain ⟨d_importances, F_importances⟩ := factD (l := ds0) (c.at_ 1) 17
  obtain ⟨d_direct_value, F_direct_value⟩ := factD (l := ds0) (c.at_ 1) 18
  obtain ⟨d_correction, F_correction⟩ := factD (l := ds0) (c.at_ 1) 19
  obtain ⟨d_term_of, F_term_of⟩ := factD (l := ds0) (c.at_ 1) 20
  obtain ⟨d_terms_of, F_terms_of⟩ := factD (l := ds0) (c.at_ 1) 21
  obtain ⟨d_variance_of_mean, F_variance_of_mean⟩ := factD (l := ds0) (c.at_ 1) 22
  obtain ⟨d_mean_reward, F_mean_reward⟩ := factD (l := ds0) (c.at_ 1) 23
  obtain ⟨d_fitted_estimate, F_fitted_estimate⟩ := factD (l := ds0) (c.at_ 1) 24
  obtain ⟨d_Refusal_init, F_Refusal_init⟩ := factD (l := ds0) (c.at_ 1) 25
  obtain ⟨d_NoStudy_init, F_NoStudy_init⟩ := factD (l := ds0) (c.at_ 1) 26
  obtain ⟨d_Missing_init, F_Missing_init⟩ := factD (l := ds0) (c.at_ 1) 27
  obtain ⟨d_OutOfLimits_init, F_OutOfLimits_init⟩ := factD (l := ds0) (c.at_ 1) 28
  obtain ⟨d_LogFull_init, F_LogFull_init⟩ := factD (l := ds0) (c.at_ 1) 29
  obtain ⟨d_NotEnough_init, F_NotEnough_init⟩ := factD (l := ds0) (c.at_ 1) 30
  obtain ⟨d_Event_init, F_Event_init⟩ := factD (l := ds0) (c.at_ 1) 31
  obtain ⟨d_Policy_init, F_Policy_init⟩ := factD (l := ds0) (c.at_ 1) 32
  obtain ⟨d_Policy_chance, F_Policy_chance⟩ := factD (l := ds0) (c.at_ 1) 33
  obtain ⟨d_Policy_can_choose, F_Policy_can_choose⟩ := factD (l := ds0) (c.at_ 1) 34
  obtain ⟨d_Policy_preferred, F_Policy_preferred⟩ := factD (l := ds0) (c.at_ 1) 35
  obtain ⟨d_Study_init, F_Study_init⟩ := factD (l := ds0) (c.at_ 1) 36
  obtain ⟨d_grid, F_grid⟩ := factD (l := ds0) (c.at_ 1) 37
  obtain ⟨d_check_place, F_check_place⟩ := factD (l := ds0) (c.at_ 1) 38
  obtain ⟨d_check_policy, F_check_policy⟩ := factD (l := ds0) (c.at_ 1) 39
  obtain ⟨d_check_context, F_check_context⟩ := factD (l := ds0) (c.at_ 1) 40
  obtain ⟨d_check_decision, F_check_decision⟩ := factD (l := ds0) (c.at_ 1) 41
  obtain ⟨d_check_range, F_check_range⟩ := factD (l := ds0) (c.at_ 1) 42
  obtain ⟨d_check_numbers, F_check_numbers⟩ := factD (l := ds0) (c.at_ 1) 43
  obtain ⟨d_check_row, F_check_row⟩ := factD (l := ds0) (c.at_ 1) 44
  obtain ⟨d_check_weights, F_check_weights⟩ := factD (l := ds0) (c.at_ 1) 45
  obtain ⟨d_check_rewards, F_check_rewards⟩ := factD (l := ds0) (c.at_ 1) 46
  obtain ⟨d_check_relevance, F_check_relevance⟩ := factD (l := ds0) (c.at_ 1) 47
  obtain ⟨d_check_gains, F_check_gains⟩ := factD (l := ds0) (c.at_ 1) 48
  obtain ⟨d_check_ranks, F_check_ranks⟩ := factD (l := ds0) (c.at_ 1) 49
  obtain ⟨d_check_reward, F_check_reward⟩ := factD (l := ds0) (c.at_ 1) 50
  obtain ⟨d_check_estimator, F_check_estimator⟩ := factD (l := ds0) (c.at_ 1) 51
  obtain ⟨d_check_room, F_check_room⟩ := factD (l := ds0) (c.at_ 1) 52
  obtain ⟨d_check_events, F_check_events⟩ := factD (l := ds1) (c.at_ 2) 0
  obtain ⟨d_check_positive, F_check_positive⟩ := factD (l := ds1) (c.at_ 2) 1
  obtain ⟨d_create, F_create⟩ := factD (l := ds1) (c.at_ 2) 2
  obtain ⟨d_keep_event, F_keep_event⟩ := factD (l := ds1) (c.at_ 2) 3
  obtain ⟨d_add_event, F_add_event⟩ := factD (l := ds1) (c.at_ 2) 4
  obtain ⟨d_remove_last, F_remove_last⟩ := factD (l := ds1) (c.at_ 2) 5
  obtain ⟨d_log_event, F_log_event⟩ := factD (l := ds1) (c.at_ 2) 6
  obtain ⟨d_set_policy, F_set_policy⟩ := factD (l := ds1) (c.at_ 2) 7
  obtain ⟨d_copy_policy, F_copy_policy⟩ := factD (l := ds1) (c.at_ 2) 8
  obtain ⟨d_set_model, F_set_model⟩ := factD (l := ds1) (c.at_ 2) 9
  obtain ⟨d_fit_model, F_fit_model⟩ := factD (l := ds1) (c.at_ 2) 10
  obtain ⟨d_set_truth, F_set_truth⟩ := factD (l := ds1) (c.at_ 2) 11
  obtain ⟨d_following_seed, F_following_seed⟩ := factD (l := ds1) (c.at_ 2) 12
  obtain ⟨d_resampled_sums, F_resampled_sums⟩ := factD (l := ds1) (c.at_ 2) 13
  obtain ⟨d_propensity, F_propensity⟩ := factD (l := ds1) (c.at_ 2) 14
  obtain ⟨d_checked_terms, F_checked_terms⟩ := factD (l := ds1) (c.at_ 2) 15
  obtain ⟨d_estimate, F_estimate⟩ := factD (l := ds1) (c.at_ 2) 16
  obtain ⟨d_normalized, F_normalized⟩ := factD (l := ds1) (c.at_ 2) 17
  obtain ⟨d_replay, F_replay⟩ := factD (l := ds1) (c.at_ 2) 18
  obtain ⟨d_effective_size, F_effective_size⟩ := factD (l := ds1) (c.at_ 2) 19
  obtain ⟨d_variance, F_variance⟩ := factD (l := ds1) (c.at_ 2) 20
  obtain ⟨d_interval, F_interval⟩ := factD (l := ds1) (c.at_ 2) 21
  obtain ⟨d_compare, F_compare⟩ := factD (l := ds1) (c.at_ 2) 22
  obtain ⟨d_by_context, F_by_context⟩ := factD (l := ds1) (c.at_ 2) 23
  obtain ⟨d_greatest_weight, F_greatest_weight⟩ := factD (l := ds1) (c.at_ 2) 24
  obtain ⟨d_model_info, F_model_info⟩ := factD (l := ds1) (c.at_ 2) 25
  obtain ⟨d_bootstrap, F_bootstrap⟩ := factD (l := ds1) (c.at_ 2) 26
  obtain ⟨d_status, F_status⟩ := factD (l := ds1) (c.at_ 2) 27
  obtain ⟨d_precision_at, F_precision_at⟩ := factD (l := ds1) (c.at_ 2) 28
  obtain ⟨d_relevant_ranks, F_relevant_ranks⟩ := factD (l := ds1) (c.at_ 2) 29
  obtain ⟨d_reciprocal_rank, F_reciprocal_rank⟩ := factD (l := ds1) (c.at_ 2) 30
  obtain ⟨d_discounted_gain, F_discounted_gain⟩ := factD (l := ds1) (c.at_ 2) 31
  obtain ⟨d_precision, F_precision⟩ := factD (l := ds1) (c.at_ 2) 32
  obtain ⟨d_rank_measures, F_rank_measures⟩ := factD (l := ds1) (c.at_ 2) 33
  obtain ⟨d_gain_measures, F_gain_measures⟩ := factD (l := ds1) (c.at_ 2) 34
  obtain ⟨d_order_measure, F_order_measure⟩ := factD (l := ds1) (c.at_ 2) 35
  obtain ⟨d_Reader_init, F_Reader_init⟩ := factD (l := ds1) (c.at_ 2) 36
  obtain ⟨d_Reader_ended, F_Reader_ended⟩ := factD (l := ds1) (c.at_ 2) 37
  obtain ⟨d_Reader_number, F_Reader_number⟩ := factD (l := ds1) (c.at_ 2) 38
  obtain ⟨d_Reader_row, F_Reader_row⟩ := factD (l := ds1) (c.at_ 2) 39
  obtain ⟨d_Reader_arguments, F_Reader_arguments⟩ := factD (l := ds1) (c.at_ 2) 40
  obtain ⟨d_possible_events, F_possible_events⟩ := factD (l := ds1) (c.at_ 2) 41
  obtain ⟨d_event_chance, F_event_chance⟩ := factD (l := ds1) (c.at_ 2) 42
  obtain ⟨d_expected, F_expected⟩ := factD (l := ds1) (c.at_ 2) 43
  obtain ⟨d_true_value, F_true_value⟩ := factD (l := ds1) (c.at_ 2) 44
  obtain ⟨d_expectation, F_expectation⟩ := factD (l := ds1) (c.at_ 2) 45
  obtain ⟨d_unsupported, F_unsupported⟩ := factD (l := ds1) (c.at_ 2) 46
  obtain ⟨d_Session_init, F_Session_init⟩ := factD (l := ds1) (c.at_ 2) 47
  obtain ⟨d_Session_answer, F_Session_answer⟩ := factD (l := ds1) (c.at_ 2) 48
  obtain ⟨d_operation_of, F_operation_of⟩ := factD (l := ds1) (c.at_ 2) 49
  obtain ⟨d_carry_out, F_carry_out⟩ := factD (l := ds1) (c.at_ 2) 50
  obtain ⟨d_answers, F_answers⟩ := factD (l := ds1) (c.at_ 2) 51
  obtain ⟨cF, cE⟩ := seeA_ok (c.at_ 0)
  exact ⟨{
    c_Ratio := He.ga K "Ratio",
    c_Refusal := He.ga K "Refusal",
    c_NoStudy := He.ga K "NoStudy",
    c_Missing := He.ga K "Missing",
    c_OutOfLimits := He.ga K "OutOfLimits",
    c_LogFull := He.ga K "LogFull",
    c_NotEnough := He.ga K "NotEnough",
    c_Event := He.ga K "Event",
    c_Policy := He.ga K "Policy",
    c_Study := He.ga K "Study",
    c_Reader := He.ga K "Reader",
    c_Session := He.ga K "Session",
    f_common_divisor := He.ga K "common_divisor",
    d_common_divisor := d_common_divisor,
    f_Ratio_init := He.ma K (He.ga K "Ratio") "__init__",
    d_Ratio_init := d_Ratio_init,
    f_Ratio_plus := He.ma K (He.ga K "Ratio") "plus",
    d_Ratio_plus := d_Ratio_plus,
    f_Ratio_minus := He.ma K (He.ga K "Ratio") "minus",
    d_Ratio_minus := d_Ratio_minus,
    f_Ratio_times := He.ma K (He.ga K "Ratio") "times",
    d_Ratio_times := d_Ratio_times,
    f_Ratio_over := He.ma K (He.ga K "Ratio") "over",
    d_Ratio_over := d_Ratio_over,
    f_Ratio_below := He.ma K (He.ga K "Ratio") "below",
    d_Ratio_below := d_Ratio_below,
    f_Ratio_smaller := He.ma K (He.ga K "Ratio") "smaller",
    d_Ratio_smaller := d_Ratio_smaller,
    f_Ratio_squared := He.ma K (He.ga K "Ratio") "squared",
    d_Ratio_squared := d_Ratio_squared,
    f_Ratio_pair := He.ma K (He.ga K "Ratio") "pair",
    d_Ratio_pair := d_Ratio_pair,
    f_whole := He.ga K "whole",
    d_whole := d_whole,
    f_total := He.ga K "total",
    d_total := d_total,
    f_mean := He.ga K "mean",
    d_mean := d_mean,
    f_greatest := He.ga K "greatest",
    d_greatest := d_greatest,
    f_common_bottom := He.ga K "common_bottom",
    d_common_bottom := d_common_bottom,
    f_tops_over := He.ga K "tops_over",
    d_tops_over := d_tops_over,
    f_importance := He.ga K "importance",
    d_importance := d_importance,
    f_importances := He.ga K "importances",
    d_importances := d_importances,
    f_direct_value := He.ga K "direct_value",
    d_direct_value := d_direct_value,
    f_correction := He.ga K "correction",
    d_correction := d_correction,
    f_term_of := He.ga K "term_of",
    d_term_of := d_term_of,
    f_terms_of := He.ga K "terms_of",
    d_terms_of := d_terms_of,
    f_variance_of_mean := He.ga K "variance_of_mean",
    d_variance_of_mean := d_variance_of_mean,
    f_mean_reward := He.ga K "mean_reward",
    d_mean_reward := d_mean_reward,
    f_fitted_estimate := He.ga K "fitted_estimate",
    d_fitted_estimate := d_fitted_estimate,
    f_Refusal_init := He.ma K (He.ga K "Refusal") "__init__",
    d_Refusal_init := d_Refusal_init,
    f_NoStudy_init := He.ma K (He.ga K "NoStudy") "__init__",
    d_NoStudy_init := d_NoStudy_init,
    f_Missing_init := He.ma K (He.ga K "Missing") "__init__",
    d_Missing_init := d_Missing_init,
    f_OutOfLimits_init := He.ma K (He.ga K "OutOfLimits") "__init__",
    d_OutOfLimits_init := d_OutOfLimits_init,
    f_LogFull_init := He.ma K (He.ga K "LogFull") "__init__",
    d_LogFull_init := d_LogFull_init,
    f_NotEnough_init := He.ma K (He.ga K "NotEnough") "__init__",
    d_NotEnough_init := d_NotEnough_init,
    f_Event_init := He.ma K (He.ga K "Event") "__init__",
    d_Event_init := d_Event_init,
    f_Policy_init := He.ma K (He.ga K "Policy") "__init__",
    d_Policy_init := d_Policy_init,
    f_Policy_chance := He.ma K (He.ga K "Policy") "chance",
    d_Policy_chance := d_Policy_chance,
    f_Policy_can_choose := He.ma K (He.ga K "Policy") "can_choose",
    d_Policy_can_choose := d_Policy_can_choose,
    f_Policy_preferred := He.ma K (He.ga K "Policy") "preferred",
    d_Policy_preferred := d_Policy_preferred,
    f_Study_init := He.ma K (He.ga K "Study") "__init__",
    d_Study_init := d_Study_init,
    f_grid := He.ga K "grid",
    d_grid := d_grid,
    f_check_place := He.ga K "check_place",
    d_check_place := d_check_place,
    f_check_policy := He.ga K "check_policy",
    d_check_policy := d_check_policy,
    f_check_context := He.ga K "check_context",
    d_check_context := d_check_context,
    f_check_decision := He.ga K "check_decision",
    d_check_decision := d_check_decision,
    f_check_range := He.ga K "check_range",
    d_check_range := d_check_range,
    f_check_numbers := He.ga K "check_numbers",
    d_check_numbers := d_check_numbers,
    f_check_row := He.ga K "check_row",
    d_check_row := d_check_row,
    f_check_weights := He.ga K "check_weights",
    d_check_weights := d_check_weights,
    f_check_rewards := He.ga K "check_rewards",
    d_check_rewards := d_check_rewards,
    f_check_relevance := He.ga K "check_relevance",
    d_check_relevance := d_check_relevance,
    f_check_gains := He.ga K "check_gains",
    d_check_gains := d_check_gains,
    f_check_ranks := He.ga K "check_ranks",
    d_check_ranks := d_check_ranks,
    f_check_reward := He.ga K "check_reward",
    d_check_reward := d_check_reward,
    f_check_estimator := He.ga K "check_estimator",
    d_check_estimator := d_check_estimator,
    f_check_room := He.ga K "check_room",
    d_check_room := d_check_room,
    f_check_events := He.ga K "check_events",
    d_check_events := d_check_events,
    f_check_positive := He.ga K "check_positive",
    d_check_positive := d_check_positive,
    f_create := He.ga K "create",
    d_create := d_create,
    f_keep_event := He.ga K "keep_event",
    d_keep_event := d_keep_event,
    f_add_event := He.ga K "add_event",
    d_add_event := d_add_event,
    f_remove_last := He.ga K "remove_last",
    d_remove_last := d_remove_last,
    f_log_event := He.ga K "log_event",
    d_log_event := d_log_event,
    f_set_policy := He.ga K "set_policy",
    d_set_policy := d_set_policy,
    f_copy_policy := He.ga K "copy_policy",
    d_copy_policy := d_copy_policy,
    f_set_model := He.ga K "set_model",
    d_set_model := d_set_model,
    f_fit_model := He.ga K "fit_model",
    d_fit_model := d_fit_model,
    f_set_truth := He.ga K "set_truth",
    d_set_truth := d_set_truth,
    f_following_seed := He.ga K "following_seed",
    d_following_seed := d_following_seed,
    f_resampled_sums := He.ga K "resampled_sums",
    d_resampled_sums := d_resampled_sums,
    f_propensity := He.ga K "propensity",
    d_propensity := d_propensity,
    f_checked_terms := He.ga K "checked_terms",
    d_checked_terms := d_checked_terms,
    f_estimate := He.ga K "estimate",
    d_estimate := d_estimate,
    f_normalized := He.ga K "normalized",
    d_normalized := d_normalized,
    f_replay := He.ga K "replay",
    d_replay := d_replay,
    f_effective_size := He.ga K "effective_size",
    d_effective_size := d_effective_size,
    f_variance := He.ga K "variance",
    d_variance := d_variance,
    f_interval := He.ga K "interval",
    d_interval := d_interval,
    f_compare := He.ga K "compare",
    d_compare := d_compare,
    f_by_context := He.ga K "by_context",
    d_by_context := d_by_context,
    f_greatest_weight := He.ga K "greatest_weight",
    d_greatest_weight := d_greatest_weight,
    f_model_info := He.ga K "model_info",
    d_model_info := d_model_info,
    f_bootstrap := He.ga K "bootstrap",
    d_bootstrap := d_bootstrap,
    f_status := He.ga K "status",
    d_status := d_status,
    f_precision_at := He.ga K "precision_at",
    d_precision_at := d_precision_at,
    f_relevant_ranks := He.ga K "relevant_ranks",
    d_relevant_ranks := d_relevant_ranks,
    f_reciprocal_rank := He.ga K "reciprocal_rank",
    d_reciprocal_rank := d_reciprocal_rank,
    f_discounted_gain := He.ga K "discounted_gain",
    d_discounted_gain := d_discounted_gain,
    f_precision := He.ga K "precision",
    d_precision := d_precision,
    f_rank_measures := He.ga K "rank_measures",
    d_rank_measures := d_rank_measures,
    f_gain_measures := He.ga K "gain_measures",
    d_gain_measures := d_gain_measures,
    f_order_measure := He.ga K "order_measure",
    d_order_measure := d_order_measure,
    f_Reader_init := He.ma K (He.ga K "Reader") "__init__",
    d_Reader_init := d_Reader_init,
    f_Reader_ended := He.ma K (He.ga K "Reader") "ended",
    d_Reader_ended := d_Reader_ended,
    f_Reader_number := He.ma K (He.ga K "Reader") "number",
    d_Reader_number := d_Reader_number,
    f_Reader_row := He.ma K (He.ga K "Reader") "row",
    d_Reader_row := d_Reader_row,
    f_Reader_arguments := He.ma K (He.ga K "Reader") "arguments",
    d_Reader_arguments := d_Reader_arguments,
    f_possible_events := He.ga K "possible_events",
    d_possible_events := d_possible_events,
    f_event_chance := He.ga K "event_chance",
    d_event_chance := d_event_chance,
    f_expected := He.ga K "expected",
    d_expected := d_expected,
    f_true_value := He.ga K "true_value",
    d_true_value := d_true_value,
    f_expectation := He.ga K "expectation",
    d_expectation := d_expectation,
    f_unsupported := He.ga K "unsupported",
    d_unsupported := d_unsupported,
    f_Session_init := He.ma K (He.ga K "Session") "__init__",
    d_Session_init := d_Session_init,
    f_Session_answer := He.ma K (He.ga K "Session") "answer",
    d_Session_answer := d_Session_answer,
    f_operation_of := He.ga K "operation_of",
    d_operation_of := d_operation_of,
    f_carry_out := He.ga K "carry_out",
    d_carry_out := d_carry_out,
    f_answers := He.ga K "answers",
    d_answers := d_answers,
    v_CHANGES := He.ga K "CHANGES",
    v_QUESTIONS := He.ga K "QUESTIONS",
    v_RANKED := He.ga K "RANKED",
    v_TRUTHS := He.ga K "TRUTHS",
    v_SHAPES := He.ga K "SHAPES" }, {
    g_Ratio := He.glo_ok X G (factF cF 0),
    cl_Ratio := He.cls_ok (factF cF 1),
    mk_Ratio := He.mkr_ok (factF cF 2),
    no_Ratio_top := He.noat_ok (factF cF 3),
    no_Ratio_bottom := He.noat_ok (factF cF 4),
    me_Ratio_plus := He.meth_ok (factF cF 5),
    me_Ratio_minus := He.meth_ok (factF cF 6),
    me_Ratio_times := He.meth_ok (factF cF 7),
    me_Ratio_over := He.meth_ok (factF cF 8),
    me_Ratio_below := He.meth_ok (factF cF 9),
    me_Ratio_smaller := He.meth_ok (factF cF 10),
    me_Ratio_squared := He.meth_ok (factF cF 11),
    me_Ratio_pair := He.meth_ok (factF cF 12),
    g_Event := He.glo_ok X G (factF cF 13),
    cl_Event := He.cls_ok (factF cF 14),
    mk_Event := He.mkr_ok (factF cF 15),
    no_Event_context := He.noat_ok (factF cF 16),
    no_Event_action := He.noat_ok (factF cF 17),
    no_Event_reward := He.noat_ok (factF cF 18),
    no_Event_propensity := He.noat_ok (factF cF 19),
    g_Policy := He.glo_ok X G (factF cF 20),
    cl_Policy := He.cls_ok (factF cF 21),
    mk_Policy := He.mkr_ok (factF cF 22),
    no_Policy_weights := He.noat_ok (factF cF 23),
    me_Policy_chance := He.meth_ok (factF cF 24),
    me_Policy_can_choose := He.meth_ok (factF cF 25),
    me_Policy_preferred := He.meth_ok (factF cF 26),
    g_Study := He.glo_ok X G (factF cF 27),
    cl_Study := He.cls_ok (factF cF 28),
    mk_Study := He.mkr_ok (factF cF 29),
    no_Study_contexts := He.noat_ok (factF cF 30),
    no_Study_actions := He.noat_ok (factF cF 31),
    no_Study_events := He.noat_ok (factF cF 32),
    no_Study_policies := He.noat_ok (factF cF 33),
    no_Study_model := He.noat_ok (factF cF 34),
    no_Study_truth_weights := He.noat_ok (factF cF 35),
    no_Study_truth_rewards := He.noat_ok (factF cF 36),
    g_Reader := He.glo_ok X G (factF cF 37),
    cl_Reader := He.cls_ok (factF cF 38),
    mk_Reader := He.mkr_ok (factF cF 39),
    no_Reader_calls := He.noat_ok (factF cF 40),
    no_Reader_place := He.noat_ok (factF cF 41),
    me_Reader_ended := He.meth_ok (factF cF 42),
    me_Reader_number := He.meth_ok (factF cF 43),
    me_Reader_row := He.meth_ok (factF cF 44),
    me_Reader_arguments := He.meth_ok (factF cF 45),
    g_Session := He.glo_ok X G (factF cF 46),
    cl_Session := He.cls_ok (factF cF 47),
    mk_Session := He.mkr_ok (factF cF 48),
    no_Session_study := He.noat_ok (factF cF 49),
    me_Session_answer := He.meth_ok (factF cF 50),
    g_Refusal := He.glo_ok X G (factF cF 51),
    er_Refusal := (erB_ok (factE cE 0)).er (He.noat_ok (factF cF 52)),
    xf_Refusal := (erB_ok (factE cE 0)).xf,
    oi_Refusal := (erB_ok (factE cE 0)).oi,
    of_Refusal := (erB_ok (factE cE 0)).of,
    g_NoStudy := He.glo_ok X G (factF cF 53),
    er_NoStudy := (erB_ok (factE cE 1)).er (He.noat_ok (factF cF 54)),
    xf_NoStudy := (erB_ok (factE cE 1)).xf,
    oi_NoStudy := (erB_ok (factE cE 1)).oi,
    of_NoStudy := (erB_ok (factE cE 1)).of,
    ex_NoStudy := He.exm_ok (factF cF 55),
    nc_NoStudy := He.noat_ok (factF cF 54),
    g_Missing := He.glo_ok X G (factF cF 56),
    er_Missing := (erB_ok (factE cE 2)).er (He.noat_ok (factF cF 57)),
    xf_Missing := (erB_ok (factE cE 2)).xf,
    oi_Missing := (erB_ok (factE cE 2)).oi,
    of_Missing := (erB_ok (factE cE 2)).of,
    ex_Missing := He.exm_ok (factF cF 58),
    nc_Missing := He.noat_ok (factF cF 57),
    g_OutOfLimits := He.glo_ok X G (factF cF 59),
    er_OutOfLimits := (erB_ok (factE cE 3)).er (He.noat_ok (factF cF 60)),
    xf_OutOfLimits := (erB_ok (factE cE 3)).xf,
    oi_OutOfLimits := (erB_ok (factE cE 3)).oi,
    of_OutOfLimits := (erB_ok (factE cE 3)).of,
    ex_OutOfLimits := He.exm_ok (factF cF 61),
    nc_OutOfLimits := He.noat_ok (factF cF 60),
    g_LogFull := He.glo_ok X G (factF cF 62),
    er_LogFull := (erB_ok (factE cE 4)).er (He.noat_ok (factF cF 63)),
    xf_LogFull := (erB_ok (factE cE 4)).xf,
    oi_LogFull := (erB_ok (factE cE 4)).oi,
    of_LogFull := (erB_ok (factE cE 4)).of,
    ex_LogFull := He.exm_ok (factF cF 64),
    nc_LogFull := He.noat_ok (factF cF 63),
    g_NotEnough := He.glo_ok X G (factF cF 65),
    er_NotEnough := (erB_ok (factE cE 5)).er (He.noat_ok (factF cF 66)),
    xf_NotEnough := (erB_ok (factE cE 5)).xf,
    oi_NotEnough := (erB_ok (factE cE 5)).oi,
    of_NotEnough := (erB_ok (factE cE 5)).of,
    ex_NotEnough := He.exm_ok (factF cF 67),
    nc_NotEnough := He.noat_ok (factF cF 66),
    off_Refusal := offB_ok (factE cE 6),
    fn_common_divisor := F_common_divisor,
    g_common_divisor := He.glo_ok X G (factF cF 68),
    fn_Ratio_init := F_Ratio_init,
    fn_Ratio_plus := F_Ratio_plus,
    fn_Ratio_minus := F_Ratio_minus,
    fn_Ratio_times := F_Ratio_times,
    fn_Ratio_over := F_Ratio_over,
    fn_Ratio_below := F_Ratio_below,
    fn_Ratio_smaller := F_Ratio_smaller,
    fn_Ratio_squared := F_Ratio_squared,
    fn_Ratio_pair := F_Ratio_pair,
    fn_whole := F_whole,
    g_whole := He.glo_ok X G (factF cF 69),
    fn_total := F_total,
    g_total := He.glo_ok X G (factF cF 70),
    fn_mean := F_mean,
    g_mean := He.glo_ok X G (factF cF 71),
    fn_greatest := F_greatest,
    g_greatest := He.glo_ok X G (factF cF 72),
    fn_common_bottom := F_common_bottom,
    g_common_bottom := He.glo_ok X G (factF cF 73),
    fn_tops_over := F_tops_over,
    g_tops_over := He.glo_ok X G (factF cF 74),
    fn_importance := F_importance,
    g_importance := He.glo_ok X G (factF cF 75),
    fn_importances := F_importances,
    g_importances := He.glo_ok X G (factF cF 76),
    fn_direct_value := F_direct_value,
    g_direct_value := He.glo_ok X G (factF cF 77),
    fn_correction := F_correction,
    g_correction := He.glo_ok X G (factF cF 78),
    fn_term_of := F_term_of,
    g_term_of := He.glo_ok X G (factF cF 79),
    fn_terms_of := F_terms_of,
    g_terms_of := He.glo_ok X G (factF cF 80),
    fn_variance_of_mean := F_variance_of_mean,
    g_variance_of_mean := He.glo_ok X G (factF cF 81),
    fn_mean_reward := F_mean_reward,
    g_mean_reward := He.glo_ok X G (factF cF 82),
    fn_fitted_estimate := F_fitted_estimate,
    g_fitted_estimate := He.glo_ok X G (factF cF 83),
    fn_Refusal_init := F_Refusal_init,
    fn_NoStudy_init := F_NoStudy_init,
    fn_Missing_init := F_Missing_init,
    fn_OutOfLimits_init := F_OutOfLimits_init,
    fn_LogFull_init := F_LogFull_init,
    fn_NotEnough_init := F_NotEnough_init,
    fn_Event_init := F_Event_init,
    fn_Policy_init := F_Policy_init,
    fn_Policy_chance := F_Policy_chance,
    fn_Policy_can_choose := F_Policy_can_choose,
    fn_Policy_preferred := F_Policy_preferred,
    fn_Study_init := F_Study_init,
    fn_grid := F_grid,
    g_grid := He.glo_ok X G (factF cF 84),
    fn_check_place := F_check_place,
    g_check_place := He.glo_ok X G (factF cF 85),
    fn_check_policy := F_check_policy,
    g_check_policy := He.glo_ok X G (factF cF 86),
    fn_check_context := F_check_context,
    g_check_context := He.glo_ok X G (factF cF 87),
    fn_check_decision := F_check_decision,
    g_check_decision := He.glo_ok X G (factF cF 88),
    fn_check_range := F_check_range,
    g_check_range := He.glo_ok X G (factF cF 89),
    fn_check_numbers := F_check_numbers,
    g_check_numbers := He.glo_ok X G (factF cF 90),
    fn_check_row := F_check_row,
    g_check_row := He.glo_ok X G (factF cF 91),
    fn_check_weights := F_check_weights,
    g_check_weights := He.glo_ok X G (factF cF 92),
    fn_check_rewards := F_check_rewards,
    g_check_rewards := He.glo_ok X G (factF cF 93),
    fn_check_relevance := F_check_relevance,
    g_check_relevance := He.glo_ok X G (factF cF 94),
    fn_check_gains := F_check_gains,
    g_check_gains := He.glo_ok X G (factF cF 95),
    fn_check_ranks := F_check_ranks,
    g_check_ranks := He.glo_ok X G (factF cF 96),
    fn_check_reward := F_check_reward,
    g_check_reward := He.glo_ok X G (factF cF 97),
    fn_check_estimator := F_check_estimator,
    g_check_estimator := He.glo_ok X G (factF cF 98),
    fn_check_room := F_check_room,
    g_check_room := He.glo_ok X G (factF cF 99),
    fn_check_events := F_check_events,
    g_check_events := He.glo_ok X G (factF cF 100),
    fn_check_positive := F_check_positive,
    g_check_positive := He.glo_ok X G (factF cF 101),
    fn_create := F_create,
    g_create := He.glo_ok X G (factF cF 102),
    fn_keep_event := F_keep_event,
    g_keep_event := He.glo_ok X G (factF cF 103),
    fn_add_event := F_add_event,
    g_add_event := He.glo_ok X G (factF cF 104),
    fn_remove_last := F_remove_last,
    g_remove_last := He.glo_ok X G (factF cF 105),
    fn_log_event := F_log_event,
    g_log_event := He.glo_ok X G (factF cF 106),
    fn_set_policy := F_set_policy,
    g_set_policy := He.glo_ok X G (factF cF 107),
    fn_copy_policy := F_copy_policy,
    g_copy_policy := He.glo_ok X G (factF cF 108),
    fn_set_model := F_set_model,
    g_set_model := He.glo_ok X G (factF cF 109),
    fn_fit_model := F_fit_model,
    g_fit_model := He.glo_ok X G (factF cF 110),
    fn_set_truth := F_set_truth,
    g_set_truth := He.glo_ok X G (factF cF 111),
    fn_following_seed := F_following_seed,
    g_following_seed := He.glo_ok X G (factF cF 112),
    fn_resampled_sums := F_resampled_sums,
    g_resampled_sums := He.glo_ok X G (factF cF 113),
    fn_propensity := F_propensity,
    g_propensity := He.glo_ok X G (factF cF 114),
    fn_checked_terms := F_checked_terms,
    g_checked_terms := He.glo_ok X G (factF cF 115),
    fn_estimate := F_estimate,
    g_estimate := He.glo_ok X G (factF cF 116),
    fn_normalized := F_normalized,
    g_normalized := He.glo_ok X G (factF cF 117),
    fn_replay := F_replay,
    g_replay := He.glo_ok X G (factF cF 118),
    fn_effective_size := F_effective_size,
    g_effective_size := He.glo_ok X G (factF cF 119),
    fn_variance := F_variance,
    g_variance := He.glo_ok X G (factF cF 120),
    fn_interval := F_interval,
    g_interval := He.glo_ok X G (factF cF 121),
    fn_compare := F_compare,
    g_compare := He.glo_ok X G (factF cF 122),
    fn_by_context := F_by_context,
    g_by_context := He.glo_ok X G (factF cF 123),
    fn_greatest_weight := F_greatest_weight,
    g_greatest_weight := He.glo_ok X G (factF cF 124),
    fn_model_info := F_model_info,
    g_model_info := He.glo_ok X G (factF cF 125),
    fn_bootstrap := F_bootstrap,
    g_bootstrap := He.glo_ok X G (factF cF 126),
    fn_status := F_status,
    g_status := He.glo_ok X G (factF cF 127),
    fn_precision_at := F_precision_at,
    g_precision_at := He.glo_ok X G (factF cF 128),
    fn_relevant_ranks := F_relevant_ranks,
    g_relevant_ranks := He.glo_ok X G (factF cF 129),
    fn_reciprocal_rank := F_reciprocal_rank,
    g_reciprocal_rank := He.glo_ok X G (factF cF 130),
    fn_discounted_gain := F_discounted_gain,
    g_discounted_gain := He.glo_ok X G (factF cF 131),
    fn_precision := F_precision,
    g_precision := He.glo_ok X G (factF cF 132),
    fn_rank_measures := F_rank_measures,
    g_rank_measures := He.glo_ok X G (factF cF 133),
    fn_gain_measures := F_gain_measures,
    g_gain_measures := He.glo_ok X G (factF cF 134),
    fn_order_measure := F_order_measure,
    g_order_measure := He.glo_ok X G (factF cF 135),
    fn_Reader_init := F_Reader_init,
    fn_Reader_ended := F_Reader_ended,
    fn_Reader_number := F_Reader_number,
    fn_Reader_row := F_Reader_row,
    fn_Reader_arguments := F_Reader_arguments,
    fn_possible_events := F_possible_events,
    g_possible_events := He.glo_ok X G (factF cF 136),
    fn_event_chance := F_event_chance,
    g_event_chance := He.glo_ok X G (factF cF 137),
    fn_expected := F_expected,
    g_expected := He.glo_ok X G (factF cF 138),
    fn_true_value := F_true_value,
    g_true_value := He.glo_ok X G (factF cF 139),
    fn_expectation := F_expectation,
    g_expectation := He.glo_ok X G (factF cF 140),
    fn_unsupported := F_unsupported,
    g_unsupported := He.glo_ok X G (factF cF 141),
    fn_Session_init := F_Session_init,
    fn_Session_answer := F_Session_answer,
    fn_operation_of := F_operation_of,
    g_operation_of := He.glo_ok X G (factF cF 142),
    fn_carry_out := F_carry_out,
    g_carry_out := He.glo_ok X G (factF cF 143),
    fn_answers := F_answers,
    g_answers := He.glo_ok X G (factF cF 144),
    k_DIRECT := He.int_ok X G (factF cF 145),
    k_CLIPPED := He.int_ok X G (factF cF 146),
    k_ROBUST := He.int_ok X G (factF cF 147),
    k_POLICIES := He.int_ok X G (factF cF 148),
    k_MOST_CONTEXTS := He.int_ok X G (factF cF 149),
    k_MOST_ACTIONS := He.int_ok X G (factF cF 150),
    k_MOST_EVENTS := He.int_ok X G (factF cF 151),
    k_MOST_REWARD := He.int_ok X G (factF cF 152),
    k_MOST_DEN := He.int_ok X G (factF cF 153),
    k_MOST_WEIGHT := He.int_ok X G (factF cF 154),
    k_MOST_KIND := He.int_ok X G (factF cF 155),
    k_MOST_LIMIT := He.int_ok X G (factF cF 156),
    k_MOST_FACTOR := He.int_ok X G (factF cF 157),
    k_MOST_ROUNDS := He.int_ok X G (factF cF 158),
    k_MOST_RANKS := He.int_ok X G (factF cF 159),
    k_MOST_GAIN := He.int_ok X G (factF cF 160),
    k_MOST_RANK_NUMBER := He.int_ok X G (factF cF 161),
    k_CHANGES := He.glo_ok X G (factF cF 162),
    ki_CHANGES := ⟨of_decide_eq_true (factE cE 7)⟩,
    k_MULTIPLIER := He.int_ok X G (factF cF 163),
    k_INCREMENT := He.int_ok X G (factF cF 164),
    k_MODULUS := He.int_ok X G (factF cF 165),
    k_CUT := He.int_ok X G (factF cF 166),
    k_QUESTIONS := He.glo_ok X G (factF cF 167),
    ki_QUESTIONS := ⟨of_decide_eq_true (factE cE 8)⟩,
    k_RANKED := He.glo_ok X G (factF cF 168),
    ki_RANKED := ⟨of_decide_eq_true (factE cE 9)⟩,
    k_TRUTHS := He.glo_ok X G (factF cF 169),
    ki_TRUTHS := ⟨of_decide_eq_true (factE cE 10)⟩,
    k_CREATE := He.int_ok X G (factF cF 170),
    k_SHAPES := He.glo_ok X G (factF cF 171),
    ts_SHAPES := ⟨of_decide_eq_true (factE cE 11)⟩,
    n_abs := He.free_ok X G (factF cF 172),
    n_enumerate := He.free_ok X G (factF cF 173),
    n_len := He.free_ok X G (factF cF 174),
    n_list := He.free_ok X G (factF cF 175),
    n_max := He.free_ok X G (factF cF 176),
    n_range := He.free_ok X G (factF cF 177),
    n_sorted := He.free_ok X G (factF cF 178),
    n_sum := He.free_ok X G (factF cF 179),
    n_zip := He.free_ok X G (factF cF 180),
    n_Exception := He.free_ok X G (factF cF 181) }, rfl⟩

end Lw
end
/-! LwRun -/
section
set_option Elab.async false
set_option linter.all false
set_option maxRecDepth 100000
set_option maxHeartbeats 0
namespace Lw
open PySem PySem.W PySem.Calls PyProof.Rows
abbrev Pw : Program := PySem.Challenge.rw_logworth_s01_answers.prog
abbrev qw : Program := view Pw [127]
def bound0 : List PySem.Str := ["__name__", "common_divisor", "Ratio", "whole", "total", "mean", "greatest", "common_bottom", "tops_over", "DIRECT", "CLIPPED", "ROBUST", "importance", "importances", "direct_value", "correction", "term_of", "terms_of", "variance_of_mean", "mean_reward", "fitted_estimate", "Refusal", "NoStudy", "Missing", "OutOfLimits", "LogFull", "NotEnough", "POLICIES", "Event", "Policy"]
def bound1 : List PySem.Str := ["Study", "grid", "MOST_CONTEXTS", "MOST_ACTIONS", "MOST_EVENTS", "MOST_REWARD", "MOST_DEN", "MOST_WEIGHT", "MOST_KIND", "MOST_LIMIT", "MOST_FACTOR", "MOST_ROUNDS", "MOST_RANKS", "MOST_GAIN", "MOST_RANK_NUMBER", "check_place", "check_policy", "check_context", "check_decision", "check_range", "check_numbers", "check_row", "check_weights", "check_rewards", "check_relevance", "check_gains", "check_ranks", "check_reward", "check_estimator", "check_room"]
def bound2 : List PySem.Str := ["check_events", "check_positive", "create", "keep_event", "add_event", "remove_last", "log_event", "set_policy", "copy_policy", "set_model", "fit_model", "set_truth", "CHANGES", "MULTIPLIER", "INCREMENT", "MODULUS", "CUT", "following_seed", "resampled_sums", "propensity", "checked_terms", "estimate", "normalized", "replay", "effective_size", "variance", "interval", "compare", "by_context", "greatest_weight"]
def bound3 : List PySem.Str := ["model_info", "bootstrap", "status", "QUESTIONS", "precision_at", "relevant_ranks", "reciprocal_rank", "discounted_gain", "precision", "rank_measures", "gain_measures", "order_measure", "RANKED", "Reader", "possible_events", "event_chance", "expected", "true_value", "expectation", "unsupported", "TRUTHS", "CREATE", "SHAPES", "Session", "operation_of", "carry_out"]
def bound : List PySem.Str := bound0 ++ bound1 ++ bound2 ++ bound3
abbrev Xw : Shared → Bool := fun s => xlAt qw [] s && recOk [] s
open HandSHeadRun in
def RunS {α : Type} (see : World → SharedT → α) (due : α) (w : World) : Prop := ∀ os : OsState, (endF (stepQ (denQ tabQ) Pw w) 9000 Pw w os).map (see w) = some due
open HandSHeadRun in
theorem runLf (w : World) : RunS (fun w s => (looksF Pw (boot_heap w.params) s.abs, seenQ qw bound (importedModules Pw.main.body) Xw s.abs)) (true, openGood qw bound) (w.withFollow "special-get-raises" false) := by
  intro os
  kernel_rfl
open HandSHeadRun in
theorem runLt (w : World) : RunS (fun w s => (looksF Pw (boot_heap w.params) s.abs, seenQ qw bound (importedModules Pw.main.body) Xw s.abs)) (true, openGood qw bound) (w.withFollow "special-get-raises" true) := by
  intro os
  kernel_rfl
open HandSHeadRun in
theorem runL : ∀ w, RunS (fun w s => (looksF Pw (boot_heap w.params) s.abs, seenQ qw bound (importedModules Pw.main.body) Xw s.abs)) (true, openGood qw bound) w := byRow2 "special-get-raises" runLf runLt
open HandSHeadRun in
theorem run0f (w : World) : RunS (fun _ s => (fun K => seeA K) (partOf (getT s))) (true, []) (w.withFollow "special-get-raises" false) := by
  intro os
  kernel_rfl
open HandSHeadRun in
theorem run0t (w : World) : RunS (fun _ s => (fun K => seeA K) (partOf (getT s))) (true, []) (w.withFollow "special-get-raises" true) := by
  intro os
  kernel_rfl
open HandSHeadRun in
theorem run0 : ∀ w, RunS (fun _ s => (fun K => seeA K) (partOf (getT s))) (true, []) w := byRow2 "special-get-raises" run0f run0t
open HandSHeadRun in
theorem run1f (w : World) : RunS (fun _ s => (fun K => seeD ds0 K) (partOf (getT s))) (true, ds0.map He.FnD.val) (w.withFollow "special-get-raises" false) := by
  intro os
  kernel_rfl
open HandSHeadRun in
theorem run1t (w : World) : RunS (fun _ s => (fun K => seeD ds0 K) (partOf (getT s))) (true, ds0.map He.FnD.val) (w.withFollow "special-get-raises" true) := by
  intro os
  kernel_rfl
open HandSHeadRun in
theorem run1 : ∀ w, RunS (fun _ s => (fun K => seeD ds0 K) (partOf (getT s))) (true, ds0.map He.FnD.val) w := byRow2 "special-get-raises" run1f run1t
open HandSHeadRun in
theorem run2f (w : World) : RunS (fun _ s => (fun K => seeD ds1 K) (partOf (getT s))) (true, ds1.map He.FnD.val) (w.withFollow "special-get-raises" false) := by
  intro os
  kernel_rfl
open HandSHeadRun in
theorem run2t (w : World) : RunS (fun _ s => (fun K => seeD ds1 K) (partOf (getT s))) (true, ds1.map He.FnD.val) (w.withFollow "special-get-raises" true) := by
  intro os
  kernel_rfl
open HandSHeadRun in
theorem run2 : ∀ w, RunS (fun _ s => (fun K => seeD ds1 K) (partOf (getT s))) (true, ds1.map He.FnD.val) w := byRow2 "special-get-raises" run2f run2t
theorem join_nil {α β γ δ : Type} {x : Option α} {f : α → β} {g : α → γ} {b : β} {c : γ} (e : x.map (fun s => (f s, g s)) = some (b, c)) : x.map (fun s => (f s, g s, ([] : List δ))) = some (b, c, []) := by
  cases x with
  | none => cases e
  | some s =>
    obtain ⟨z1, z2⟩ := Prod.mk.inj (Option.some.inj e)
    show some (f s, g s, _) = _
    rw [z1, z2]
theorem join_cons {α β γ δ : Type} {x : Option α} {f : α → β} {g : α → γ} {h : α → δ} {k : α → List δ} {b : β} {c : γ} {d : δ} {ds : List δ} (e1 : x.map h = some d) (e2 : x.map (fun s => (f s, g s, k s)) = some (b, c, ds)) : x.map (fun s => (f s, g s, h s :: k s)) = some (b, c, d :: ds) := by
  cases x with
  | none => cases e1
  | some s =>
    have z1 : h s = d := Option.some.inj e1
    obtain ⟨z2, z3⟩ := Prod.mk.inj (Option.some.inj e2)
    obtain ⟨z4, z5⟩ := Prod.mk.inj z3
    show some (f s, g s, h s :: k s) = _
    rw [z1, z2, z4, z5]
open HandSHeadRun in
theorem run_all (w : World) (os : OsState) : (endF (stepQ (denQ tabQ) Pw w) 9000 Pw w os).map (fun s => (looksF Pw (boot_heap w.params) s.abs, seenQ qw bound (importedModules Pw.main.body) Xw s.abs, seenOf (partOf (getT s)))) = some (true, openGood qw bound, seenDue) :=
  (join_cons (run0 w os) (join_cons (run1 w os) (join_cons (run2 w os) (join_nil (runL w os)))))
open HandSHeadRun in
theorem left_w : LeftO Pw qw bound Xw hookL.obs hookL.val 9600 true :=
  left_one (M := 9000) (by kernel_rfl) (by rfl) (fun s => by kernel_rfl) (by rfl) fun w os => by
    have z := run_all w os
    have e2 : ∀ s : SharedT, seenOf (partOf (getT s)) = hookL.obs s.abs := fun s => congrArg (fun g => seenOf (partOf g)) (funext fun a => getT_eq s a)
    simp only [e2] at z
    simp only [endQ_eq, seenQ_eq]
    exact z
end Lw
end
/-! LwLast -/
section
set_option Elab.async false
set_option linter.all false
set_option maxRecDepth 100000
set_option maxHeartbeats 4000000
namespace Lw
open PySem PySem.Spec PyProof.Rows L2
def sp_main (K : PySem.W.Frag) : Sp := fun vs H Q _ => ∃ (l : Addr) (cs : List Kp432.Call), vs = [.ref l] ∧ NumsF K H l (flats cs) ∧ (flats cs).length ≤ 1000000 ∧ (∀ c ∈ cs, CallOk c) ∧ (outs none cs).length ≤ 10000000 ∧
  ∀ p H', H' p = some (.lst ((outs none cs).map V.int)) → Q (.ref p) H'
end Lw
open PySem PySem.W PySem.Calls PyProof.Rows
set_option maxRecDepth 100000 in
set_option maxHeartbeats 0 in
theorem PySem.Challenge.cw_logworth_s01_answers_holds : PySem.Challenge.rw_logworth_s01_answers.Holds := by
  w_on
  refine holds_os (r := PySem.Challenge.rw_logworth_s01_answers) (q := Lw.qw) (loose := Lw.bound) (Xt := Lw.Xw) (XP := XL Lw.qw []) (Yf := Lw.hookL.obs) (Ya := Lw.hookL.val) (YP := Lw.hookL.says) (N := 9600) (kwd := []) (d := HandSHeadRun.topDef Lw.Pw 127)
    Lw.left_w Lw.hookL.of Lw.hookL.keeps (fun s z => xl_of s (Bool.and_eq_true_iff.mp z).1) XL.keeps (by kernel_rfl) (by kernel_rfl) (by kernel_rfl) (fun s z => recFacts_of (Bool.and_eq_true_iff.mp z).2) os_shapes (by first | assumption | decide +kernel) (by decide +kernel) ⟨rfl, rfl, rfl, rfl, rfl, by decide +kernel⟩ ?hw ?hc
  case hw => exact ⟨[.list [.int 28]], by decide +kernel, by decide +kernel⟩
  case hc =>
    refine Lw.walk_any (n := 13) (names := ["calls"]) (sp := Lw.sp_main) (by decide +kernel) (by kernel_rfl) rfl ⟨rfl, by decide, by decide⟩ ?F ?S
    case F =>
      intro w mg f h Y G hmg0
      obtain ⟨K, KX, c⟩ := Y
      have hmg : mg ("answers" : PySem.Str) = some (.ref f) := by
        have e : (HandSHeadRun.topDef Lw.Pw 127).name = ("answers" : PySem.Str) := by kernel_rfl
        rw [← e]
        exact hmg0
      obtain ⟨A, T, hf⟩ := Lw.txt_of KX G c
      have e : A.f_answers = f := Value.ref.inj (Option.some.inj (T.g_answers.symm.trans hmg))
      subst e
      obtain ⟨oc, od, kV, doc, pm, an, cdv, ct, osl, ed, _⟩ := T.fn_answers.ex
      exact ⟨K, A.d_answers, KX, fun s us hu => by rw [ed]; exact (match us, hu with | [_], _ => .of_eq rfl), fun base _ _ => Lw.ok_answers T⟩
    case S =>
      intro K H xs a hO hwi hask hx
      cases hx with
      | cons h1 h2 =>
        cases h2
        cases h1 with
        | lst hs ha =>
          have e := L2.ints_dw a.1 _ ha
          subst e
          have hask : PyKp432.answers_asked a.1 = true := hask
          obtain ⟨cs, e1, e2, e3, e4, e5⟩ := Lw.decode hask
          rw [e1] at hs
          refine ⟨_, cs, rfl, Lw.nums_of hO hs, Nat.le_trans (Lw.flats_len e4) (by omega), fun c hc => e4 c hc, e5, fun p H' hp => ?_⟩
          show L2.Dw K H' (.ref p) (WData.list ((PyKp432.answers a.1).map WData.int))
          rw [e2]
          exact .lst (L2.SqL.of hp) (L2.dw_ints _)
end
#print axioms PySem.Challenge.cw_logworth_s01_answers_holds
