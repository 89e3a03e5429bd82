import PyProof.Rows.All
import Wide.All
import OpenK.AllK
import Wide.FinOn
import KE.OsGo
import Open.SpecLaws
import HandS.ForSpec
import HandS.ForMost
import HandS.Zip
import HandS.SetFor
import HandS.Wide
import HandS.More
import KE.KItemsList
import HandS.ListItems
import HandS.Walk
import PySem.Challenge.RW_markdesk_s01_answers
set_option Elab.async false
/-! The program's fractions against the specification's. -/
namespace Mk
open Rh08
/-- a fraction as the program has it -/
abbrev Fr := Int × Int
def plus (x y : Fr) : Fr := (x.1 * y.2 + y.1 * x.2, x.2 * y.2)
def times (x y : Fr) : Fr := (x.1 * y.1, x.2 * y.2)
def greater (x y : Fr) : Bool := decide (x.1 * y.2 > y.1 * x.2)
def val (x : Fr) : Rat := Rat.divInt x.1 x.2
/-- not below 0, a line that is no 0, both within so many bits -/
structure Gd (k : Nat) (x : Fr) : Prop where
  n0 : 0 ≤ x.1
  n1 : x.1 < 2 ^ k
  d0 : 0 < x.2
  d1 : x.2 < 2 ^ k
theorem Gd.ne {k : Nat} {x : Fr} (h : Gd k x) : x.2 ≠ 0 := by have := h.d0; omega
theorem pow_le {j k : Nat} (h : j ≤ k) : (2 : Int) ^ j ≤ 2 ^ k := by
  have : (2 : Nat) ^ j ≤ 2 ^ k := Nat.pow_le_pow_right (by decide) h
  exact_mod_cast this
theorem Gd.mono {j k : Nat} {x : Fr} (h : Gd j x) (e : j ≤ k) : Gd k x :=
  ⟨h.n0, Int.lt_of_lt_of_le h.n1 (pow_le e), h.d0, Int.lt_of_lt_of_le h.d1 (pow_le e)⟩
theorem mul_lt_pow {a b : Int} {j k : Nat} (a0 : 0 ≤ a) (a1 : a < 2 ^ j) (b0 : 0 ≤ b) (b1 : b < 2 ^ k) : a * b < 2 ^ (j + k) := by
  rw [Int.pow_add]
  have h1 : a * b ≤ a * 2 ^ k := Int.mul_le_mul_of_nonneg_left (Int.le_of_lt b1) a0
  have h2 : a * 2 ^ k < 2 ^ j * 2 ^ k := Int.mul_lt_mul_of_pos_right a1 (Int.pow_pos (by decide))
  omega
theorem Gd.times {j k : Nat} {x y : Fr} (hx : Gd j x) (hy : Gd k y) : Gd (j + k) (times x y) :=
  ⟨Int.mul_nonneg hx.n0 hy.n0, mul_lt_pow hx.n0 hx.n1 hy.n0 hy.n1, Int.mul_pos hx.d0 hy.d0, mul_lt_pow (Int.le_of_lt hx.d0) hx.d1 (Int.le_of_lt hy.d0) hy.d1⟩
theorem pow_dbl (n : Nat) : (2 : Int) ^ (n + 1) = 2 ^ n + 2 ^ n := by rw [Int.pow_succ]; omega
theorem Gd.plus {j k : Nat} {x y : Fr} (hx : Gd j x) (hy : Gd k y) : Gd (j + k + 1) (plus x y) := by
  have a := mul_lt_pow hx.n0 hx.n1 (Int.le_of_lt hy.d0) hy.d1
  have b := mul_lt_pow hy.n0 hy.n1 (Int.le_of_lt hx.d0) hx.d1
  rw [Nat.add_comm k j] at b
  have c := mul_lt_pow (Int.le_of_lt hx.d0) hx.d1 (Int.le_of_lt hy.d0) hy.d1
  have p : (0 : Int) < 2 ^ (j + k) := Int.pow_pos (by decide)
  have a0 := Int.mul_nonneg hx.n0 (Int.le_of_lt hy.d0)
  have b0 := Int.mul_nonneg hy.n0 (Int.le_of_lt hx.d0)
  have d := Int.mul_pos hx.d0 hy.d0
  constructor
  · show 0 ≤ x.1 * y.2 + y.1 * x.2; omega
  · show x.1 * y.2 + y.1 * x.2 < _; rw [pow_dbl]; omega
  · exact d
  · show x.2 * y.2 < _; rw [pow_dbl]; omega
theorem val_plus {x y : Fr} (hx : x.2 ≠ 0) (hy : y.2 ≠ 0) : val (plus x y) = val x + val y := (Rat.divInt_add_divInt x.1 y.1 hx hy).symm
theorem val_times (x y : Fr) : val (times x y) = val x * val y := (Rat.divInt_mul_divInt x.1 y.1).symm
theorem val_int (n : Int) : val (n, 1) = (n : Rat) := by
  show Rat.divInt n 1 = _
  rw [Rat.divInt_eq_div]
  simp [Rat.div_def]
  grind
theorem val_div (x : Fr) : val x = (x.1 : Rat) / (x.2 : Rat) := Rat.divInt_eq_div x.1 x.2
theorem val_lt {x y : Fr} (hx : 0 < x.2) (hy : 0 < y.2) : val x < val y ↔ x.1 * y.2 < y.1 * x.2 := by
  rw [val_div, val_div, Rat.div_lt_iff (Rat.intCast_pos.mpr hx)]
  have hy' : (0 : Rat) < y.2 := Rat.intCast_pos.mpr hy
  have e : (y.1 : Rat) / y.2 * x.2 = ((y.1 * x.2 : Int) : Rat) / y.2 := by
    rw [Rat.intCast_mul, Rat.div_def, Rat.div_def]; grind
  rw [e, Rat.lt_div_iff hy', ← Rat.intCast_mul]
  exact Rat.intCast_lt_intCast
theorem greater_iff {x y : Fr} (hx : 0 < x.2) (hy : 0 < y.2) : greater x y = true ↔ val y < val x := by
  rw [val_lt hy hx]
  exact decide_eq_true_iff
theorem val_nonneg {k : Nat} {x : Fr} (h : Gd k x) : 0 ≤ val x := Rat.divInt_nonneg h.n0 (Int.le_of_lt h.d0)
/-- rounded down in millionths -/
def showF (x : Fr) : Int := Int.fdiv (x.1 * 1000000) x.2
theorem floor_divInt {a b : Int} (hb : 0 < b) : (Rat.divInt a b).floor = a / b := by
  rw [Rat.divInt_eq_div]
  have hb' : (0 : Rat) < b := Rat.intCast_pos.mpr hb
  apply Int.le_antisymm
  · rw [Int.le_ediv_iff_mul_le hb]
    have := Rat.floor_le ((a : Rat) / b)
    have h2 : ((((a : Rat) / b).floor : Int) : Rat) * b ≤ (a : Rat) / b * b := Rat.mul_le_mul_of_nonneg_right this (Rat.le_of_lt hb')
    rw [Rat.div_mul_cancel (Rat.ne_of_gt hb'), ← Rat.intCast_mul] at h2
    exact Rat.intCast_le_intCast.mp h2
  · rw [Rat.le_floor_iff]
    have h1 : a / b * b ≤ a := Int.ediv_mul_le a (by omega)
    have h2 : (((a / b : Int) : Rat)) * b ≤ a := by
      rw [← Rat.intCast_mul]; exact Rat.intCast_le_intCast.mpr h1
    apply Rat.le_of_mul_le_mul_right (c := (b : Rat)) _ hb'
    rw [Rat.div_mul_cancel (Rat.ne_of_gt hb')]
    exact h2
theorem show_eq {k : Nat} {x : Fr} (h : Gd k x) : showF x = Rh08.shown (val x) := by
  have e : val x * 1000000 = Rat.divInt (x.1 * 1000000) x.2 := by
    have : val (times x (1000000, 1)) = val x * val (1000000, 1) := val_times _ _
    rw [val_int] at this
    have e2 : times x (1000000, 1) = (x.1 * 1000000, x.2) := by simp [times]
    rw [e2] at this
    exact this.symm
  unfold Rh08.shown
  rw [e, floor_divInt h.d0]
  show Int.fdiv _ _ = _
  rw [Int.fdiv_eq_ediv_of_nonneg _ (Int.le_of_lt h.d0)]
end Mk
set_option Elab.async false
set_option linter.unusedVariables false
/-! The program's marks against the specification's. -/
namespace Mk
open Rh08
structure TuneOk (u : Tune) : Prop where
  a1 : u.long ≤ 10
  b0 : 1 ≤ u.soon
  b1 : u.soon ≤ 100
  c0 : 1 ≤ u.head
  c1 : u.head ≤ 10
  d0 : 1 ≤ u.body
  d1 : u.body ≤ 10
  q : u.ask.length ≤ 4
  w : ∀ x ∈ u.ask, 1 ≤ x.1 ∧ x.1 ≤ 30 ∧ 1 ≤ x.2 ∧ x.2 ≤ 10
  ds : (u.ask.map (·.1)).Nodup
structure TextOk (t : Text) : Prop where
  k0 : 1 ≤ t.key
  k1 : t.key ≤ 30
  p : t.prior ≤ 100
  h : t.head.length ≤ 12
  b : t.body.length ≤ 12
  hw : ∀ w ∈ t.head, 1 ≤ w ∧ w ≤ 30
  bw : ∀ w ∈ t.body, 1 ≤ w ∧ w ≤ 30
structure TextsOk (l : List Text) : Prop where
  ok : ∀ t ∈ l, TextOk t
  asc : l.Pairwise (fun x y => x.key < y.key)
theorem asc_len : ∀ (l : List Text) (lo : Nat), (∀ t ∈ l, lo ≤ t.key ∧ t.key ≤ 30) → l.Pairwise (fun x y => x.key < y.key) → lo ≤ 31 → l.length + lo ≤ 31
  | [], lo, _, _, h => by simp; exact h
  | t :: l, lo, h, p, _ => by
    have h1 := h t (.head _)
    have p' := List.pairwise_cons.mp p
    have := asc_len l (t.key + 1) (fun x hx => ⟨p'.1 x hx, (h x (.tail _ hx)).2⟩) p'.2 (by omega)
    simp only [List.length_cons]
    omega
theorem TextsOk.len {l : List Text} (h : TextsOk l) : l.length ≤ 30 := by
  have := asc_len l 1 (fun t ht => ⟨(h.ok t ht).k0, (h.ok t ht).k1⟩) h.asc (by omega)
  omega
theorem total_le {f : Text → Nat} {n : Nat} : ∀ (l : List Text), (∀ t ∈ l, f t ≤ n) → total (l.map f) ≤ n * l.length
  | [], _ => by simp [total]
  | t :: l, h => by
    have := total_le l fun x hx => h x (.tail _ hx)
    have h1 := h t (.head _)
    show f t + total (l.map f) ≤ n * (l.length + 1)
    rw [Nat.mul_add]
    omega
theorem le_total {f : Text → Nat} : ∀ {l : List Text} {t : Text}, t ∈ l → f t ≤ total (l.map f)
  | x :: l, t, h => by
    show f t ≤ f x + total (l.map f)
    rcases List.mem_cons.mp h with e | e
    · subst e; omega
    · have := le_total (f := f) e
      omega
def heads (l : List Text) : Nat := total (l.map fun t => t.head.length)
def bodies (l : List Text) : Nat := total (l.map fun t => t.body.length)
def having (l : List Text) (w : Nat) : Nat := (l.filter (hasWord w)).length
def denseF (a N A n len : Nat) : Fr := if n = 0 then (0, 1) else (10 * (A : Int) * n, (10 - (a : Int)) * A + a * len * N)
def densityF (u : Tune) (l : List Text) (w : Nat) (t : Text) : Fr :=
  plus (times ((u.head : Int), 1) (denseF u.long l.length (heads l) (often w t.head) t.head.length))
    (times ((u.body : Int), 1) (denseF u.long l.length (bodies l) (often w t.body) t.body.length))
def fullF (u : Tune) (x : Fr) : Fr := (x.1 * ((u.soon : Int) + 10), 10 * x.1 + (u.soon : Int) * x.2)
def rareF (l : List Text) (w : Nat) : Fr := ((l.length : Int) + 1, (having l w : Int) + 1)
def givesF (u : Tune) (l : List Text) (x : Nat × Nat) (t : Text) : Fr := times ((x.2 : Int), 1) (times (rareF l x.1) (fullF u (densityF u l x.1 t)))
def sumF (u : Tune) (l : List Text) (t : Text) (a : List (Nat × Nat)) : Fr := a.foldl (fun r x => plus r (givesF u l x t)) (0, 1)
def markF (u : Tune) (l : List Text) (t : Text) : Fr := times (sumF u l t u.ask) (100 + (t.prior : Int), 100)

theorem often_le (w : Nat) (p : List Nat) : often w p ≤ p.length := List.length_filter_le _ _
theorem gd_small {n : Int} {m k : Nat} (h0 : 0 ≤ n) (h1 : n < 2 ^ k) (m0 : 0 < m) (m1 : (m : Int) < 2 ^ k) : Gd k (n, (m : Int)) := ⟨h0, h1, by show (0 : Int) < m; omega, m1⟩
theorem mul_le {a b c d : Nat} (h : a ≤ c) (g : b ≤ d) : a * b ≤ c * d := Nat.mul_le_mul h g
theorem den_pos {a N A n len : Nat} (ha : a ≤ 10) (hN : 1 ≤ N) (hn : n ≠ 0) (hl : n ≤ len) (hA : len ≤ A) : 0 < (10 - (a : Int)) * A + a * len * N := by
  by_cases e : a = 10
  · subst e
    have : 0 < len * N := Nat.mul_pos (by omega) (by omega)
    have e2 : (10 - ((10 : Nat) : Int)) * (A : Int) = 0 := by simp
    rw [e2]
    have : (0 : Int) < ((10 * len * N : Nat) : Int) := by
      have : 0 < 10 * len * N := by rw [Nat.mul_assoc]; omega
      exact_mod_cast this
    push_cast at this
    simpa using this
  · have h1 : (0 : Int) < (10 - (a : Int)) * A := Int.mul_pos (by omega) (by omega)
    have h2 : (0 : Int) ≤ (a : Int) * len * N := by exact_mod_cast Nat.zero_le (a * len * N)
    omega
theorem Gd_dense {a N A n len : Nat} (ha : a ≤ 10) (hN : 1 ≤ N) (hN2 : N ≤ 30) (hl : n ≤ len) (hl2 : len ≤ 12) (hA : len ≤ A) (hA2 : A ≤ 360) : Gd 16 (denseF a N A n len) := by
  unfold denseF
  split
  · exact ⟨by decide, by decide, by decide, by decide⟩
  · rename_i hn
    refine ⟨?_, ?_, den_pos ha hN hn hl hA, ?_⟩
    · show (0 : Int) ≤ 10 * (A : Int) * n
      exact_mod_cast Nat.zero_le (10 * A * n)
    · show 10 * (A : Int) * n < 2 ^ 16
      have : 10 * A * n ≤ 10 * 360 * 12 := mul_le (by omega) (by omega)
      have e : 10 * (A : Int) * n = ((10 * A * n : Nat) : Int) := by push_cast; rfl
      rw [e]; omega
    · show (10 - (a : Int)) * A + a * len * N < 2 ^ 16
      have h1 : (10 - a) * A ≤ 10 * 360 := mul_le (by omega) (by omega)
      have h2 : a * len * N ≤ 10 * 12 * 30 := mul_le (mul_le (by omega) (by omega)) (by omega)
      have e1 : (10 - (a : Int)) * A = (((10 - a) * A : Nat) : Int) := by
        rw [Int.natCast_mul, Int.natCast_sub (by omega)]; rfl
      have e2 : (a : Int) * len * N = ((a * len * N : Nat) : Int) := by push_cast; rfl
      rw [e1, e2]; omega
theorem val_dense {u : Tune} {c : Counts} {A n len : Nat} (ha : u.long ≤ 10) : val (denseF u.long c.texts A n len) = dense u c A n len := by
  unfold denseF dense
  split
  · rfl
  · show Rat.divInt _ _ = _
    rw [Rat.divInt_eq_div]
    have e1 : (10 * (A : Int) * n) = ((10 * A * n : Nat) : Int) := by push_cast; rfl
    have e2 : (10 - (u.long : Int)) * A + u.long * len * c.texts = (((10 - u.long) * A + u.long * len * c.texts : Nat) : Int) := by
      rw [Int.natCast_add, Int.natCast_mul, Int.natCast_sub (by omega)]
      push_cast
      rfl
    rw [e1, e2, Rat.intCast_natCast, Rat.intCast_natCast]
section
variable {u : Tune} {l : List Text} {t : Text}
theorem heads_le (h : TextsOk l) : heads l ≤ 360 := by
  have h1 := total_le (f := fun t => t.head.length) (n := 12) l fun t ht => (h.ok t ht).h
  have := h.len
  unfold heads; omega
theorem bodies_le (h : TextsOk l) : bodies l ≤ 360 := by
  have h1 := total_le (f := fun t => t.body.length) (n := 12) l fun t ht => (h.ok t ht).b
  have := h.len
  unfold bodies; omega
theorem having_le (w : Nat) : having l w ≤ l.length := List.length_filter_le _ _
theorem len_pos (ht : t ∈ l) : 1 ≤ l.length := by
  cases l with
  | nil => cases ht
  | cons _ _ => simp
theorem Gd_denseH (hu : TuneOk u) (h : TextsOk l) (ht : t ∈ l) (w : Nat) : Gd 16 (denseF u.long l.length (heads l) (often w t.head) t.head.length) :=
  Gd_dense hu.a1 (len_pos ht) h.len (often_le _ _) (h.ok t ht).h (le_total (f := fun t => t.head.length) ht) (heads_le h)
theorem Gd_denseB (hu : TuneOk u) (h : TextsOk l) (ht : t ∈ l) (w : Nat) : Gd 16 (denseF u.long l.length (bodies l) (often w t.body) t.body.length) :=
  Gd_dense hu.a1 (len_pos ht) h.len (often_le _ _) (h.ok t ht).b (le_total (f := fun t => t.body.length) ht) (bodies_le h)
theorem gd_one {n k : Nat} (h : n < 2 ^ k) (h1 : 1 < 2 ^ k) : Gd k ((n : Int), 1) :=
  ⟨by show (0 : Int) ≤ n; omega, by show (n : Int) < 2 ^ k; exact_mod_cast h, by show (0 : Int) < 1; decide, by show (1 : Int) < 2 ^ k; exact_mod_cast h1⟩
theorem Gd_density (hu : TuneOk u) (h : TextsOk l) (ht : t ∈ l) (w : Nat) : Gd 41 (densityF u l w t) :=
  Gd.plus (Gd.times (gd_one (k := 4) (by have := hu.c1; omega) (by decide)) (Gd_denseH hu h ht w)) (Gd.times (gd_one (k := 4) (by have := hu.d1; omega) (by decide)) (Gd_denseB hu h ht w))
theorem Gd_full {k : Nat} {x : Fr} (hu : TuneOk u) (hx : Gd k x) : Gd (k + 7) (fullF u x) := by
  have b0 := hu.b0
  have b1 := hu.b1
  have p : (2 : Int) ^ (k + 7) = 128 * 2 ^ k := by rw [Int.pow_add, Int.mul_comm]; rfl
  have n0 := hx.n0
  have n1 := hx.n1
  have d0 := hx.d0
  have d1 := hx.d1
  have e1 : x.1 * ((u.soon : Int) + 10) < 2 ^ (k + 7) := mul_lt_pow hx.n0 hx.n1 (by omega) (by show (u.soon : Int) + 10 < 2 ^ 7; omega)
  have e2 : (u.soon : Int) * x.2 ≤ 100 * x.2 := Int.mul_le_mul_of_nonneg_right (by omega) (by omega)
  have e3 : 0 < (u.soon : Int) * x.2 := Int.mul_pos (by omega) d0
  refine ⟨Int.mul_nonneg n0 (by omega), e1, ?_, ?_⟩
  · show 0 < 10 * x.1 + (u.soon : Int) * x.2
    omega
  · show 10 * x.1 + (u.soon : Int) * x.2 < _
    rw [p]; omega
theorem Gd_rare (h : TextsOk l) (w : Nat) : Gd 5 (rareF l w) := by
  have a := h.len
  have b := having_le (l := l) w
  refine ⟨?_, ?_, ?_, ?_⟩
  · show (0 : Int) ≤ (l.length : Int) + 1; omega
  · show (l.length : Int) + 1 < 2 ^ 5; omega
  · show (0 : Int) < (having l w : Int) + 1; omega
  · show (having l w : Int) + 1 < 2 ^ 5; omega
theorem Gd_gives (hu : TuneOk u) (h : TextsOk l) (ht : t ∈ l) {x : Nat × Nat} (hx : x ∈ u.ask) : Gd 57 (givesF u l x t) :=
  Gd.times (gd_one (k := 4) (by have := hu.w x hx; omega) (by decide)) (Gd.times (Gd_rare h x.1) (Gd_full hu (Gd_density hu h ht x.1)))
theorem Gd_sum (hu : TuneOk u) (h : TextsOk l) (ht : t ∈ l) : ∀ (a : List (Nat × Nat)) (k : Nat) (r : Fr), (∀ x ∈ a, x ∈ u.ask) → Gd k r → Gd (k + 58 * a.length) (a.foldl (fun r x => plus r (givesF u l x t)) r)
  | [], k, r, _, hr => hr
  | x :: a, k, r, hx, hr => by
    have := Gd_sum hu h ht a (k + 57 + 1) (plus r (givesF u l x t)) (fun y hy => hx y (.tail _ hy)) (Gd.plus hr (Gd_gives hu h ht (hx x (.head _))))
    refine Gd.mono this ?_
    simp only [List.length_cons]
    omega
theorem gd01 : Gd 1 (0, 1) := ⟨by decide, by decide, by decide, by decide⟩
theorem Gd_sumF (hu : TuneOk u) (h : TextsOk l) (ht : t ∈ l) {a : List (Nat × Nat)} (ha : ∀ x ∈ a, x ∈ u.ask) (hl : a.length ≤ 4) : Gd 233 (sumF u l t a) :=
  Gd.mono (Gd_sum hu h ht a 1 (0, 1) ha gd01) (by omega)
theorem Gd_prior (h : TextOk t) : Gd 8 (100 + (t.prior : Int), 100) := by
  have := h.p
  exact ⟨by show (0 : Int) ≤ 100 + (t.prior : Int); omega, by show 100 + (t.prior : Int) < 2 ^ 8; omega, by show (0 : Int) < 100; decide, by show (100 : Int) < 2 ^ 8; decide⟩
theorem Gd_mark (hu : TuneOk u) (h : TextsOk l) (ht : t ∈ l) : Gd 241 (markF u l t) :=
  Gd.times (Gd_sumF hu h ht (fun _ z => z) hu.q) (Gd_prior (h.ok t ht))
/-! values -/
theorem havingOf_eq : ∀ (a : List (Nat × Nat)) (w : Nat), w ∈ a.map (·.1) → havingOf ⟨l.length, heads l, bodies l, a.map fun x => (x.1, (l.filter (hasWord x.1)).length)⟩ w = having l w
  | x :: a, w, h => by
    unfold havingOf
    simp only [List.map_cons, List.find?_cons]
    by_cases e : x.1 = w
    · subst e
      simp [having]
    · have e1 : (x.1 == w) = false := by simpa using e
      rw [e1]
      have h2 : w ∈ a.map (·.1) := by
        rcases List.mem_cons.mp h with q | q
        · exact absurd q.symm e
        · exact q
      exact havingOf_eq a w h2
theorem having_counts {w : Nat} (h : w ∈ u.ask.map (·.1)) : havingOf (counts u l) w = having l w := havingOf_eq u.ask w h
theorem val_density (hu : TuneOk u) (h : TextsOk l) (ht : t ∈ l) (w : Nat) : val (densityF u l w t) = density u (counts u l) w t := by
  have e1 := Gd_denseH hu h ht w
  have e2 := Gd_denseB hu h ht w
  unfold densityF density
  rw [val_plus (Gd.ne (Gd.times (gd_one (k := 4) (by have := hu.c1; omega) (by decide)) e1)) (Gd.ne (Gd.times (gd_one (k := 4) (by have := hu.d1; omega) (by decide)) e2)),
    val_times, val_times, val_int, val_int, Rat.intCast_natCast, Rat.intCast_natCast]
  have q1 := val_dense (u := u) (c := counts u l) (A := heads l) (n := often w t.head) (len := t.head.length) hu.a1
  have q2 := val_dense (u := u) (c := counts u l) (A := bodies l) (n := often w t.body) (len := t.body.length) hu.a1
  exact congr (congrArg _ (congrArg _ q1)) (congrArg _ q2)
theorem val_full {k : Nat} {x : Fr} (hu : TuneOk u) (hx : Gd k x) : val (fullF u x) = full u (val x) := by
  have hd := hx.ne
  have e1 : val x * ((u.soon + 10 : Nat) : Rat) = Rat.divInt (x.1 * ((u.soon : Int) + 10)) x.2 := by
    have := val_times x (((u.soon + 10 : Nat) : Int), 1)
    rw [val_int, Rat.intCast_natCast] at this
    rw [← this]
    show Rat.divInt (x.1 * ((u.soon + 10 : Nat) : Int)) (x.2 * 1) = _
    rw [Int.mul_one]; rfl
  have e2 : 10 * val x + (u.soon : Rat) = Rat.divInt (10 * x.1 + (u.soon : Int) * x.2) x.2 := by
    have a := val_times (10, 1) x
    rw [val_int] at a
    have b := val_plus (x := times (10, 1) x) (y := ((u.soon : Int), 1)) (by show (1 : Int) * x.2 ≠ 0; omega) (by show (1 : Int) ≠ 0; decide)
    rw [val_int, Rat.intCast_natCast, a] at b
    have c : ((10 : Int) : Rat) = 10 := rfl
    rw [c] at b
    rw [← b]
    show Rat.divInt (10 * x.1 * 1 + (u.soon : Int) * (1 * x.2)) (1 * x.2 * 1) = _
    simp
  have hd0 := hx.d0
  unfold full
  rw [e1, e2, Rat.div_def, Rat.inv_divInt, Rat.divInt_mul_divInt]
  show Rat.divInt _ _ = _
  rw [Int.mul_comm (x.1 * _) x.2, Rat.divInt_mul_left hd]
  rfl
theorem val_rare {w : Nat} (hw : w ∈ u.ask.map (·.1)) : val (rareF l w) = rare (counts u l) w := by
  unfold rare
  rw [having_counts hw]
  show Rat.divInt _ _ = _
  rw [Rat.divInt_eq_div]
  rfl
theorem val_gives (hu : TuneOk u) (h : TextsOk l) (ht : t ∈ l) {x : Nat × Nat} (hx : x ∈ u.ask) : val (givesF u l x t) = part u (counts u l) x t := by
  unfold givesF part
  rw [val_times, val_times, val_int, Rat.intCast_natCast, val_rare (u := u) (List.mem_map_of_mem hx), val_full hu (Gd_density hu h ht x.1), val_density hu h ht, Rat.mul_assoc]
theorem val_sum (hu : TuneOk u) (h : TextsOk l) (ht : t ∈ l) : ∀ (a : List (Nat × Nat)) (k : Nat) (r : Fr), (∀ x ∈ a, x ∈ u.ask) → Gd k r →
    val (a.foldl (fun r x => plus r (givesF u l x t)) r) = val r + Rh08.sum (a.map fun x => part u (counts u l) x t)
  | [], k, r, _, hr => (Rat.add_zero _).symm
  | x :: a, k, r, hx, hr => by
    have g := Gd_gives hu h ht (hx x (.head _))
    have := val_sum hu h ht a _ (plus r (givesF u l x t)) (fun y hy => hx y (.tail _ hy)) (Gd.plus hr g)
    show val (a.foldl _ _) = _
    rw [this, val_plus hr.ne g.ne, val_gives hu h ht (hx x (.head _)), Rat.add_assoc]
    rfl
theorem val_mark (hu : TuneOk u) (h : TextsOk l) (ht : t ∈ l) : val (markF u l t) = Rh08.mark u (counts u l) t := by
  unfold markF Rh08.mark
  rw [val_times]
  have e := val_sum hu h ht u.ask 1 (0, 1) (fun _ z => z) gd01
  have z : val ((0 : Int), 1) = 0 := by rw [val_int]; rfl
  rw [z, Rat.zero_add] at e
  have e2 : val (100 + (t.prior : Int), 100) = ((100 + t.prior : Nat) : Rat) / 100 := by
    show Rat.divInt _ _ = _
    rw [Rat.divInt_eq_div]
    rfl
  rw [e2]
  unfold sumF
  rw [e, Rat.div_def, Rat.div_def, Rat.mul_assoc]
end
end Mk
set_option Elab.async false
set_option linter.unusedVariables false
/-! The ranking. -/
namespace Mk
open Rh08
abbrev KF := Nat × Fr
def vv (x : KF) : Nat × Rat := (x.1, val x.2)
/-- where a text of this mark goes: behind all whose marks are as great or greater -/
def placeF (r : List KF) (m : Fr) : Nat := (r.reverse.dropWhile fun y => greater m y.2).length
def insF (x : KF) (r : List KF) : List KF := r.take (placeF r x.2) ++ x :: r.drop (placeF r x.2)
def hasAsk (u : Tune) (t : Text) : Bool := u.ask.any fun x => hasWord x.1 t
def rankFrom (u : Tune) (l : List Text) (r : List KF) (ts : List Text) : List KF := ts.foldl (fun r t => if hasAsk u t = true then insF (t.key, markF u l t) r else r) r
def rankF (u : Tune) (l : List Text) : List KF := rankFrom u l [] l
theorem placeF_le (r : List KF) (m : Fr) : placeF r m ≤ r.length := by
  unfold placeF
  have := (List.dropWhile_suffix (l := r.reverse) (fun y => greater m y.2)).length_le
  simpa using this
theorem placeF_snoc (r : List KF) (y : KF) (m : Fr) : placeF (r ++ [y]) m = if greater m y.2 = true then placeF r m else r.length + 1 := by
  unfold placeF
  rw [List.reverse_append]
  show (List.dropWhile _ (y :: r.reverse)).length = _
  rw [List.dropWhile_cons]
  split <;> simp
/-- one turn of the search -/
theorem placeF_take {r : List KF} {i : Nat} {y : KF} (m : Fr) (h : r[i]? = some y) : placeF (r.take (i + 1)) m = if greater m y.2 = true then placeF (r.take i) m else i + 1 := by
  have hi : i < r.length := by
    rcases Nat.lt_or_ge i r.length with q | q
    · exact q
    · rw [List.getElem?_eq_none q] at h; cases h
  have e : r.take (i + 1) = r.take i ++ [y] := by
    rw [List.take_add_one, h]; rfl
  rw [e, placeF_snoc]
  have : (r.take i).length = i := by rw [List.length_take]; omega
  rw [this]
theorem put_split (x : Nat × Rat) : ∀ (A B : List (Nat × Rat)), (∀ y ∈ A, better x y = false) → (∀ y, B.head? = some y → better x y = true) → Rh08.put x (A ++ B) = A ++ x :: B
  | [], [], _, _ => rfl
  | [], y :: B, _, h => by
    show (if better x y = true then x :: y :: B else y :: Rh08.put x B) = _
    rw [if_pos (h y rfl)]; rfl
  | a :: A, B, h1, h2 => by
    show (if better x a = true then x :: a :: (A ++ B) else a :: Rh08.put x (A ++ B)) = _
    rw [if_neg (by rw [h1 a (.head _)]; exact Bool.false_ne_true), put_split x A B (fun y hy => h1 y (.tail _ hy)) h2]
    rfl
/-- marks fall, lines are no 0 -/
structure Fall (n : Nat) (r : List KF) : Prop where
  key : ∀ y ∈ r, y.1 < n
  gd : ∀ y ∈ r, Gd 241 y.2
  fall : r.Pairwise fun x y => val y.2 ≤ val x.2
theorem place_spec : ∀ (r : List KF) (m : Fr), 0 < m.2 → (∀ y ∈ r, Gd 241 y.2) → (r.Pairwise fun x y => val y.2 ≤ val x.2) →
    (∀ y ∈ r.take (placeF r m), ¬ val y.2 < val m) ∧ (∀ y ∈ r.drop (placeF r m), val y.2 < val m) := by
  intro r m hm
  -- along the list's end
  suffices H : ∀ (q : List KF), (∀ y ∈ q, Gd 241 y.2) → (q.reverse.Pairwise fun x y => val y.2 ≤ val x.2) →
      (∀ y ∈ q.reverse.take (q.dropWhile fun y => greater m y.2).length, ¬ val y.2 < val m) ∧ (∀ y ∈ q.reverse.drop (q.dropWhile fun y => greater m y.2).length, val y.2 < val m) by
    intro g f
    have := H r.reverse (fun y hy => g y (List.mem_reverse.mp hy)) (by rw [List.reverse_reverse]; exact f)
    rw [List.reverse_reverse] at this
    exact this
  intro q
  induction q with
  | nil => intro _ _; exact ⟨fun y hy => by simp at hy, fun y hy => by simp at hy⟩
  | cons y q ih =>
    intro g f
    rw [List.reverse_cons] at f ⊢
    have f' := List.pairwise_append.mp f
    have gy := g y (.head _)
    by_cases c : greater m y.2 = true
    · have e : (List.dropWhile (fun y => greater m y.2) (y :: q)) = List.dropWhile (fun y => greater m y.2) q := by rw [List.dropWhile_cons, if_pos c]
      rw [e]
      have hl : (List.dropWhile (fun y => greater m y.2) q).length ≤ q.reverse.length := by
        have := (List.dropWhile_suffix (l := q) (fun y => greater m y.2)).length_le
        simpa using this
      have h := ih (fun z hz => g z (.tail _ hz)) f'.1
      rw [List.take_append_of_le_length hl, List.drop_append_of_le_length hl]
      refine ⟨h.1, fun z hz => ?_⟩
      rcases List.mem_append.mp hz with a | a
      · exact h.2 z a
      · rw [List.mem_singleton.mp a]
        exact (greater_iff hm gy.d0).mp c
    · have e : (List.dropWhile (fun y => greater m y.2) (y :: q)) = y :: q := by rw [List.dropWhile_cons, if_neg c]
      rw [e]
      have ny : ¬ val y.2 < val m := fun z => c ((greater_iff hm gy.d0).mpr z)
      have hl : (q.reverse ++ [y]).length = (y :: q).length := by simp
      rw [← hl, List.take_length, List.drop_length]
      refine ⟨fun z hz => ?_, fun z hz => by cases hz⟩
      rcases List.mem_append.mp hz with a | a
      · have := f'.2.2 z a y (.head _)
        intro k
        exact ny (by grind)
      · rw [List.mem_singleton.mp a]
        exact ny
theorem insF_perm (x : KF) (r : List KF) : (insF x r).Perm (x :: r) := by
  unfold insF
  have e := List.take_append_drop (placeF r x.2) r
  refine List.perm_middle.trans (List.Perm.cons x ?_)
  rw [e]
theorem mem_insF {x y : KF} {r : List KF} : y ∈ insF x r ↔ y = x ∨ y ∈ r := by
  rw [(insF_perm x r).mem_iff]; simp
theorem put_insF {x : KF} {r : List KF} (hr : Fall x.1 r) (hx : Gd 241 x.2) : Rh08.put (vv x) (r.map vv) = (insF x r).map vv := by
  have sp := place_spec r x.2 hx.d0 hr.gd hr.fall
  unfold insF
  rw [List.map_append, List.map_cons]
  rw [show r.map vv = (r.take (placeF r x.2)).map vv ++ (r.drop (placeF r x.2)).map vv by rw [← List.map_append, List.take_append_drop]]
  refine put_split (vv x) _ _ (fun y hy => ?_) (fun y hy => ?_)
  · obtain ⟨z, hz, rfl⟩ := List.mem_map.mp hy
    have a := sp.1 z hz
    have b := hr.key z (List.mem_of_mem_take hz)
    unfold better vv
    simp only [Bool.or_eq_false_iff, Bool.and_eq_false_iff, decide_eq_false_iff_not]
    exact ⟨a, Or.inr (by omega)⟩
  · have hm : y ∈ (r.drop (placeF r x.2)).map vv := List.mem_of_mem_head? hy
    obtain ⟨z, hz, rfl⟩ := List.mem_map.mp hm
    have a := sp.2 z hz
    unfold better vv
    simp only [Bool.or_eq_true, decide_eq_true_eq]
    exact Or.inl a
theorem Fall.ins {x : KF} {r : List KF} {n : Nat} (hr : Fall x.1 r) (hx : Gd 241 x.2) (hn : x.1 < n) : Fall n (insF x r) := by
  have sp := place_spec r x.2 hx.d0 hr.gd hr.fall
  refine ⟨fun y hy => ?_, fun y hy => ?_, ?_⟩
  · rcases mem_insF.mp hy with e | e
    · rw [e]; exact hn
    · have := hr.key y e; omega
  · rcases mem_insF.mp hy with e | e
    · rw [e]; exact hx
    · exact hr.gd y e
  · unfold insF
    have q : (r.take (placeF r x.2) ++ r.drop (placeF r x.2)).Pairwise fun x y => val y.2 ≤ val x.2 := by rw [List.take_append_drop]; exact hr.fall
    have q' := List.pairwise_append.mp q
    refine List.pairwise_append.mpr ⟨q'.1, List.pairwise_cons.mpr ⟨fun y hy => Rat.le_of_lt (sp.2 y hy), q'.2.1⟩, fun a ha b hb => ?_⟩
    rcases List.mem_cons.mp hb with e | e
    · rw [e]; exact Rat.not_lt.mp (sp.1 a ha)
    · exact q'.2.2 a ha b e
theorem Fall.nil (n : Nat) : Fall n [] := ⟨fun _ h => absurd h List.not_mem_nil, fun _ h => absurd h List.not_mem_nil, List.Pairwise.nil⟩
theorem Fall.mono {n m : Nat} {r : List KF} (h : Fall n r) (e : n ≤ m) : Fall m r := ⟨fun y hy => Nat.lt_of_lt_of_le (h.key y hy) e, h.gd, h.fall⟩
section
variable {u : Tune} {l : List Text}
theorem rankFrom_eq (hu : TuneOk u) (hl : TextsOk l) : ∀ (ts : List Text) (n : Nat) (r : List KF), (∀ t ∈ ts, t ∈ l ∧ n ≤ t.key) → ts.Pairwise (fun x y => x.key < y.key) → Fall n r →
    (∃ m, Fall m (rankFrom u l r ts)) ∧ (rankFrom u l r ts).map vv = ((ts.filter fun t => u.ask.any fun x => hasWord x.1 t).map fun t => (t.key, mark u (counts u l) t)).foldl (fun r x => Rh08.put x r) (r.map vv)
  | [], n, r, _, _, f => ⟨⟨n, f⟩, rfl⟩
  | t :: ts, n, r, hm, hp, f => by
    have ht := hm t (.head _)
    have hp' := List.pairwise_cons.mp hp
    have hm' : ∀ x ∈ ts, x ∈ l ∧ t.key + 1 ≤ x.key := fun x hx => ⟨(hm x (.tail _ hx)).1, hp'.1 x hx⟩
    by_cases c : hasAsk u t = true
    · have g := Gd_mark hu hl ht.1
      have f1 : Fall t.key r := f.mono ht.2
      have f2 := Fall.ins (x := (t.key, markF u l t)) f1 g (Nat.lt_succ_self _)
      have ih := rankFrom_eq hu hl ts (t.key + 1) (insF (t.key, markF u l t) r) hm' hp'.2 f2
      have e : rankFrom u l r (t :: ts) = rankFrom u l (insF (t.key, markF u l t) r) ts := by
        show List.foldl _ (if hasAsk u t = true then _ else _) ts = _
        rw [if_pos c]; rfl
      rw [e]
      refine ⟨ih.1, ih.2.trans ?_⟩
      rw [List.filter_cons, if_pos (show (u.ask.any fun x => hasWord x.1 t) = true from c), List.map_cons, List.foldl_cons, ← put_insF (x := (t.key, markF u l t)) f1 g]
      unfold vv
      rw [val_mark hu hl ht.1]
    · have ih := rankFrom_eq hu hl ts (t.key + 1) r hm' hp'.2 (f.mono (by omega))
      have e : rankFrom u l r (t :: ts) = rankFrom u l r ts := by
        show List.foldl _ (if hasAsk u t = true then _ else _) ts = _
        rw [if_neg c]; rfl
      rw [e]
      refine ⟨ih.1, ih.2.trans ?_⟩
      rw [List.filter_cons, if_neg (show ¬ (u.ask.any fun x => hasWord x.1 t) = true from c)]
theorem rank_eq (hu : TuneOk u) (hl : TextsOk l) : (rankF u l).map vv = ranked u (counts u l) l :=
  (rankFrom_eq hu hl l 0 [] (fun t ht => ⟨ht, Nat.zero_le _⟩) hl.asc (Fall.nil 0)).2
theorem rank_gd (hu : TuneOk u) (hl : TextsOk l) {y : KF} (hy : y ∈ rankF u l) : Gd 241 y.2 := by
  obtain ⟨m, f⟩ := (rankFrom_eq hu hl l 0 [] (fun t ht => ⟨ht, Nat.zero_le _⟩) hl.asc (Fall.nil 0)).1
  exact f.gd y hy
theorem rankFrom_len (u : Tune) (l : List Text) : ∀ (ts : List Text) (r : List KF), (rankFrom u l r ts).length ≤ r.length + ts.length
  | [], r => Nat.le_refl _
  | t :: ts, r => by
    have e : rankFrom u l r (t :: ts) = rankFrom u l (if hasAsk u t = true then insF (t.key, markF u l t) r else r) ts := rfl
    rw [e]
    have := rankFrom_len u l ts (if hasAsk u t = true then insF (t.key, markF u l t) r else r)
    have h2 : (if hasAsk u t = true then insF (t.key, markF u l t) r else r).length ≤ r.length + 1 := by
      split
      · rw [(insF_perm _ _).length_eq]; simp
      · omega
    simp only [List.length_cons]
    omega
theorem rank_len (u : Tune) (l : List Text) : (rankF u l).length ≤ l.length := by
  have := rankFrom_len u l l []
  simpa [rankF] using this
theorem rankFrom_snoc (u : Tune) (l : List Text) (r : List KF) (ts : List Text) (t : Text) : rankFrom u l r (ts ++ [t]) = if hasAsk u t = true then insF (t.key, markF u l t) (rankFrom u l r ts) else rankFrom u l r ts := by
  unfold rankFrom
  rw [List.foldl_append]
  rfl
end
end Mk
set_option Elab.async false
set_option linter.unusedVariables false
/-! What the calls leave: a desk in order again. -/
namespace Mk
open Rh08
structure Ok (s : Desk) : Prop where
  u : TuneOk s.tune
  t : TextsOk s.texts
theorem enter_mem {t x : Text} : ∀ {l : List Text}, x ∈ enter t l → x = t ∨ x ∈ l
  | [], h => by
    rcases List.mem_cons.mp h with q | q
    · exact .inl q
    · cases q
  | u :: l, h => by
    unfold enter at h
    split at h
    · rcases List.mem_cons.mp h with q | q
      · exact .inl q
      · exact .inr q
    · split at h
      · rcases List.mem_cons.mp h with q | q
        · exact .inl q
        · exact .inr (.tail _ q)
      · rcases List.mem_cons.mp h with q | q
        · exact .inr (by rw [q]; exact .head _)
        · rcases enter_mem q with z | z
          · exact .inl z
          · exact .inr (.tail _ z)
theorem enter_asc {t : Text} : ∀ {l : List Text}, l.Pairwise (fun x y => x.key < y.key) → (enter t l).Pairwise (fun x y => x.key < y.key)
  | [], _ => List.pairwise_singleton _ _
  | u :: l, h => by
    have h' := List.pairwise_cons.mp h
    unfold enter
    split
    · rename_i c
      refine List.pairwise_cons.mpr ⟨fun y hy => ?_, h⟩
      rcases List.mem_cons.mp hy with q | q
      · rw [q]; exact c
      · have := h'.1 y q; omega
    · split
      · rename_i c
        exact List.pairwise_cons.mpr ⟨fun y hy => by have := h'.1 y hy; omega, h'.2⟩
      · refine List.pairwise_cons.mpr ⟨fun y hy => ?_, enter_asc h'.2⟩
        rcases enter_mem hy with q | q
        · rw [q]; omega
        · exact h'.1 y q
/-- the text comes in, another of its key goes -/
theorem enter_perm {t : Text} : ∀ {l : List Text}, l.Pairwise (fun x y => x.key < y.key) → (enter t l).Perm (t :: l.filter fun x => x.key != t.key)
  | [], _ => List.Perm.refl _
  | u :: l, h => by
    have h' := List.pairwise_cons.mp h
    unfold enter
    split
    · rename_i c
      have : (u :: l).filter (fun x => x.key != t.key) = u :: l := List.filter_eq_self.mpr fun y hy => by
        rcases List.mem_cons.mp hy with q | q
        · rw [q]; simp; omega
        · have := h'.1 y q; simp; omega
      rw [this]
    · split
      · rename_i c
        have : (u :: l).filter (fun x => x.key != t.key) = l := by
          rw [List.filter_cons, if_neg (by simp [c])]
          exact List.filter_eq_self.mpr fun y hy => by have := h'.1 y hy; simp; omega
        rw [this]
      · rename_i c1 c2
        have e : (u :: l).filter (fun x => x.key != t.key) = u :: l.filter (fun x => x.key != t.key) := by
          rw [List.filter_cons, if_pos (by simp; omega)]
        rw [e]
        exact (List.Perm.cons u (enter_perm h'.2)).trans (List.Perm.swap _ _ _)
theorem TextsOk.enter {t : Text} {l : List Text} (h : TextsOk l) (ht : TextOk t) : TextsOk (enter t l) :=
  ⟨fun x hx => by
    rcases enter_mem hx with q | q
    · rw [q]; exact ht
    · exact h.ok x q, enter_asc h.asc⟩
theorem TextsOk.filter {p : Text → Bool} {l : List Text} (h : TextsOk l) : TextsOk (l.filter p) := ⟨fun x hx => h.ok x (List.mem_filter.mp hx).1, h.asc.filter _⟩
theorem isPart_iff (l : List Nat) : isPart l = true ↔ l.length ≤ 12 ∧ ∀ w ∈ l, 1 ≤ w ∧ w ≤ 30 := by
  unfold isPart
  simp only [Bool.and_eq_true, decide_eq_true_eq, List.all_eq_true]
theorem get_some {s : Desk} {k : Nat} {t : Text} (h : get s k = some t) : t ∈ s.texts ∧ t.key = k := by
  unfold Rh08.get at h
  exact ⟨List.mem_of_find?_eq_some h, by have := List.find?_some h; simpa using this⟩
theorem get_none {s : Desk} {k : Nat} (h : get s k = none) : ∀ t ∈ s.texts, t.key ≠ k := by
  unfold Rh08.get at h
  intro t ht e
  have := List.find?_eq_none.mp h t ht
  simp [e] at this
theorem get_of {s : Desk} (O : Ok s) {t : Text} (ht : t ∈ s.texts) : get s t.key = some t := by
  cases q : get s t.key with
  | none => exact absurd rfl (get_none q t ht)
  | some u =>
    obtain ⟨h1, h2⟩ := get_some q
    by_cases c : u = t
    · rw [c]
    · exfalso
      have key : ∀ {l : List Text}, l.Pairwise (fun x y => x.key < y.key) → u ∈ l → t ∈ l → u = t := by
        intro l
        induction l with
        | nil => intro _ h; cases h
        | cons x l ih =>
          intro hp hu ht'
          have hp' := List.pairwise_cons.mp hp
          rcases List.mem_cons.mp hu with a | a
          · rcases List.mem_cons.mp ht' with b | b
            · rw [a, b]
            · have := hp'.1 t b; rw [← a] at this; omega
          · rcases List.mem_cons.mp ht' with b | b
            · have := hp'.1 u a; rw [← b] at this; omega
            · exact ih hp'.2 a b
      exact c (key O.t.asc h1 ht)
theorem distinct_nodup : ∀ (a : List (Nat × Nat)), distinct a = true ↔ (a.map (·.1)).Nodup
  | [] => by simp [distinct]
  | x :: a => by
    have ih := distinct_nodup a
    unfold distinct
    rw [Bool.and_eq_true, List.map_cons, List.nodup_cons, ih]
    constructor
    · rintro ⟨h1, h2⟩
      refine ⟨fun z => ?_, h2⟩
      obtain ⟨y, hy, e⟩ := List.mem_map.mp z
      have := List.all_eq_true.mp h1 y hy
      simp [e] at this
    · rintro ⟨h1, h2⟩
      refine ⟨List.all_eq_true.mpr fun y hy => ?_, h2⟩
      have : y.1 ≠ x.1 := fun e => h1 (by rw [← e]; exact List.mem_map_of_mem hy)
      simpa using this
theorem isAsk_iff (a : List (Nat × Nat)) : isAsk a = true ↔ a.length ≤ 4 ∧ (a.map (·.1)).Nodup ∧ ∀ x ∈ a, 1 ≤ x.1 ∧ x.1 ≤ 30 ∧ 1 ≤ x.2 ∧ x.2 ≤ 10 := by
  unfold isAsk
  rw [Bool.and_eq_true, Bool.and_eq_true, distinct_nodup]
  simp only [decide_eq_true_eq, List.all_eq_true, Bool.and_eq_true]
theorem init_ok : Ok Rh08.init := by
  refine ⟨⟨by decide, by decide, by decide, by decide, by decide, by decide, by decide, by decide, fun x hx => ?_, ?_⟩, ⟨fun x hx => ?_, ?_⟩⟩
  · exact absurd hx List.not_mem_nil
  · exact List.nodup_nil
  · exact absurd hx List.not_mem_nil
  · exact List.Pairwise.nil
theorem step_ok {s : Desk} (O : Ok s) (c : Call) : Ok (step s c).1 := by
  cases c with
  | put k p n l =>
    unfold step
    dsimp only
    split
    · exact O
    · rename_i h
      simp only [not_or, Bool.not_eq_false] at h
      obtain ⟨h1, h2, h3, h4, h5, h6⟩ := h
      have a := (isPart_iff _).mp h5
      have b := (isPart_iff _).mp h6
      exact ⟨O.u, O.t.enter ⟨by show 1 ≤ k; omega, by show k ≤ 30; omega, by show p ≤ 100; omega, a.1, b.1, a.2, b.2⟩⟩
  | drop k =>
    unfold step
    dsimp only
    split
    · exact O
    · exact ⟨O.u, O.t.filter⟩
  | tune a b c d =>
    unfold step
    dsimp only
    split
    · exact O
    · rename_i h
      simp only [not_or] at h
      refine ⟨⟨?_, ?_, ?_, ?_, ?_, ?_, ?_, O.u.q, O.u.w, O.u.ds⟩, O.t⟩
      · show a ≤ 10; omega
      · show 1 ≤ b; omega
      · show b ≤ 100; omega
      · show 1 ≤ c; omega
      · show c ≤ 10; omega
      · show 1 ≤ d; omega
      · show d ≤ 10; omega
  | ask l =>
    unfold step
    dsimp only
    split
    · exact O
    · split
      · exact O
      · rename_i a _ h
        have h' := (isAsk_iff a).mp (by simpa using h)
        exact ⟨⟨O.u.a1, O.u.b0, O.u.b1, O.u.c0, O.u.c1, O.u.d0, O.u.d1, h'.1, h'.2.2, h'.2.1⟩, O.t⟩
  | mark k => exact O
  | best n => exact O
  | why k => exact O
  | versus i j => exact O
  | place k => exact O
  | lift k w => exact O
  | parts k => exact O
end Mk
set_option Elab.async false
set_option linter.unusedVariables false
set_option maxRecDepth 100000
/-! A list of calls, read call by call. -/
namespace Mk
open Rh08
/-- how many whole numbers stand between a call's number and its row, or the next call -/
def cnt : Nat → Nat
  | 0 => 3 | 1 => 1 | 2 => 4 | 3 => 0 | 4 => 1 | 5 => 1 | 6 => 1 | 7 => 2 | 8 => 1 | 9 => 2 | 10 => 1 | _ => 0
def isRow (p : Nat) : Bool := p == 0 || p == 3
def ofN (l : List Nat) : List Int := l.map fun (n : Nat) => (n : Int)
def rawOf (p : Nat) (plain row : List Nat) : List (List Int) := if isRow p = true then [(p : Int) :: ofN plain, ofN row] else [(p : Int) :: ofN plain]
/-- where the next call begins -/
def nxt (i p : Nat) (row : List Nat) : Nat := if isRow p = true then i + 1 + cnt p + 1 + row.length else i + 1 + cnt p
def getN (l : List Nat) (i : Nat) : Nat := l.getD i 0
/-- the call of these numbers -/
def callN (p : Nat) (x row : List Nat) : Call :=
  match p with
  | 0 => .put (getN x 0) (getN x 1) (getN x 2) row
  | 1 => .drop (getN x 0)
  | 2 => .tune (getN x 0) (getN x 1) (getN x 2) (getN x 3)
  | 3 => .ask row
  | 4 => .mark (getN x 0)
  | 5 => .best (getN x 0)
  | 6 => .why (getN x 0)
  | 7 => .versus (getN x 0) (getN x 1)
  | 8 => .place (getN x 0)
  | 9 => .lift (getN x 0) (getN x 1)
  | _ => .parts (getN x 0)
theorem le_cases {p : Nat} (h : p ≤ 10) : p = 0 ∨ p = 1 ∨ p = 2 ∨ p = 3 ∨ p = 4 ∨ p = 5 ∨ p = 6 ∨ p = 7 ∨ p = 8 ∨ p = 9 ∨ p = 10 := by omega
theorem shape_le {p : Nat} {x : Nat × Nat} (h : PyRh08.shape (p : Int) = some x) : p ≤ 10 := by
  unfold PyRh08.shape at h
  rcases Nat.lt_or_ge 10 p with q | q
  · exfalso
    simp only [show ¬ (p : Int) = 0 by omega, show ¬ (p : Int) = 1 by omega, show ¬ (p : Int) = 2 by omega, show ¬ (p : Int) = 3 by omega, show ¬ (p : Int) = 4 by omega, show ¬ (p : Int) = 5 by omega, show ¬ (p : Int) = 6 by omega, show ¬ (p : Int) = 7 by omega,
      show ¬ (p : Int) = 8 by omega, show ¬ (p : Int) = 9 by omega, show ¬ (p : Int) = 10 by omega, if_false] at h
    cases h
  · exact q
theorem shape_eq {p : Nat} (h : p ≤ 10) : PyRh08.shape (p : Int) = some (cnt p, if isRow p = true then 1 else 0) := by
  rcases le_cases h with e | e | e | e | e | e | e | e | e | e | e <;> subst e <;> rfl
theorem ofN_take (l : List Nat) (n : Nat) : (ofN l).take n = ofN (l.take n) := by unfold ofN; rw [List.map_take]
theorem ofN_drop (l : List Nat) (n : Nat) : (ofN l).drop n = ofN (l.drop n) := by unfold ofN; rw [List.map_drop]
theorem ofN_len (l : List Nat) : (ofN l).length = l.length := List.length_map _
/-- the first of the calls from place i on -/
theorem turn_of {ns : List Nat} {f i : Nat} {cs : List (List (List Int))} (h : PyFlat.calls PyRh08.shape f (ofN (ns.drop i)) = some cs) (hi : i < ns.length) :
    ∃ (p : Nat) (plain row : List Nat) (cs' : List (List (List Int))) (f' : Nat), p ≤ 10 ∧ ns[i]? = some p ∧ plain = (ns.drop (i + 1)).take (cnt p) ∧ plain.length = cnt p ∧
      (isRow p = true → ns[i + 1 + cnt p]? = some row.length ∧ row = (ns.drop (i + 1 + cnt p + 1)).take row.length) ∧ (isRow p = false → row = []) ∧ nxt i p row ≤ ns.length ∧ cs = rawOf p plain row :: cs' ∧ PyFlat.calls PyRh08.shape f' (ofN (ns.drop (nxt i p row))) = some cs' := by
  have hd : ns.drop i = ns[i] :: ns.drop (i + 1) := List.drop_eq_getElem_cons hi
  rw [hd] at h
  show _
  have h' : PyFlat.calls PyRh08.shape f ((ns[i] : Int) :: ofN (ns.drop (i + 1))) = some cs := h
  cases f with
  | zero => cases h'
  | succ f =>
    unfold PyFlat.calls at h'
    cases hc : PyFlat.call PyRh08.shape ((ns[i] : Int) :: ofN (ns.drop (i + 1))) with
    | none => rw [hc] at h'; cases h'
    | some ct =>
      obtain ⟨c, t⟩ := ct
      rw [hc] at h'
      dsimp only at h'
      cases hr : PyFlat.calls PyRh08.shape f t with
      | none => rw [hr] at h'; cases h'
      | some cs' =>
        rw [hr] at h'
        have ecs : c :: cs' = cs := Option.some.inj h'
        unfold PyFlat.call at hc
        dsimp only at hc
        cases hs : PyRh08.shape (ns[i] : Int) with
        | none => rw [hs] at hc; cases hc
        | some nk =>
          have hp := shape_le hs
          rw [shape_eq hp] at hs
          rw [shape_eq hp] at hc
          dsimp only at hc
          rw [ofN_len, ofN_drop, List.drop_drop, ofN_take] at hc
          by_cases hn : (ns.drop (i + 1)).length < cnt ns[i]
          · rw [if_pos hn] at hc; cases hc
          · rw [if_neg hn] at hc
            have hn' : i + 1 + cnt ns[i] ≤ ns.length := by rw [List.length_drop] at hn; omega
            have hpl : ((ns.drop (i + 1)).take (cnt ns[i])).length = cnt ns[i] := by rw [List.length_take]; omega
            by_cases hrow : isRow ns[i] = true
            · rw [if_pos hrow] at hc
              unfold PyFlat.rows at hc
              cases hq : PyFlat.row (ofN (ns.drop (i + 1 + cnt ns[i]))) with
              | none => rw [hq] at hc; cases hc
              | some xs =>
                obtain ⟨x, s⟩ := xs
                rw [hq] at hc
                dsimp only [PyFlat.rows] at hc
                have ec := Option.some.inj hc
                have lt2 : i + 1 + cnt ns[i] < ns.length := by
                  rcases Nat.lt_or_ge (i + 1 + cnt ns[i]) ns.length with z | z
                  · exact z
                  · exfalso
                    rw [List.drop_of_length_le z] at hq
                    cases hq
                rw [List.drop_eq_getElem_cons lt2] at hq
                have hq' : (if 0 ≤ ((ns[i + 1 + cnt ns[i]] : Nat) : Int) ∧ ((ns[i + 1 + cnt ns[i]] : Nat) : Int).toNat ≤ (ofN (ns.drop (i + 1 + cnt ns[i] + 1))).length then
                    some ((ofN (ns.drop (i + 1 + cnt ns[i] + 1))).take ((ns[i + 1 + cnt ns[i]] : Nat) : Int).toNat, (ofN (ns.drop (i + 1 + cnt ns[i] + 1))).drop ((ns[i + 1 + cnt ns[i]] : Nat) : Int).toNat) else none) = some (x, s) := hq
                rw [Int.toNat_natCast, ofN_len, ofN_take, ofN_drop, List.drop_drop] at hq'
                split at hq'
                · rename_i hb
                  have ex := Prod.mk.inj (Option.some.inj hq')
                  have hlen : ((ns.drop (i + 1 + cnt ns[i] + 1)).take ns[i + 1 + cnt ns[i]]).length = ns[i + 1 + cnt ns[i]] := by rw [List.length_take]; omega
                  have hb2 := hb.2
                  rw [List.length_drop] at hb2
                  refine ⟨ns[i], _, (ns.drop (i + 1 + cnt ns[i] + 1)).take ns[i + 1 + cnt ns[i]], cs', f, hp, List.getElem?_eq_getElem hi, rfl, hpl, fun _ => ⟨?_, ?_⟩, fun z => absurd (hrow.symm.trans z) Bool.noConfusion, ?_, ?_, ?_⟩
                  · rw [hlen]
                    exact List.getElem?_eq_getElem lt2
                  · rw [hlen]
                  · unfold nxt
                    rw [if_pos hrow, hlen]
                    omega
                  · rw [← ecs, ← (Prod.mk.inj ec).1, ← ex.1]
                    unfold rawOf
                    rw [if_pos hrow]
                  · unfold nxt
                    rw [if_pos hrow, hlen, ← hr, ← (Prod.mk.inj ec).2, ← ex.2]
                · cases hq'
            · rw [if_neg hrow] at hc
              unfold PyFlat.rows at hc
              dsimp only at hc
              have ec := Prod.mk.inj (Option.some.inj hc)
              have hrow' : isRow ns[i] = false := Bool.not_eq_true _ |>.mp hrow
              refine ⟨ns[i], _, [], cs', f, hp, List.getElem?_eq_getElem hi, rfl, hpl, fun z => absurd z hrow, fun _ => rfl, ?_, ?_, ?_⟩
              · unfold nxt
                rw [if_neg hrow]
                exact hn'
              · rw [← ecs, ← ec.1]
                unfold rawOf
                rw [if_neg hrow]
              · unfold nxt
                rw [if_neg hrow, ← hr, ← ec.2]
theorem len1 {l : List Nat} (h : l.length = 1) : ∃ a, l = [a] := by
  match l, h with
  | [a], _ => exact ⟨a, rfl⟩
theorem len2 {l : List Nat} (h : l.length = 2) : ∃ a b, l = [a, b] := by
  match l, h with
  | [a, b], _ => exact ⟨a, b, rfl⟩
theorem len3 {l : List Nat} (h : l.length = 3) : ∃ a b c, l = [a, b, c] := by
  match l, h with
  | [a, b, c], _ => exact ⟨a, b, c, rfl⟩
theorem len4 {l : List Nat} (h : l.length = 4) : ∃ a b c d, l = [a, b, c, d] := by
  match l, h with
  | [a, b, c, d], _ => exact ⟨a, b, c, d, rfl⟩
theorem whole_raw {p : Nat} {plain row : List Nat} (hp : p ≤ 10) (hl : plain.length = cnt p) (hr : isRow p = false → row = []) : (PyRh08.whole (rawOf p plain row)).headD [] = ofN (p :: plain ++ row) := by
  rcases le_cases hp with e | e | e | e | e | e | e | e | e | e | e <;> subst e
  · obtain ⟨a, b, c, rfl⟩ := len3 hl
    rfl
  · obtain ⟨a, rfl⟩ := len1 hl; rw [hr rfl]; rfl
  · obtain ⟨a, b, c, d, rfl⟩ := len4 hl; rw [hr rfl]; rfl
  · have : plain = [] := List.length_eq_zero_iff.mp hl
    subst this
    rfl
  · obtain ⟨a, rfl⟩ := len1 hl; rw [hr rfl]; rfl
  · obtain ⟨a, rfl⟩ := len1 hl; rw [hr rfl]; rfl
  · obtain ⟨a, rfl⟩ := len1 hl; rw [hr rfl]; rfl
  · obtain ⟨a, b, rfl⟩ := len2 hl; rw [hr rfl]; rfl
  · obtain ⟨a, rfl⟩ := len1 hl; rw [hr rfl]; rfl
  · obtain ⟨a, b, rfl⟩ := len2 hl; rw [hr rfl]; rfl
  · obtain ⟨a, rfl⟩ := len1 hl; rw [hr rfl]; rfl
theorem callOf_nat {l : List Nat} (h : ∀ n ∈ l, n < 2 ^ 32) : Rh08Neutral.callOf (ofN l) = Rh08Neutral.callIn l := by
  unfold Rh08Neutral.callOf
  have e1 : (ofN l).all Rh08Neutral.nat = true := by
    rw [List.all_eq_true]
    intro z hz
    obtain ⟨n, hn, rfl⟩ := List.mem_map.mp hz
    have := h n hn
    unfold Rh08Neutral.nat
    rw [Bool.and_eq_true, decide_eq_true_eq, decide_eq_true_eq]
    omega
  have e2 : (ofN l).map Int.toNat = l := by
    unfold ofN
    rw [List.map_map]
    have : (Int.toNat ∘ fun (n : Nat) => (n : Int)) = id := by
      funext n
      simp
    rw [this, List.map_id]
  rw [e1, e2]
  rfl
theorem callIn_eq {p : Nat} {plain row : List Nat} (hp : p ≤ 10) (hl : plain.length = cnt p) (hr : isRow p = false → row = []) : Rh08Neutral.callIn (p :: plain ++ row) = some (callN p plain row) := by
  rcases le_cases hp with e | e | e | e | e | e | e | e | e | e | e <;> subst e
  · obtain ⟨a, b, c, rfl⟩ := len3 hl; rfl
  · obtain ⟨a, rfl⟩ := len1 hl; rw [hr rfl]; rfl
  · obtain ⟨a, b, c, d, rfl⟩ := len4 hl; rw [hr rfl]; rfl
  · have : plain = [] := List.length_eq_zero_iff.mp hl
    subst this
    rfl
  · obtain ⟨a, rfl⟩ := len1 hl; rw [hr rfl]; rfl
  · obtain ⟨a, rfl⟩ := len1 hl; rw [hr rfl]; rfl
  · obtain ⟨a, rfl⟩ := len1 hl; rw [hr rfl]; rfl
  · obtain ⟨a, b, rfl⟩ := len2 hl; rw [hr rfl]; rfl
  · obtain ⟨a, rfl⟩ := len1 hl; rw [hr rfl]; rfl
  · obtain ⟨a, b, rfl⟩ := len2 hl; rw [hr rfl]; rfl
  · obtain ⟨a, rfl⟩ := len1 hl; rw [hr rfl]; rfl
theorem step_some {s : Desk} {c : List Int} {x : Call} (h : Rh08Neutral.callOf c = some x) : Rh08Neutral.step s c = step s x := by
  unfold Rh08Neutral.step
  rw [h]
theorem callOf_raw {p : Nat} {plain row : List Nat} (hp : p ≤ 10) (hl : plain.length = cnt p) (hr : isRow p = false → row = []) (hb : ∀ n ∈ p :: plain ++ row, n < 2 ^ 32) : Rh08Neutral.callOf ((PyRh08.whole (rawOf p plain row)).headD []) = some (callN p plain row) := by
  have e := callOf_nat hb
  rw [callIn_eq hp hl hr] at e
  rw [whole_raw hp hl hr]
  exact e
theorem step_raw {s : Desk} {p : Nat} {plain row : List Nat} (hp : p ≤ 10) (hl : plain.length = cnt p) (hr : isRow p = false → row = []) (hb : ∀ n ∈ p :: plain ++ row, n < 2 ^ 32) :
    Rh08Neutral.step s ((PyRh08.whole (rawOf p plain row)).headD []) = step s (callN p plain row) := step_some (callOf_raw hp hl hr hb)
theorem played_cons (s : Desk) (c : List (List Int)) (r : List (List (List Int))) : PyFlat.played (fun s c => Rh08Neutral.step s (c.headD [])) s (c :: r) = (Rh08Neutral.step s (c.headD [])).2 :: PyFlat.played (fun s c => Rh08Neutral.step s (c.headD [])) (Rh08Neutral.step s (c.headD [])).1 r := rfl
/-- rows are short -/
theorem row_bound {p : Nat} {plain row : List Nat} (hp : p ≤ 10) (h : PyInside.call PyRh08.bound (rawOf p plain row) = true) (hr : isRow p = true) : row.length ≤ 30 := by
  unfold isRow at hr
  rw [Bool.or_eq_true, beq_iff_eq, beq_iff_eq] at hr
  rcases hr with e | e
  · subst e
    have h' : (PyInside.each [(0, 4294967295), (0, 4294967295), (0, 4294967295)] (ofN plain) && PyInside.lists [(0, 4294967295, 0, 30)] [ofN row]) = true := h
    rw [Bool.and_eq_true] at h'
    have h2 : (decide (0 ≤ (ofN row).length) && decide ((ofN row).length ≤ 30) && (ofN row).all (PyInside.within 0 4294967295) && PyInside.lists [] []) = true := h'.2
    rw [Bool.and_eq_true, Bool.and_eq_true, Bool.and_eq_true, decide_eq_true_eq, decide_eq_true_eq, ofN_len] at h2
    exact h2.1.1.2
  · subst e
    have h' : (PyInside.each [] (ofN plain) && PyInside.lists [(0, 4294967295, 0, 12)] [ofN row]) = true := h
    rw [Bool.and_eq_true] at h'
    have h2 : (decide (0 ≤ (ofN row).length) && decide ((ofN row).length ≤ 12) && (ofN row).all (PyInside.within 0 4294967295) && PyInside.lists [] []) = true := h'.2
    rw [Bool.and_eq_true, Bool.and_eq_true, Bool.and_eq_true, decide_eq_true_eq, decide_eq_true_eq, ofN_len] at h2
    omega
/-- what is still to be told, from a state and the calls to come -/
def rest (s : Desk) (cs : List (List (List Int))) : List Int := PyFlat.told (PyFlat.played (fun s c => Rh08Neutral.step s (c.headD [])) s (cs.map PyRh08.whole))
theorem rest_cons {s : Desk} {p : Nat} {plain row : List Nat} {cs : List (List (List Int))} (hp : p ≤ 10) (hl : plain.length = cnt p) (hr : isRow p = false → row = []) (hb : ∀ n ∈ p :: plain ++ row, n < 2 ^ 32) :
    rest s (rawOf p plain row :: cs) = (((step s (callN p plain row)).2.length : Int) :: (step s (callN p plain row)).2) ++ rest (step s (callN p plain row)).1 cs := by
  unfold rest
  rw [List.map_cons, played_cons, step_raw hp hl hr hb]
  unfold PyFlat.told
  rw [List.flatMap_cons]
/-- between two calls: i the place, s the state, g what is told -/
structure Between (ns : List Nat) (i : Nat) (s : Desk) (g : List Int) : Prop where
  ex : ∃ f cs, PyFlat.calls PyRh08.shape f (ofN (ns.drop i)) = some cs ∧ PyRh08.answers (ofN ns) = g ++ rest s cs ∧ PyInside.calls PyRh08.bound cs = true
  ok : Ok s
  le : i ≤ ns.length
theorem between_start {ns : List Nat} (h : PyRh08.answers_asked (ofN ns) = true) : Between ns 0 init [] := by
  unfold PyRh08.answers_asked at h
  cases e : PyFlat.calls PyRh08.shape (ofN ns).length (ofN ns) with
  | none => rw [e] at h; cases h
  | some raw =>
    rw [e] at h
    simp only [Bool.and_eq_true] at h
    refine ⟨⟨(ofN ns).length, raw, e, ?_, h.1.1.2⟩, init_ok, Nat.zero_le _⟩
    show PyRh08.answers (ofN ns) = rest init raw
    unfold PyRh08.answers PyRh08.calls
    rw [e]
    rfl
theorem between_turn {ns : List Nat} {i : Nat} {s : Desk} {g : List Int} (B : Between ns i s g) (hi : i < ns.length) (hb : ∀ n ∈ ns, n < 2 ^ 32) :
    ∃ (p : Nat) (plain row : List Nat), p ≤ 10 ∧ ns[i]? = some p ∧ plain = (ns.drop (i + 1)).take (cnt p) ∧ plain.length = cnt p ∧
      (isRow p = true → ns[i + 1 + cnt p]? = some row.length ∧ row = (ns.drop (i + 1 + cnt p + 1)).take row.length ∧ row.length ≤ 30) ∧ (isRow p = false → row = []) ∧ nxt i p row ≤ ns.length ∧
      Between ns (nxt i p row) (step s (callN p plain row)).1 (g ++ (((step s (callN p plain row)).2.length : Int) :: (step s (callN p plain row)).2)) := by
  obtain ⟨f, cs, h1, h2, h3⟩ := B.ex
  obtain ⟨p, plain, row, cs', f', hp, e1, e2, e3, e4, e5, e6, e7, e8⟩ := turn_of h1 hi
  subst e7
  rw [PyInside.calls, List.all_cons, Bool.and_eq_true] at h3
  have hbb : ∀ n ∈ p :: plain ++ row, n < 2 ^ 32 := by
    intro n hn
    rcases List.mem_append.mp hn with q | q
    · rcases List.mem_cons.mp q with q | q
      · rw [q]; exact hb p (List.mem_of_getElem? e1)
      · rw [e2] at q
        exact hb n (List.mem_of_mem_drop (List.mem_of_mem_take q))
    · by_cases c : isRow p = true
      · rw [(e4 c).2] at q
        exact hb n (List.mem_of_mem_drop (List.mem_of_mem_take q))
      · rw [e5 (Bool.not_eq_true _ |>.mp c)] at q
        cases q
  refine ⟨p, plain, row, hp, e1, e2, e3, fun c => ⟨(e4 c).1, (e4 c).2, row_bound hp h3.1 c⟩, e5, e6, ⟨f', cs', e8, ?_, h3.2⟩, step_ok B.ok _, e6⟩
  rw [h2, rest_cons hp e3 e5 hbb, List.append_assoc]
theorem between_end {ns : List Nat} {s : Desk} {g : List Int} (B : Between ns ns.length s g) : PyRh08.answers (ofN ns) = g := by
  obtain ⟨f, cs, h1, h2, h3⟩ := B.ex
  rw [List.drop_length] at h1
  have : cs = [] := by
    cases f <;> exact (Option.some.inj h1).symm
  subst this
  rw [h2]
  exact List.append_nil _
theorem between_len {ns : List Nat} {i : Nat} {s : Desk} {g : List Int} (B : Between ns i s g) (h : PyRh08.answers_asked (ofN ns) = true) : g.length ≤ 10000000 := by
  obtain ⟨f, cs, h1, h2, h3⟩ := B.ex
  have : (PyRh08.answers (ofN ns)).length ≤ 10000000 := by
    unfold PyRh08.answers_asked at h
    split at h
    · cases h
    · simp only [Bool.and_eq_true] at h
      exact of_decide_eq_true h.2
  rw [h2, List.length_append] at this
  omega
end Mk
set_option Elab.async false
set_option linter.unusedVariables false
set_option maxRecDepth 100000
/-! The calls of the second stage, in the program's fractions. -/
namespace Mk
open Rh08
/-- in lowest terms -/
def lowest (x : Fr) : List Int := [x.1 / (Int.gcd x.1 x.2 : Int), x.2 / (Int.gcd x.1 x.2 : Int)]
theorem frac_eq {x : Fr} (h : 0 < x.2) : fraction (val x) = lowest x := by
  unfold fraction lowest val
  rw [Rat.num_divInt, Rat.den_divInt, if_neg (by omega), Int.gcd_comm x.2 x.1, Int.sign_eq_one_of_pos h, Int.one_mul]
  congr 1
  congr 1
  rw [Int.natCast_ediv, Int.natAbs_of_nonneg (by omega)]
section
variable {s : Desk}
theorem rankedIn_eq (O : Ok s) : rankedIn s = (rankF s.tune s.texts).map vv := (rank_eq O.u O.t).symm
theorem step_why (O : Ok s) {k : Nat} {t : Text} (h : get s k = some t) : step s (.why k) = (s, s.tune.ask.flatMap fun x =>
    [(often x.1 t.head : Int), (often x.1 t.body : Int), (having s.texts x.1 : Int)] ++ (lowest (rareF s.texts x.1) ++ (lowest (densityF s.tune s.texts x.1 t) ++ lowest (fullF s.tune (densityF s.tune s.texts x.1 t))))) := by
  obtain ⟨ht, _⟩ := get_some h
  unfold step
  dsimp only
  rw [h]
  dsimp only
  congr 1
  have key : ∀ (a : List (Nat × Nat)), (∀ x ∈ a, x ∈ s.tune.ask) → (a.flatMap fun x => [(often x.1 t.head : Int), (often x.1 t.body : Int), (havingOf (cs s) x.1 : Int)] ++ (fraction (rare (cs s) x.1) ++ (fraction (density s.tune (cs s) x.1 t) ++ fraction (full s.tune (density s.tune (cs s) x.1 t))))) =
      a.flatMap fun x => [(often x.1 t.head : Int), (often x.1 t.body : Int), (having s.texts x.1 : Int)] ++ (lowest (rareF s.texts x.1) ++ (lowest (densityF s.tune s.texts x.1 t) ++ lowest (fullF s.tune (densityF s.tune s.texts x.1 t)))) := by
    intro a
    induction a with
    | nil => intro _; rfl
    | cons x a ih =>
      intro hx
      have mx := hx x (.head _)
      have mw : x.1 ∈ s.tune.ask.map (·.1) := List.mem_map_of_mem mx
      have gd := Gd_density O.u O.t ht x.1
      rw [List.flatMap_cons, List.flatMap_cons, ih fun y hy => hx y (.tail _ hy)]
      have e1 : havingOf (cs s) x.1 = having s.texts x.1 := having_counts mw
      have e2 : fraction (rare (cs s) x.1) = lowest (rareF s.texts x.1) := by
        rw [← frac_eq (Gd_rare O.t x.1).d0, val_rare (u := s.tune) mw]
        rfl
      have e3 : fraction (density s.tune (cs s) x.1 t) = lowest (densityF s.tune s.texts x.1 t) := by
        rw [← frac_eq gd.d0, val_density O.u O.t ht]
        rfl
      have e4 : fraction (full s.tune (density s.tune (cs s) x.1 t)) = lowest (fullF s.tune (densityF s.tune s.texts x.1 t)) := by
        rw [← frac_eq (Gd_full O.u gd).d0, val_full O.u gd, val_density O.u O.t ht]
        rfl
      rw [e1, e2, e3, e4]
  exact key s.tune.ask fun _ z => z
theorem step_parts (O : Ok s) {k : Nat} {t : Text} (h : get s k = some t) : step s (.parts k) = (s, (s.tune.ask.length : Int) :: s.tune.ask.map fun x => showF (givesF s.tune s.texts x t)) := by
  obtain ⟨ht, _⟩ := get_some h
  unfold step
  dsimp only
  rw [h]
  dsimp only
  congr 2
  refine List.map_congr_left fun x hx => ?_
  rw [show_eq (Gd_gives O.u O.t ht hx), val_gives O.u O.t ht hx]
  rfl
theorem step_versus (O : Ok s) {i j : Nat} {t v : Text} (h : get s i = some t) (g : get s j = some v) :
    step s (.versus i j) = (s, [if greater (markF s.tune s.texts t) (markF s.tune s.texts v) = true then 1 else if greater (markF s.tune s.texts v) (markF s.tune s.texts t) = true then 2 else 0]) := by
  obtain ⟨ht, _⟩ := get_some h
  obtain ⟨hv, _⟩ := get_some g
  have gt := Gd_mark O.u O.t ht
  have gv := Gd_mark O.u O.t hv
  have e1 := greater_iff gt.d0 gv.d0
  have e2 := greater_iff gv.d0 gt.d0
  rw [val_mark O.u O.t ht, val_mark O.u O.t hv] at e1 e2
  have ec : counts s.tune s.texts = cs s := rfl
  rw [ec] at e1 e2
  unfold step
  dsimp only
  rw [h, g]
  dsimp only
  congr 1
  show Rh08.ints [_] = _
  unfold Rh08.ints
  rw [List.map_cons, List.map_nil]
  congr 1
  by_cases c1 : greater (markF s.tune s.texts t) (markF s.tune s.texts v) = true
  · rw [if_pos c1, if_pos (e1.mp c1)]
    rfl
  · rw [if_neg c1, if_neg fun z => c1 (e1.mpr z)]
    by_cases c2 : greater (markF s.tune s.texts v) (markF s.tune s.texts t) = true
    · rw [if_pos c2, if_pos (e2.mp c2)]
      rfl
    · rw [if_neg c2, if_neg fun z => c2 (e2.mpr z)]
      rfl
theorem step_versus_no {i j : Nat} (h : get s i = none ∨ get s j = none) : step s (.versus i j) = (s, [-3]) := by
  unfold step
  dsimp only
  rcases h with h | h
  · rw [h]
  · rw [h]
    cases get s i <;> rfl
/-- the place among the ranked, if there -/
theorem step_place (O : Ok s) (k : Nat) : step s (.place k) = (s, if ((rankF s.tune s.texts).any fun x => x.1 == k) = false then [-3] else [((((rankF s.tune s.texts).takeWhile fun x => x.1 != k).length + 1 : Nat) : Int)]) := by
  unfold step
  dsimp only
  have e1 : ((rankedIn s).any fun x => x.1 == k) = (rankF s.tune s.texts).any fun x => x.1 == k := by
    rw [rankedIn_eq O, List.any_map]
    rfl
  rw [e1]
  congr 1
  split
  · rfl
  · unfold placeOf
    rw [← rank_eq O.u O.t, List.takeWhile_map, List.length_map]
    rfl
theorem changed_len (u : Tune) (w : Nat) : ∀ (n : Nat) (l : List Nat), (changed u w n l).length = l.length
  | 0, l => by unfold changed; rfl
  | n + 1, [] => by unfold changed; rfl
  | n + 1, x :: l => by
    unfold changed
    split
    · rw [List.length_cons, changed_len u w (n + 1) l, List.length_cons]
    · rw [List.length_cons, changed_len u w n l, List.length_cons]
theorem changed_mem {u : Tune} {w y : Nat} : ∀ (n : Nat) (l : List Nat), y ∈ changed u w n l → y = w ∨ y ∈ l
  | 0, l, h => by
    unfold changed at h
    exact .inr h
  | n + 1, [], h => by
    unfold changed at h
    exact .inr h
  | n + 1, x :: l, h => by
    unfold changed at h
    split at h
    · rcases List.mem_cons.mp h with q | q
      · exact .inr (by rw [q]; exact .head _)
      · rcases changed_mem (n + 1) l q with z | z
        · exact .inl z
        · exact .inr (.tail _ z)
    · rcases List.mem_cons.mp h with q | q
      · exact .inl q
      · rcases changed_mem n l q with z | z
        · exact .inl z
        · exact .inr (.tail _ z)
theorem withWords_ok (O : Ok s) {t : Text} (ht : t ∈ s.texts) {w : Nat} (hw : 1 ≤ w ∧ w ≤ 30) (n : Nat) : TextsOk (withWords s.tune s.texts t w n) := by
  have o := O.t.ok t ht
  have ot : TextOk { t with body := changed s.tune w n t.body } := ⟨o.k0, o.k1, o.p, o.h, by show (changed _ _ _ _).length ≤ 12; rw [changed_len]; exact o.b, o.hw, fun y hy => by
    rcases changed_mem n t.body hy with q | q
    · rw [q]; exact hw
    · exact o.bw y q⟩
  refine ⟨fun x hx => ?_, ?_⟩
  · obtain ⟨y, hy, rfl⟩ := List.mem_map.mp hx
    by_cases c : y.key = t.key
    · rw [if_pos (show y.key = ({ t with body := changed s.tune w n t.body } : Text).key from c)]
      exact ot
    · rw [if_neg (show ¬ y.key = ({ t with body := changed s.tune w n t.body } : Text).key from c)]
      exact O.t.ok y hy
  · unfold withWords swapped
    rw [List.pairwise_map]
    refine O.t.asc.imp fun {x y} h => ?_
    have k : ∀ z : Text, (if z.key = ({ t with body := changed s.tune w n t.body } : Text).key then ({ t with body := changed s.tune w n t.body } : Text) else z).key = z.key := fun z => by
      split
      · rename_i c
        exact c.symm
      · rfl
    rw [k, k]
    exact h
/-- how many words of a body aren't asked -/
def unasked (u : Tune) (l : List Nat) : Nat := (l.filter fun x => !u.ask.any fun y => y.1 == x).length
def isFirst (u : Tune) (l : List Text) (k : Nat) : Bool := (rankF u l).head?.map (fun x => x.1) == some k
theorem lift_eq (O : Ok s) {t : Text} (ht : t ∈ s.texts) {w : Nat} (hw : 1 ≤ w ∧ w ≤ 30) : lift s.tune s.texts t w = (List.range (unasked s.tune t.body + 1)).find? fun n => isFirst s.tune (withWords s.tune s.texts t w n) t.key := by
  unfold lift
  have e1 : (List.range (t.body.length + 1)).filter (fun n => decide (n ≤ (t.body.filter fun x => !s.tune.ask.any fun y => y.1 == x).length)) = List.range (unasked s.tune t.body + 1) := by
    have hle : unasked s.tune t.body ≤ t.body.length := List.length_filter_le _ _
    show (List.range (t.body.length + 1)).filter (fun n => decide (n ≤ unasked s.tune t.body)) = _
    generalize unasked s.tune t.body = m at hle
    obtain ⟨d, hd⟩ : ∃ d, t.body.length + 1 = m + 1 + d := ⟨t.body.length - m, by omega⟩
    rw [hd, List.range_add, List.filter_append, List.filter_eq_self.mpr (fun n hn => by
      have := List.mem_range.mp hn
      simp; omega), List.filter_eq_nil_iff.mpr (fun n hn => by
      obtain ⟨y, hy, rfl⟩ := List.mem_map.mp hn
      simp; omega), List.append_nil]
  rw [e1]
  congr 1
  funext n
  unfold isFirst
  rw [← rank_eq O.u (withWords_ok O ht hw n), List.head?_map, Option.map_map]
  rfl
end
end Mk
set_option Elab.async false
set_option linter.unusedVariables false
set_option maxRecDepth 100000
/-! What the second stage's loops need. -/
namespace Mk
open Rh08
theorem gcd_turn {x y : Int} (hx : 0 ≤ x) (hy : 0 < y) : Int.gcd y (x % y) = Int.gcd x y := by
  obtain ⟨a, rfl⟩ := Int.eq_ofNat_of_zero_le hx
  obtain ⟨b, rfl⟩ := Int.eq_ofNat_of_zero_le (Int.le_of_lt hy)
  show Nat.gcd b (((a : Int) % (b : Int)).natAbs) = Nat.gcd a b
  have e : ((a : Int) % (b : Int)).natAbs = a % b := by
    rw [← Int.natCast_emod, Int.natAbs_natCast]
  rw [e, Nat.gcd_comm b, Nat.gcd_comm a b, ← Nat.gcd_rec]
theorem gcd_end {x : Int} (hx : 0 ≤ x) : ((Int.gcd x 0 : Nat) : Int) = x := by
  rw [Int.gcd_zero_right]
  omega
theorem low_div {k : Nat} {x : Fr} (h : Gd k x) : 0 < (Int.gcd x.1 x.2 : Int) ∧ ((Int.gcd x.1 x.2 : Nat) : Int).natAbs < 2 ^ k := by
  have d0 := h.d0
  have d1 := h.d1
  have p : 0 < Int.gcd x.1 x.2 := Int.gcd_pos_of_ne_zero_right _ (by omega)
  have q : Int.gcd x.1 x.2 ≤ x.2.natAbs := Nat.le_of_dvd (by omega) (Nat.gcd_dvd_right _ _)
  have c : ((2 : Int) ^ k) = ((2 ^ k : Nat) : Int) := by push_cast; rfl
  rw [c] at d1
  exact ⟨by omega, by omega⟩
/-- the word is asked -/
def asks (u : Tune) (w : Nat) : Bool := u.ask.any fun y => y.1 == w
theorem asks_words (u : Tune) (w : Nat) : (u.ask.map (·.1)).contains w = asks u w := by
  unfold asks
  induction u.ask with
  | nil => rfl
  | cons x a ih =>
    rw [List.map_cons, List.contains_cons, List.any_cons, ih]
    congr 1
    rw [Bool.eq_iff_iff]
    simp only [beq_iff_eq]
    exact eq_comm
theorem unasked_eq (u : Tune) (l : List Nat) : unasked u l = (l.filter fun x => !asks u x).length := rfl
theorem changed_nil (u : Tune) (w n : Nat) : changed u w n [] = [] := by
  cases n <;> (unfold changed; rfl)
theorem changed_none (u : Tune) (w : Nat) (l : List Nat) : changed u w 0 l = l := by
  unfold changed
  rfl
theorem changed_asked {u : Tune} {w x : Nat} (n : Nat) (l : List Nat) (h : asks u x = true) : changed u w n (x :: l) = x :: changed u w n l := by
  cases n with
  | zero => rw [changed_none, changed_none]
  | succ n =>
    conv => lhs; unfold changed
    exact if_pos h
theorem changed_other {u : Tune} {w x : Nat} (n : Nat) (l : List Nat) (h : ¬ asks u x = true) : changed u w (n + 1) (x :: l) = w :: changed u w n l := by
  conv => lhs; unfold changed
  exact if_neg h
theorem find_first {p : Nat → Bool} {n m : Nat} (hm : m < n) (h : ∀ i, i < m → p i = false) (hp : p m = true) : (List.range n).find? p = some m := by
  rw [List.find?_range_eq_some]
  exact ⟨hp, List.mem_range.mpr hm, fun j hj => by rw [h j hj]; rfl⟩
theorem find_never {p : Nat → Bool} {n : Nat} (h : ∀ i, i < n → p i = false) : (List.range n).find? p = none := by
  rw [List.find?_eq_none]
  intro x hx
  rw [h x (List.mem_range.mp hx)]
  exact Bool.false_ne_true
theorem isFirst_nil {u : Tune} {l : List Text} {k : Nat} (h : rankF u l = []) : isFirst u l k = false := by
  unfold isFirst
  rw [h]
  rfl
theorem isFirst_cons {u : Tune} {l : List Text} {k : Nat} {x : KF} {r : List KF} (h : rankF u l = x :: r) : isFirst u l k = decide ((x.1 : Int) = (k : Int)) := by
  unfold isFirst
  rw [h]
  show ((some x.1 : Option Nat) == some k) = _
  rw [Bool.eq_iff_iff, decide_eq_true_eq, beq_iff_eq]
  constructor
  · intro z
    have := Option.some.inj z
    omega
  · intro z
    have : x.1 = k := by omega
    rw [this]
theorem place_at {k : Nat} : ∀ {r : List KF}, (r.any fun x => x.1 == k) = true → ∃ y, r[(r.takeWhile fun x => x.1 != k).length]? = some y ∧ y.1 = k ∧ ∀ m, m < (r.takeWhile fun x => x.1 != k).length → ∀ z, r[m]? = some z → z.1 ≠ k
  | [], h => by cases h
  | x :: r, h => by
    by_cases c : x.1 = k
    · have e : (List.takeWhile (fun x => x.1 != k) (x :: r)) = [] := by
        rw [List.takeWhile_cons, if_neg (by simp [c])]
      rw [e]
      exact ⟨x, rfl, c, fun m hm => absurd hm (Nat.not_lt_zero m)⟩
    · have e : (List.takeWhile (fun x => x.1 != k) (x :: r)) = x :: r.takeWhile fun x => x.1 != k := by
        rw [List.takeWhile_cons, if_pos (by simpa using c)]
      rw [List.any_cons] at h
      have h' : (r.any fun x => x.1 == k) = true := by
        have : (x.1 == k) = false := by simpa using c
        rw [this, Bool.false_or] at h
        exact h
      obtain ⟨y, h1, h2, h3⟩ := place_at h'
      rw [e, List.length_cons]
      refine ⟨y, h1, h2, fun m hm z hz => ?_⟩
      cases m with
      | zero =>
        have := Option.some.inj hz
        rw [← this]
        exact c
      | succ m => exact h3 m (by omega) z hz
section
variable {s : Desk}
theorem step_why_no {k : Nat} (h : get s k = none) : step s (.why k) = (s, [-3]) := by
  unfold step
  dsimp only
  rw [h]
theorem step_parts_no {k : Nat} (h : get s k = none) : step s (.parts k) = (s, [-3]) := by
  unfold step
  dsimp only
  rw [h]
theorem step_lift_no {k w : Nat} (h : get s k = none) : step s (.lift k w) = (s, [-3]) := by
  unfold step
  dsimp only
  rw [h]
theorem step_lift_unasked {k w : Nat} {t : Text} (h : get s k = some t) (a : ¬ asks s.tune w = true) : step s (.lift k w) = (s, [-2]) := by
  unfold step
  dsimp only
  rw [h]
  dsimp only
  rw [if_pos (show (s.tune.ask.any fun x => x.1 == w) = false from Bool.not_eq_true _ |>.mp a)]
theorem asks_word (O : Ok s) {w : Nat} (a : asks s.tune w = true) : 1 ≤ w ∧ w ≤ 30 := by
  unfold asks at a
  obtain ⟨x, hx, e⟩ := List.any_eq_true.mp a
  have := O.u.w x hx
  have e' : x.1 = w := by simpa using e
  omega
/-- first with so many words changed -/
def firstWith (s : Desk) (t : Text) (w n : Nat) : Bool := isFirst s.tune (withWords s.tune s.texts t w n) t.key
theorem step_lift_some (O : Ok s) {k w n : Nat} {t : Text} (h : get s k = some t) (a : asks s.tune w = true) (hn : n < unasked s.tune t.body + 1) (h0 : ∀ i, i < n → firstWith s t w i = false) (h1 : firstWith s t w n = true) : step s (.lift k w) = (s, [(n : Int)]) := by
  obtain ⟨ht, _⟩ := get_some h
  unfold step
  dsimp only
  rw [h]
  dsimp only
  rw [if_neg (show ¬ (s.tune.ask.any fun x => x.1 == w) = false by rw [show (s.tune.ask.any fun x => x.1 == w) = true from a]; simp), lift_eq O ht (asks_word O a), show (List.range (unasked s.tune t.body + 1)).find? (fun n => isFirst s.tune (withWords s.tune s.texts t w n) t.key) = some n from find_first (p := firstWith s t w) hn h0 h1]
  rfl
theorem step_lift_none (O : Ok s) {k w : Nat} {t : Text} (h : get s k = some t) (a : asks s.tune w = true) (h0 : ∀ i, i < unasked s.tune t.body + 1 → firstWith s t w i = false) : step s (.lift k w) = (s, [-6]) := by
  obtain ⟨ht, _⟩ := get_some h
  unfold step
  dsimp only
  rw [h]
  dsimp only
  rw [if_neg (show ¬ (s.tune.ask.any fun x => x.1 == w) = false by rw [show (s.tune.ask.any fun x => x.1 == w) = true from a]; simp), lift_eq O ht (asks_word O a), show (List.range (unasked s.tune t.body + 1)).find? (fun n => isFirst s.tune (withWords s.tune s.texts t w n) t.key) = none from find_never (p := firstWith s t w) h0]
theorem with_ok (O : Ok s) {t : Text} (ht : t ∈ s.texts) {w : Nat} (a : asks s.tune w = true) (n : Nat) : Ok { s with texts := swapped s.texts { t with body := changed s.tune w n t.body } } := ⟨O.u, withWords_ok O ht (asks_word O a) n⟩
end
end Mk
set_option Elab.async false
set_option maxRecDepth 100000
set_option maxHeartbeats 5000000
/-! Rules that the layer lacks: a slice with a step, len(set(..)) of any ints. -/
namespace Mk
open PySem PySem.Spec PyProof.Rows L2
/-- every other one, from the first -/
def evens {α : Type} : List α → List α
  | [] => []
  | [x] => [x]
  | x :: _ :: r => x :: evens r
theorem evens_pick {α : Type} : ∀ l : List α, (List.range ((l.length + 1) / 2)).filterMap (fun k => l[2 * k]?) = evens l
  | [] => by simp [evens]
  | [x] => by simp [evens, List.range_succ]
  | x :: y :: r => by
    have e : ((x :: y :: r).length + 1) / 2 = (r.length + 1) / 2 + 1 := by simp only [List.length_cons]; omega
    rw [e, List.range_succ_eq_map, List.filterMap_cons, List.filterMap_map]
    show x :: _ = x :: evens r
    congr 1
    rw [← evens_pick r]
    congr 1
theorem evens_vals : ∀ {xs : List V} {us : List Value}, Vals xs us → Vals (evens xs) (evens us)
  | _, _, .nil => .nil
  | _, _, .cons r .nil => .cons r .nil
  | _, _, .cons r (.cons _ t) => .cons r (evens_vals t)
theorem pick_evens (us : List Value) : (slicePick us.toArray none none (some 2)).toList = evens us := by
  rw [← evens_pick us]
  unfold slicePick sliceBounds sliceRange
  simp only [Option.getD_some, List.size_toArray]
  rw [List.filterMap_map]
  have e : (if (2 : Int) > 0 then if (0 : Int) < (us.length : Int) then ((us.length : Int) - 0 + 2 - 1) / 2 else 0 else if (0 : Int) > (us.length : Int) then (0 - (us.length : Int) - 2 - 1) / (-2) else 0).toNat = (us.length + 1) / 2 := by
    rw [if_pos (by decide)]
    split <;> omega
  simp only [show (2 : Int) > 0 from by decide, if_true] at e ⊢
  rw [e]
  congr 1
  funext k
  show us.toArray[(0 + 2 * (k : Int)).toNat]? = us[2 * k]?
  have : (0 + 2 * (k : Int)).toNat = 2 * k := by omega
  rw [this]
  simp
theorem pick_odds (us : List Value) : (slicePick us.toArray (some 1) none (some 2)).toList = evens (us.drop 1) := by
  cases us with
  | nil => rfl
  | cons u us =>
    rw [List.drop_succ_cons, List.drop_zero, ← evens_pick us]
    unfold slicePick sliceBounds sliceRange
    simp only [Option.getD_some, List.size_toArray, show (2 : Int) > 0 from by decide, if_true, List.length_cons, show ¬ (1 : Int) < 0 from by decide, if_false]
    have a1 : max (0 : Int) (min 1 ((us.length + 1 : Nat) : Int)) = 1 := by omega
    rw [a1, List.filterMap_map]
    have e : (if (1 : Int) < ((us.length + 1 : Nat) : Int) then (((us.length + 1 : Nat) : Int) - 1 + 2 - 1) / 2 else 0).toNat = (us.length + 1) / 2 := by
      split <;> omega
    rw [e]
    congr 1
    funext k
    show (u :: us).toArray[(1 + 2 * (k : Int)).toNat]? = us[2 * k]?
    have : (1 + 2 * (k : Int)).toNat = 2 * k + 1 := by omega
    rw [this]
    simp
theorem evens_len {α : Type} : ∀ l : List α, (evens l).length ≤ l.length
  | [] => Nat.le_refl _
  | [_] => Nat.le_refl _
  | x :: y :: r => by
    have := evens_len r
    show (evens r).length + 1 ≤ r.length + 1 + 1
    omega
section
variable {X : Cx} {e : Expr} {te : TE} {lo hi : Option Expr} {est : Expr} {tl th tk : TO} {pos p2 : Pos}
/-- xs[::2], xs[1::2] -/
def tSl3 (K : PySem.W.Frag) (te : TE) (tl th tk : TO) : TE := fun σ H Q => te σ H fun x H1 => tl σ H1 fun l H2 => th σ H2 fun u H3 => tk σ H3 fun k H4 =>
  ∃ a xs, x = .ref a ∧ SqL K H4 a xs ∧ u = none ∧ k = some 2 ∧ (l = none ∨ l = some 1) ∧ ∀ p, H4 p = none → Q (.ref p) (upd H4 p (.lst (evens (if l = none then xs else xs.drop 1))))
theorem pe_slice3 (pa : PE X e te) (pl : PO X lo tl) (pu : PO X hi th) (pk : PO X (some est) tk) : PE X (.Subscript e (.Slice lo hi (some est) p2) pos) (tSl3 X.K te tl th tk) := by
  constructor
  intro pins s0 σ H0 Q J0 rd
  apply Subscript_
  refine thn (pa.run pins s0 σ H0 _ J0 rd) ?_
  rintro v0 s1 ⟨x, H1, J1, rx, rd⟩
  apply wpAny_Slice
  refine thn (pl.run pins s1 σ H1 _ J1 rd) ?_
  rintro v1 s2 ⟨from_, H2, J2, p1, rd⟩
  refine thn (pu.run pins s2 σ H2 _ J2 rd) ?_
  rintro v2 s3 ⟨to_, H3, J3, p3, rd⟩
  refine thn (pk.run pins s3 σ H3 _ J3 rd) ?_
  rintro v3 s4 ⟨by_, H4, J4, p4, a, xs, rfl, hx, rfl, rfl, hlo, q⟩
  cases rx
  -- the slice's own object is new and not tracked
  have J5 : Inv X pins σ H4 { s4 with heap := s4.heap.push { cls := .type "slice", data := .fields #[v1, v2, v3] } } := J4.kept (t' := s4.toks) fun _ _ z => Heap.get?_push_of_some _ z
  obtain ⟨us, ru, pL, zL⟩ := J5.list hx
  have picked : Vals (evens (if from_ = none then xs else xs.drop 1)) (slicePick us.toArray from_ none (some 2)).toList := by
    rcases hlo with e | e <;> subst e
    · rw [if_pos rfl, pick_evens]; exact evens_vals ru
    · rw [if_neg (by simp), pick_odds]; exact evens_vals (ru.drop 1)
  have short : (evens (if from_ = none then xs else xs.drop 1)).length ≤ sizeLine := by
    refine Nat.le_trans (evens_len _) ?_
    split
    · exact zL
    · exact Nat.le_trans (by rw [List.length_drop]; exact Nat.sub_le _ _) zL
  refine tail_any (ops := [.ref a, .ref s4.heap.objs.size]) pL.isList.typeIs slot_list_getitem.lookup ?_ (by with_unfolding_all rfl)
  refine wpAny_getItem_list_slice pL.isList (Heap.IsSliceOf.new ..) p1 p3 p4 (by simp) ?_ (by rw [List.size_toArray, ← ru.length]; exact zL)
  refine ⟨.ref _, upd H4 _ (.lst _), J5.laid (t' := s4.toks) (fun _ _ z => Heap.get?_push_of_some _ z) (Nat.le_refl _) ⟨short, _, 0, picked, ?_⟩, rfl, q _ (J5.hok.fresh (Nat.le_refl _))⟩
  rw [Array.toArray_toList]
  exact Heap.get?_push_size _ rfl
end
/-! ### len(set(xs)) -/
/-- how many unlike ones -/
def unlike (ns : List Int) : Nat := (PyProof.Rows.firstMet (fun i => ns.getD i 0) ns.length).length
def tLenSet (K : PySem.W.Frag) (ta : TE) : TE := fun σ H Q => ta σ H fun x H1 => ∃ (l : Addr) (ns : List Int), x = .ref l ∧ SqL K H1 l (ns.map V.int) ∧ ns.length ≤ 4000 ∧ Q (.int (unlike ns : Nat)) H1
/-- set(..) of a list of ints, then len(..) of it: nothing that is tracked has changed -/
theorem lenset_run {X : Cx} {pins : List (Addr × Obj)} {σ : L2.St} {H : Hp} {s : Shared} {l : Addr} {ns : List Int} {Q : Value → Shared → Prop} (J : Inv X pins σ H s) (calm : X.calm = true) (hl : SqL X.K H l (ns.map V.int)) (hz : ns.length ≤ 4000)
    (k : ∀ s' v, Inv X pins σ H s' → RelV (.int (unlike ns : Nat)) v → Q v s') :
    wpAny (model X.prog X.w) X.A (call (.type "set") [.ref l]) (fun sv s1 => wpAny (model X.prog X.w) X.A (call (.builtin "len") [sv]) Q X.xe s1) X.xe s := by
  obtain ⟨us, ru, pL, _⟩ := J.list hl
  have size : us.toArray.size = ns.length := by
    have := ru.length
    rw [List.length_map] at this
    rw [List.size_toArray, this]
  have few := PyProof.Rows.firstMet_length_le (fun i => ns.getD i 0) ns.length
  refine call_set_list (J.ok.hd calm) pL.isList (by simpa using RZ.intsAre_vals ru) (by rw [size]; unfold scanBound; omega) fun h1 t1 made kept => ?_
  rw [size] at made
  obtain ⟨_, _, _, _, e1, e2, e3, _, _, _, e4, e5⟩ := made
  have J1 : Inv X pins σ H { s with heap := h1, toks := t1 } := J.kept fun b o q => kept b o (Heap.lt_size q) q
  exact call_len_set e1 e2 e3 e4 (by omega) (k _ _ (J1.tok _) ⟨_, by rw [e5]; rfl⟩)
theorem pe_lenSet {X : Cx} {a : Expr} {ta : TE} {p p2 q pos : Pos} (g1 : Gl X "len") (m1 : X.mg "len" = none) (g2 : Gl X "set") (m2 : X.mg "set" = none) (pa : PE X a ta) (calm : X.calm = true := by rfl)
    (one : starEach [a] X.env = (false, eval a X.env) :: starEach [] X.env := by rfl) : PE X (.Call (.Name "len" p) [.Call (.Name "set" p2) [a] [] q] [] pos) (tLenSet X.K ta) := by
  constructor
  intro pins s σ H Q J rd
  refine Call_ (ld_blt J g1 m1 boot_len (PyProof.Rows.callWith_builtin1 (PyProof.Rows.args_cons (Call_ (ld_blt J g2 m2 boot_set ?_)) rfl) rfl rfl))
  refine PyProof.Rows.callWith_type1 (PyProof.Rows.args_cons (thn (pa.run pins s σ H _ J rd) ?_) one) one rfl
  rintro v s1 ⟨x, H1, J1, rx, l, ns, rfl, hl, hz, rd⟩
  cases rx
  refine PyProof.Rows.args_nil (thn (lenset_run (Q := EP X pins σ Q) J1 calm hl hz fun s' v J' r => ⟨_, H1, J', r, rd⟩) fun sv s2 h => ?_)
  exact PyProof.Rows.args_nil h
theorem firstMet_sub (f : Nat → Int) : ∀ n, ∀ x ∈ PyProof.Rows.firstMet f n, ∃ i, i < n ∧ f i = x
  | 0, x, h => by cases h
  | n + 1, x, h => by
    rw [PyProof.Rows.firstMet_succ] at h
    have ih := firstMet_sub f n
    have key : x ∈ PyProof.Rows.firstMet f n ∨ x = f n := by
      unfold PyProof.Rows.step_dedup at h
      split at h
      · exact .inl h
      · rcases List.mem_append.mp h with a | a
        · exact .inl a
        · exact .inr (List.mem_singleton.mp a)
    rcases key with a | a
    · obtain ⟨i, h1, h2⟩ := ih x a
      exact ⟨i, by omega, h2⟩
    · exact ⟨n, by omega, a.symm⟩
theorem firstMet_short (f : Nat → Int) : ∀ n, (∃ i j, i < j ∧ j < n ∧ f i = f j) → (PyProof.Rows.firstMet f n).length < n
  | 0, ⟨i, j, h1, h2, _⟩ => by omega
  | n + 1, ⟨i, j, h1, h2, h3⟩ => by
    have hle := PyProof.Rows.firstMet_length_le f n
    rw [PyProof.Rows.firstMet_succ]
    unfold PyProof.Rows.step_dedup
    split
    · omega
    · rename_i c
      rw [List.length_append]
      by_cases hj : j = n
      · exfalso
        subst hj
        apply c
        rw [List.any_eq_true]
        have : ∀ m, i < m → f i ∈ PyProof.Rows.firstMet f m := by
          intro m
          induction m with
          | zero => intro h; omega
          | succ m ih =>
            intro h
            rw [PyProof.Rows.firstMet_succ]
            unfold PyProof.Rows.step_dedup
            by_cases e : i = m
            · subst e
              split
              · rename_i d
                obtain ⟨y, hy, ey⟩ := List.any_eq_true.mp d
                have : y = f i := eq_of_beq ey
                rw [← this]; exact hy
              · exact List.mem_append.mpr (.inr (List.mem_singleton.mpr rfl))
            · have := ih (by omega)
              split
              · exact this
              · exact List.mem_append.mpr (.inl this)
        exact ⟨f i, this j h1, by simp [h3]⟩
      · have := firstMet_short f n ⟨i, j, h1, by omega, h3⟩
        simp only [List.length_singleton]
        omega
theorem unlike_nodup {ns : List Int} (h : ns.Nodup) : unlike ns = ns.length := by
  unfold unlike
  rw [RZ.firstMet_nodup h ns.length (Nat.le_refl _), List.take_length]
theorem unlike_lt {ns : List Int} (h : ¬ ns.Nodup) : unlike ns < ns.length := by
  unfold unlike
  refine firstMet_short _ _ ?_
  rw [List.Nodup, List.pairwise_iff_getElem] at h
  simp only [Classical.not_forall, Classical.not_not, ne_eq] at h
  obtain ⟨i, j, hi, hj, hlt, e⟩ := h
  refine ⟨i, j, hlt, hj, ?_⟩
  rw [List.getD_eq_getElem?_getD, List.getD_eq_getElem?_getD, List.getElem?_eq_getElem hi, List.getElem?_eq_getElem hj]
  simpa using e
theorem unlike_lt_iff (ns : List Int) : unlike ns < ns.length ↔ ¬ ns.Nodup := by
  constructor
  · intro h q
    rw [unlike_nodup q] at h
    omega
  · exact unlike_lt
end Mk
set_option Elab.async false
set_option maxRecDepth 100000
set_option maxHeartbeats 5000000
/-! list(zip(xs, ys)) of two lists of one length. The list keeps each pair that the zip hands out, so that the zip makes the next one anew. -/
namespace Mk
open PySem PySem.Spec PyProof.Rows L2 PySem.W
/-- a zip whose last pair, at a, was handed out; f: this has been seen -/
abbrev ZipOut (h : Heap) (z TI TO a : Addr) (f : Bool) : Prop :=
  h.get? z = some { cls := .type "zip", dict := none, data := .fields #[rawInt a, .bool f, .bool false, .ref TI, .ref TO], slots := #[] }
section
variable {prog : Program} {w : World} {A : Around} {E : Value → Shared → Prop} {s : Shared} {z TI TO i1 i2 l1 l2 a : Addr} {f : Bool} {k : Nat} {xs ys : Array Value}
theorem stillHeld {oa : Obj} {Q : Bool → Shared → Prop} (hz : ZipOut s.heap z TI TO a f) (ha : s.heap.get? a = some oa) (K : ∀ g : Heap, ZipOut g z TI TO a true → Heap.SameBut z s.heap g → Q false { s with heap := g }) :
    wpAny (model prog w) A (Builtin.SmallTypes.ownedTupleIsFree (.ref z)) Q E s := by
  refine wpAny_bind (wpAny_field hz rfl (x := rawInt a) rfl ?_)
  have e0 : (a : Int).toNat = a := Int.toNat_natCast a
  dsimp only [rawInt]
  rw [e0]
  refine wpAny_bind (kdx_alive ha (wpAny_bind (wpAny_field hz rfl (x := .bool f) rfl ?_)))
  cases f
  · exact wpAny_bind (wpAny_setField_rec hz (by simp) fun g q r => wpAny_pure (K g q r))
  · exact wpAny_pure (K s.heap hz (Heap.SameBut.refl _ _))
/-- the next pair, or the end -/
theorem zip_held {oa : Obj} {Q : Value → Shared → Prop} (hh : A.handled = none) (D : ZipApart z TI TO i1 i2 l1 l2) (hz : ZipOut s.heap z TI TO a f) (ha : s.heap.get? a = some oa) (hT : IsPair s.heap TI (.ref i1) (.ref i2))
    (n1 : s.heap.IsListIter i1 l1 k) (n2 : s.heap.IsListIter i2 l2 k) (q1 : s.heap.IsList l1 xs) (q2 : s.heap.IsList l2 ys) (same : xs.size = ys.size)
    (item : ∀ x y, xs[k]? = some x → ys[k]? = some y → ∀ g, ZipOut g z TI TO a true → g.IsListIter i1 l1 (k + 1) → g.IsListIter i2 l2 (k + 1) → IsPair g s.heap.objs.size x y → g.objs.size = s.heap.objs.size + 1 →
      (∀ c o, c ≠ z → c ≠ i1 → c ≠ i2 → s.heap.get? c = some o → g.get? c = some o) → Q (.ref s.heap.objs.size) { s with heap := g })
    (done : xs[k]? = none → ∀ g e, (∀ c o, c ≠ z → c ≠ i1 → s.heap.get? c = some o → g.get? c = some o) → (∃ o, g.get? e = some o ∧ o.cls = .type "StopIteration") → E (.ref e) { s with heap := g }) :
    wpAny (model prog w) A (Builtin.«zip.__next__» ⟨[.ref z], []⟩) (fun r t => ∃ v, r = .done (.ret v) ∧ Q v t) E s := by
  apply wpAny_bind (m := field (.ref z) 2)
  apply wpAny_field hz rfl (x := .bool false) rfl
  apply wpAny_bind (m := field (.ref z) 3)
  apply wpAny_field hz rfl (x := .ref TI) rfl
  apply wpAny_bind (wpAny_seqItems hT rfl _)
  apply wpAny_bind (m := Builtin.SmallTypes.ownedTupleIsFree (.ref z))
  apply stillHeld hz ha
  intro g0 z0 b0
  simp only [Bool.false_eq_true, ↓reduceIte]
  rw [← Array.forIn_toList]
  simp only [List.forIn_cons, List.forIn_nil]
  refine wpAny_bind (wpAny_bind (wpAny_bind (wpAny_holding (wpAny_bind (m := Builtin.SmallTypes.nextOf (.ref i1)) ?_))))
  cases hx : xs[k]? with
  | none =>
    refine wpAny_nextOf_list_end (s := { s with heap := g0 }) hh (n1.extBut b0.extBut D.i1z) (q1.extBut b0.extBut D.l1z) hx fun g e b h => ?_
    exact done hx g e (fun c o c1 c2 q => b _ _ c2 (b0.extBut _ _ c1 q)) h
  | some x =>
    have hk : k < ys.size := by
      rw [← same]
      exact (Array.getElem?_eq_some_iff.mp hx).1
    have hy : ys[k]? = some ys[k] := Array.getElem?_eq_getElem hk
    refine wpAny_nextOf_list_item (s := { s with heap := g0 }) (n1.extBut b0.extBut D.i1z) (q1.extBut b0.extBut D.l1z) hx fun g1 m1 b1 => wpAny_pure (wpAny_pure ?_)
    replace b1 : Heap.SameBut i1 g0 g1 := b1
    refine wpAny_bind (wpAny_bind (wpAny_holding (wpAny_bind (m := Builtin.SmallTypes.nextOf (.ref i2)) ?_)))
    refine wpAny_nextOf_list_item (s := { s with heap := g1 }) ((n2.extBut b0.extBut D.i2z).extBut b1.extBut D.i12.symm) ((q2.extBut b0.extBut D.l2z).extBut b1.extBut D.l2i1) hy fun g2 m2 b2 => wpAny_pure (wpAny_pure (wpAny_pure ?_))
    replace b2 : Heap.SameBut i2 g1 g2 := b2
    have size : g2.objs.size = s.heap.objs.size := by rw [b2.1, b1.1, b0.1]
    refine wpAny_bind (m := newTuple _) (wpAny_newTuple (hsz := by show 2 ≤ sizeLine; decide) (wpAny_pure ⟨_, rfl, ?_⟩))
    have new : IsPair (g2.push { cls := .type "tuple", data := .seq #[x, ys[k]] }) s.heap.objs.size x ys[k] := by
      rw [← size]
      exact Heap.get?_push_size _ rfl
    have K := item x ys[k] hx hy _ (Heap.get?_push_of_some _ (b2.extBut _ _ D.i2z.symm (b1.extBut _ _ D.i1z.symm z0))) (Heap.IsListIter.at (m1.extBut b2.extBut D.i12) fun o e => Heap.get?_push_of_some _ e)
      (Heap.IsListIter.at m2 fun o e => Heap.get?_push_of_some _ e) new (by rw [Heap.size_push, size]) fun c o d1 d2 d3 e => Heap.get?_push_of_some _ (b2.extBut _ _ d3 (b1.extBut _ _ d2 (b0.extBut _ _ d1 e)))
    rw [← size] at K
    exact K
/-- .. by next(..) -/
theorem next_held {oa : Obj} {Q : Option Value → Shared → Prop} (hh : A.handled = none) (D : ZipApart z TI TO i1 i2 l1 l2) (hz : ZipOut s.heap z TI TO a f) (ha : s.heap.get? a = some oa) (hT : IsPair s.heap TI (.ref i1) (.ref i2))
    (n1 : s.heap.IsListIter i1 l1 k) (n2 : s.heap.IsListIter i2 l2 k) (q1 : s.heap.IsList l1 xs) (q2 : s.heap.IsList l2 ys) (same : xs.size = ys.size)
    (item : ∀ x y, xs[k]? = some x → ys[k]? = some y → ∀ g, ZipOut g z TI TO a true → g.IsListIter i1 l1 (k + 1) → g.IsListIter i2 l2 (k + 1) → IsPair g s.heap.objs.size x y → g.objs.size = s.heap.objs.size + 1 →
      (∀ c o, c ≠ z → c ≠ i1 → c ≠ i2 → s.heap.get? c = some o → g.get? c = some o) → Q (some (.ref s.heap.objs.size)) { s with heap := g })
    (done : xs[k]? = none → ∀ g, (∀ c o, c ≠ z → c ≠ i1 → s.heap.get? c = some o → g.get? c = some o) → Q none { s with heap := g }) : wpAny (model prog w) A (pyNext (.ref z)) Q E s := by
  have ty : s.TypeIs (.ref z) "zip" := ⟨_, hz, rfl⟩
  apply wpAny_bind
  apply wpAny_attempt
  apply wpAny_callSpecial?_slot (name := Str.ofString "__next__") ty PySem.F.slot_zip_next
  refine wpAny_call_entry PySem.F.slot_zip_next ty PySem.F.entry_zip_next ?_ (PySem.F.args_zip_next_1 _)
  refine zip_held (A := A.in1) hh D hz ha hT n1 n2 q1 q2 same (fun x y e1 e2 g r1 r2 r3 r4 r5 r6 => wpAny_pure (item x y e1 e2 g r1 r2 r3 r4 r5 r6)) fun e0 g e r1 ⟨o, ho, hc⟩ => ?_
  exact wpAny_bind (wpAny_isInstance (T := "StopIteration") (b := true) ⟨o, ho, hc⟩ isSubtype_stop (wpAny_pure (done e0 g r1)))
end
/-- the zip behind k items, while the list S takes them -/
structure ZSt (h : Heap) (z TI TO i1 i2 l1 l2 S : Addr) (xs ys : Array Value) (k : Nat) : Prop where
  ti : IsPair h TI (.ref i1) (.ref i2)
  to : ∃ a b, IsPair h TO a b
  e1 : h.IsListIter i1 l1 k
  e2 : h.IsListIter i2 l2 k
  q1 : h.IsList l1 xs
  q2 : h.IsList l2 ys
  st : (k = 0 ∧ IsZip h z TI TO .none) ∨ ∃ a f oa, ZipOut h z TI TO a f ∧ h.get? a = some oa ∧ a ≠ z ∧ a ≠ TO ∧ a ≠ i1 ∧ a ≠ i2 ∧ a ≠ S
/-- S is none of the zip's -/
structure SOff (z TI TO i1 i2 l1 l2 S : Addr) : Prop where
  z : S ≠ z
  TI : S ≠ TI
  TO : S ≠ TO
  i1 : S ≠ i1
  i2 : S ≠ i2
  l1 : S ≠ l1
  l2 : S ≠ l2
/-- all but the zip's own records stays -/
def Rest (z TO i1 i2 : Addr) (h g : Heap) : Prop := ∀ c o, c ≠ z → c ≠ TO → c ≠ i1 → c ≠ i2 → h.get? c = some o → g.get? c = some o
section
variable {prog : Program} {w : World} {A : Around} {E : Value → Shared → Prop} {s : Shared} {z TI TO i1 i2 l1 l2 S : Addr} {k : Nat} {xs ys : Array Value}
theorem ZSt.keep {h h' : Heap} (x : ZSt h z TI TO i1 i2 l1 l2 S xs ys k) (F : SOff z TI TO i1 i2 l1 l2 S) (hk : ∀ b o, b ≠ S → h.get? b = some o → h'.get? b = some o) : ZSt h' z TI TO i1 i2 l1 l2 S xs ys k := by
  obtain ⟨c1, ⟨u, v, c2⟩, c3, c4, c5, c6, c7⟩ := x
  refine ⟨hk _ _ F.TI.symm c1, ⟨u, v, hk _ _ F.TO.symm c2⟩, c3.at fun o e => hk _ o F.i1.symm e, c4.at fun o e => hk _ o F.i2.symm e, c5.at fun o e => hk _ o F.l1.symm e, c6.at fun o e => hk _ o F.l2.symm e, ?_⟩
  rcases c7 with ⟨e, q⟩ | ⟨a, f, oa, q, ha, n1, n2, n3, n4, n5⟩
  · exact .inl ⟨e, hk _ _ F.z.symm q⟩
  · exact .inr ⟨a, f, oa, hk _ _ F.z.symm q, hk _ _ n5 ha, n1, n2, n3, n4, n5⟩
theorem ZSt.below {h : Heap} (x : ZSt h z TI TO i1 i2 l1 l2 S xs ys k) : z < h.objs.size ∧ TO < h.objs.size ∧ i1 < h.objs.size ∧ i2 < h.objs.size := by
  obtain ⟨_, ⟨_, _, c2⟩, ⟨_, c3, _⟩, ⟨_, c4, _⟩, _, _, c7⟩ := x
  refine ⟨?_, Heap.lt_size c2, Heap.lt_size c3, Heap.lt_size c4⟩
  rcases c7 with ⟨_, q⟩ | ⟨_, _, _, q, _⟩ <;> exact Heap.lt_size q
theorem zl_next {Q : Option Value → Shared → Prop} (hh : A.handled = none) (D : ZipApart z TI TO i1 i2 l1 l2) (same : xs.size = ys.size) (Z : ZSt s.heap z TI TO i1 i2 l1 l2 S xs ys k) (hS : S < s.heap.objs.size)
    (item : ∀ x y, xs[k]? = some x → ys[k]? = some y → ∀ g, ZSt g z TI TO i1 i2 l1 l2 S xs ys (k + 1) → IsPair g s.heap.objs.size x y → g.objs.size = s.heap.objs.size + 1 → Rest z TO i1 i2 s.heap g → Q (some (.ref s.heap.objs.size)) { s with heap := g })
    (done : xs[k]? = none → ∀ g, Rest z TO i1 i2 s.heap g → Q none { s with heap := g }) : wpAny (model prog w) A (pyNext (.ref z)) Q E s := by
  obtain ⟨b1, b2, b3, b4⟩ := Z.below
  obtain ⟨c1, ⟨u, v, c2⟩, c3, c4, c5, c6, c7⟩ := Z
  rcases c7 with ⟨rfl, q⟩ | ⟨a, f, oa, q, ha, m1, m2, m3, m4, m5⟩
  · cases hx : xs[0]? with
    | none => exact wpAny_pyNext_zip_end hh D q c1 c2 c3 c4 c5 c6 (.inl hx) (done hx)
    | some x =>
      have hy : ys[0]? = some (ys[0]'(by rw [← same]; exact (Array.getElem?_eq_some_iff.mp hx).1)) := Array.getElem?_eq_getElem _
      refine wpAny_pyNext_zip_item D q c1 c2 c3 c4 c5 c6 hx hy fun g r1 r2 r3 r4 r5 r6 r7 => item _ _ hx hy g ⟨r7 _ _ D.TIz D.TITO D.TIi1 D.TIi2 c1, ⟨_, _, r2⟩, r3, r4, c5.at fun o e => r7 _ o D.l1z D.l1TO D.l1i1 D.l1i2 e, c6.at fun o e => r7 _ o D.l2z D.l2TO D.l2i1 D.l2i2 e, ?_⟩ r5 r6 r7
      exact .inr ⟨_, false, _, r1, r5, Nat.ne_of_gt b1, Nat.ne_of_gt b2, Nat.ne_of_gt b3, Nat.ne_of_gt b4, Nat.ne_of_gt hS⟩
  · refine next_held hh D q ha c1 c3 c4 c5 c6 same (fun x y e1 e2 g r1 r2 r3 r4 r5 r6 => ?_) fun e0 g r => done e0 g fun c o d1 _ d3 _ e => r c o d1 d3 e
    refine item x y e1 e2 g ⟨r6 _ _ D.TIz D.TIi1 D.TIi2 c1, ⟨u, v, r6 _ _ D.TOz D.TOi1 D.TOi2 c2⟩, r2, r3, c5.at fun o e => r6 _ o D.l1z D.l1i1 D.l1i2 e, c6.at fun o e => r6 _ o D.l2z D.l2i1 D.l2i2 e, ?_⟩ r4 r5 fun c o d1 _ d3 d4 e => r6 c o d1 d3 d4 e
    exact .inr ⟨a, true, oa, r1, r6 _ _ m1 m3 m4 ha, m1, m2, m3, m4, m5⟩
end
/-- the pairs that the list has: each lies above lo, one above another -/
structure ZG (xs ys : Array Value) (lo : Addr) (h : Heap) (as : List Addr) : Prop where
  rise : as.Pairwise (· < ·)
  above : ∀ a ∈ as, lo ≤ a ∧ a < h.objs.size
  pairs : ∀ (j : Nat) (a : Addr), as[j]? = some a → ∃ x y, xs[j]? = some x ∧ ys[j]? = some y ∧ IsPair h a x y
/-- the list S so far -/
structure Ld (h₁ h : Heap) (z TI TO i1 i2 l1 l2 S lo : Addr) (xs ys : Array Value) (i : Nat) (acc : Array Value) (c : Nat) (as : List Addr) : Prop where
  zs : ZSt h z TI TO i1 i2 l1 l2 S xs ys i
  kept : ∀ b o, b ≠ S → b ≠ z → b ≠ TO → b ≠ i1 → b ≠ i2 → h₁.get? b = some o → h.get? b = some o
  ls : h.get? S = some { cls := .type "list", dict := none, data := .seq acc c, slots := #[] }
  ac : acc.toList = as.map Value.ref
  ln : as.length = i
  gr : ZG xs ys lo h as
  sz : lo ≤ h.objs.size
/-- what the list is at the end -/
def Full (h₁ : Heap) (z TO i1 i2 S lo : Addr) (xs ys : Array Value) (K : Heap → Nat → Array Value → Nat → List Addr → Prop) : Prop :=
  ∀ h tk acc c as, (∀ b o, b ≠ S → b ≠ z → b ≠ TO → b ≠ i1 → b ≠ i2 → h₁.get? b = some o → h.get? b = some o) → h.get? S = some { cls := .type "list", dict := none, data := .seq acc c, slots := #[] } → as.length = xs.size → ZG xs ys lo h as → acc.toList = as.map Value.ref → K h tk acc c as
section
variable {prog : Program} {w : World} {A : Around} {s : Shared} {R : Result → Shared → Prop} {z TI TO i1 i2 l1 l2 S lo : Addr} {xs ys : Array Value} {h₁ : Heap}
/-- one pair more -/
theorem Ld.more {h g : Heap} {i c : Nat} {acc : Array Value} {as : List Addr} (L : Ld h₁ h z TI TO i1 i2 l1 l2 S lo xs ys i acc c as) (F : SOff z TI TO i1 i2 l1 l2 S) (low : z < lo ∧ TO < lo ∧ i1 < lo ∧ i2 < lo ∧ S < lo) {x y : Value} (hx : xs[i]? = some x) (hy : ys[i]? = some y)
    (Z : ZSt g z TI TO i1 i2 l1 l2 S xs ys (i + 1)) (new : IsPair g h.objs.size x y) (size : g.objs.size = h.objs.size + 1) (rest : Rest z TO i1 i2 h g) {u : Heap} (hu : ∀ b o, b ≠ S → g.get? b = some o → u.get? b = some o) (su : u.objs.size = g.objs.size) {c' : Nat}
    (lu : u.get? S = some { cls := .type "list", dict := none, data := .seq (acc.push (.ref h.objs.size)) c', slots := #[] }) : Ld h₁ u z TI TO i1 i2 l1 l2 S lo xs ys (i + 1) (acc.push (.ref h.objs.size)) c' (as ++ [h.objs.size]) := by
  have apart : ∀ {p a : Addr}, p < lo → lo ≤ a → a ≠ p := fun h1 h2 => Nat.ne_of_gt (Nat.lt_of_lt_of_le h1 h2)
  have hSl : S < h.objs.size := Heap.lt_size L.ls
  refine ⟨Z.keep F hu, fun b o d0 d1 d2 d3 d4 e => hu b o d0 (rest b o d1 d2 d3 d4 (L.kept b o d0 d1 d2 d3 d4 e)), lu, ?_, ?_, ⟨?_, fun a ha => ?_, fun j b hj => ?_⟩, ?_⟩
  · rw [Array.toList_push, L.ac, List.map_append, List.map_singleton]
  · rw [List.length_append, L.ln, List.length_singleton]
  · exact List.pairwise_append.mpr ⟨L.gr.rise, List.pairwise_singleton .., fun p hp q hq => by rw [List.mem_singleton.mp hq]; exact (L.gr.above p hp).2⟩
  · rw [su, size]
    rcases List.mem_append.mp ha with m | m
    · exact ⟨(L.gr.above a m).1, Nat.lt_succ_of_lt (L.gr.above a m).2⟩
    · rw [List.mem_singleton.mp m]
      exact ⟨L.sz, Nat.lt_succ_self _⟩
  · by_cases lt : j < as.length
    · rw [List.getElem?_append_left lt] at hj
      obtain ⟨x', y', e1, e2, e3⟩ := L.gr.pairs j b hj
      have ab := (L.gr.above b (List.mem_of_getElem? hj)).1
      exact ⟨x', y', e1, e2, hu b _ (apart low.2.2.2.2 ab) (rest b _ (apart low.1 ab) (apart low.2.1 ab) (apart low.2.2.1 ab) (apart low.2.2.2.1 ab) e3)⟩
    · rw [List.getElem?_append_right (Nat.le_of_not_lt lt), List.getElem?_singleton] at hj
      split at hj
      · rename_i e0
        cases hj
        have ej : j = i := by have := L.ln; omega
        exact ⟨x, y, by rw [ej]; exact hx, by rw [ej]; exact hy, hu _ _ (Nat.ne_of_gt hSl) new⟩
      · cases hj
  · rw [su, size]
    exact Nat.le_succ_of_le L.sz
theorem zl_loop (hh : A.handled = none) (D : ZipApart z TI TO i1 i2 l1 l2) (F : SOff z TI TO i1 i2 l1 l2 S) (same : xs.size = ys.size) (hn : xs.size ≤ sizeLine) (res : Value) (low : z < lo ∧ TO < lo ∧ i1 < lo ∧ i2 < lo ∧ S < lo)
    (hR : Full h₁ z TO i1 i2 S lo xs ys fun h tk _ _ _ => R (.ok (.ret res)) { s with heap := h, toks := tk }) (tk : Nat) :
    ∀ (m i : Nat) (h : Heap) (c : Nat) (acc : Array Value) (as : List Addr), xs.size - i = m → i ≤ xs.size → Ld h₁ h z TI TO i1 i2 l1 l2 S lo xs ys i acc c as →
      codeAny (model prog w) A (.builtin "list.extend.loop" ⟨[.ref S, .ref z, res], []⟩) R { s with heap := h, toks := tk } := by
  intro m
  induction m with
  | zero =>
    intro i h c acc as hm hi L
    have ei : i = xs.size := by omega
    apply codeAny_builtin PySem.F.entry_extend_loop
    rw [Around.under_plainId PySem.F.plain_extend_loop]
    refine wpAny_bind (m := pyNext (.ref z)) (zl_next (s := { s with heap := h, toks := tk }) (A := A.in1) hh D same L.zs (Heap.lt_size L.ls) (fun x y e => ?_) fun _ g rest => wpAny_pure ?_)
    · rw [Array.getElem?_eq_none (Nat.le_of_eq ei.symm)] at e
      cases e
    · have apart : ∀ {p a : Addr}, p < lo → lo ≤ a → a ≠ p := fun h1 h2 => Nat.ne_of_gt (Nat.lt_of_lt_of_le h1 h2)
      have pr : ∀ (j : Nat) (a : Addr), as[j]? = some a → ∃ x y, xs[j]? = some x ∧ ys[j]? = some y ∧ IsPair g a x y := fun j a hj => by
        obtain ⟨x, y, e1, e2, e3⟩ := L.gr.pairs j a hj
        have ab := (L.gr.above a (List.mem_of_getElem? hj)).1
        exact ⟨x, y, e1, e2, rest a _ (apart low.1 ab) (apart low.2.1 ab) (apart low.2.2.1 ab) (apart low.2.2.2.1 ab) e3⟩
      refine hR g tk acc c as (fun b o d0 d1 d2 d3 d4 e => rest b o d1 d2 d3 d4 (L.kept b o d0 d1 d2 d3 d4 e)) (rest S _ F.z F.TO F.i1 F.i2 L.ls) (by rw [L.ln, ei]) ⟨L.gr.rise, fun a ha => ?_, pr⟩ L.ac
      obtain ⟨j, hj⟩ := List.mem_iff_getElem?.mp ha
      obtain ⟨_, _, _, _, e3⟩ := pr j a hj
      exact ⟨(L.gr.above a ha).1, Heap.lt_size e3⟩
  | succ m ih =>
    intro i h c acc as hm hi L
    have lt : i < xs.size := by omega
    have sz : acc.size = i := by rw [← Array.length_toList, L.ac, List.length_map, L.ln]
    apply codeAny_builtin PySem.F.entry_extend_loop
    rw [Around.under_plainId PySem.F.plain_extend_loop]
    refine wpAny_bind (m := pyNext (.ref z)) (zl_next (s := { s with heap := h, toks := tk }) (A := A.in1) hh D same L.zs (Heap.lt_size L.ls) (fun x y hx hy g Z new size rest => ?_) fun e => ?_)
    · have lg := rest S _ F.z F.TO F.i1 F.i2 L.ls
      refine wpAny_bind (m := updateSeq S (·.push (Value.ref h.objs.size))) (wpAny_updateSeq lg rfl (wpAny_pure ⟨plainId_quiet PySem.F.plain_extend_loop _, ih (i + 1) _ _ _ _ (by omega) lt (L.more F low hx hy Z new size rest (u := g.update S (Obj.mapSeq (·.push (Value.ref h.objs.size)))) ?_ ?_ (Heap.get?_update_self _ lg rfl))⟩) ?_ ?_)
      · exact fun b o hb e => (Heap.get?_update_other _ _ (Ne.symm hb)).trans e
      · exact (Heap.SameBut.update (h := g) (a := S) (f := Obj.mapSeq (·.push (Value.ref h.objs.size)))).1
      · rw [sz]
        omega
      · show (acc.push (Value.ref h.objs.size)).size ≤ sizeLine + 1
        rw [Array.size_push, sz]
        omega
    · rw [Array.getElem?_eq_getElem lt] at e
      cases e
end
end Mk
set_option Elab.async false
set_option maxRecDepth 100000
set_option maxHeartbeats 5000000
/-! list(zip(xs, ys)): the call, and its rule over the layer. -/
namespace Mk
open PySem PySem.Spec PyProof.Rows L2 PySem.W
theorem zip_len : typeLookup (.type "zip") "__len__" = pure none := by rw [typeLookup_type, builtinLookup_eq_fast]; kernel_rfl
theorem zip_hint : typeLookup (.type "zip") "__length_hint__" = pure none := by rw [typeLookup_type, builtinLookup_eq_fast]; kernel_rfl
section
variable {prog : Program} {w : World} {A : Around} {E : Value → Shared → Prop} {s : Shared} {z TI TO i1 i2 l1 l2 S : Addr} {xs ys : Array Value}
/-- of a zip no length is known ahead -/
theorem zl_hint (ty : s.TypeIs (.ref z) "zip") {Q : Bool → Shared → Prop} (K : Q true s) : wpAny (model prog w) A (Builtin.List.listLengthHint (.ref z)) Q E s := by
  apply wpAny_bind (wpAny_specialOf ty zip_len _)
  exact wpAny_bind (m := specialOf (.ref z) "__length_hint__") (wpAny_specialOf ty zip_hint (wpAny_pure K))
/-- a list that is empty before and behind: the rest of the heap is as it was -/
theorem emptied {h : Heap} {c : Nat} (e : h.get? S = some { cls := .type "list", data := .seq #[] c }) (f : Array Value → Array Value) (hf : f #[] = #[]) :
    (∃ c', (h.update S (Obj.mapSeq f)).get? S = some { cls := .type "list", data := .seq #[] c' }) ∧ Heap.SameBut S h (h.update S (Obj.mapSeq f)) := by
  have q := Heap.get?_update_self (Obj.mapSeq f) e rfl
  simp only [Obj.mapSeq, hf] at q
  exact ⟨⟨_, q⟩, Heap.SameBut.update ..⟩
theorem zl_extend {R : Result → Shared → Prop} (hh : A.handled = none) (D : ZipApart z TI TO i1 i2 l1 l2) (F : SOff z TI TO i1 i2 l1 l2 S) (same : xs.size = ys.size) (hn : xs.size ≤ sizeLine) (res : Value) {c : Nat} (Z : ZSt s.heap z TI TO i1 i2 l1 l2 S xs ys 0) (hz : IsZip s.heap z TI TO .none)
    (lS : s.heap.get? S = some { cls := .type "list", data := .seq #[] c }) (hR : Full s.heap z TO i1 i2 S s.heap.objs.size xs ys fun h tk _ _ _ => R (.ok (.ret res)) { s with heap := h, toks := tk }) :
    wpAny (model prog w) A.in1 (Builtin.List.listExtendWith (.ref S) (.ref z) res) (fun r t => match r with | .done v => R (.ok v) t | .again k => k.quiet = true ∧ codeAny (model prog w) A k R t) (fun e t => R (.error e) t) s := by
  have ty : s.TypeIs (.ref z) "zip" := ⟨_, hz, rfl⟩
  have no : (Builtin.List.listSameRef (.ref S) (.ref z) || Value.type "zip" == Value.type "list" || Value.type "zip" == Value.type "tuple") = false := by
    have : Builtin.List.listSameRef (.ref S) (.ref z) = false := by simp [Builtin.List.listSameRef, F.z]
    rw [this]
    decide
  apply wpAny_bind (wpAny_typeOf (T := "zip") ty _)
  rw [if_neg (by rw [no]; decide)]
  apply wpAny_bind (wpAny_pyIter_zip hz _)
  apply wpAny_bind (wpAny_holding (zl_hint ty _))
  rw [if_pos (by simp)]
  apply wpAny_bind
  refine wpAny_rule (wpAny_bind (m := updateSeq S (·.push .none) >>= fun _ => updateSeq S (·.pop)) (wpAny_bind (wpAny_updateSeq lS rfl ?_)))
  have l1' := Heap.get?_update_self (Obj.mapSeq (·.push Value.none)) lS rfl
  refine wpAny_updateSeq (hz := by seq_fits) l1' rfl (wpAny_pure ⟨plainId_quiet PySem.F.plain_extend_loop _, ?_⟩)
  have b1 : Heap.SameBut S s.heap (s.heap.update S (Obj.mapSeq (·.push Value.none))) := Heap.SameBut.update ..
  have b2 : Heap.SameBut S (s.heap.update S (Obj.mapSeq (·.push Value.none))) ((s.heap.update S (Obj.mapSeq (·.push Value.none))).update S (Obj.mapSeq (·.pop))) := Heap.SameBut.update ..
  obtain ⟨n1, n2, n3, n4⟩ := Z.below
  refine zl_loop (s := s) (h₁ := s.heap) (lo := s.heap.objs.size) hh D F same hn res ⟨n1, n2, n3, n4, Heap.lt_size lS⟩ hR _ xs.size 0 _ _ #[] [] (Nat.sub_zero _) (Nat.zero_le _) ⟨Z.keep F fun b o q e => b2.extBut _ _ q (b1.extBut _ _ q e), fun b o q _ _ _ _ e => b2.extBut _ _ q (b1.extBut _ _ q e), Heap.get?_update_self (Obj.mapSeq (·.pop)) l1' rfl, rfl, rfl, ⟨.nil, fun _ q => absurd q List.not_mem_nil, fun j a q => by simp at q⟩, ?_⟩
  rw [b2.1, b1.1]
  exact Nat.le_refl _
theorem zl_call {Q : Value → Shared → Prop} (hh : A.handled = none) (D : ZipApart z TI TO i1 i2 l1 l2) (same : xs.size = ys.size) (hn : xs.size ≤ sizeLine) (hz : IsZip s.heap z TI TO .none) (c1 : IsPair s.heap TI (.ref i1) (.ref i2)) (c2 : ∃ a b, IsPair s.heap TO a b)
    (c3 : s.heap.IsListIter i1 l1 0) (c4 : s.heap.IsListIter i2 l2 0) (c5 : s.heap.IsList l1 xs) (c6 : s.heap.IsList l2 ys)
    (hQ : ∀ h tk acc c as, Rest z TO i1 i2 s.heap h → h.get? s.heap.objs.size = some { cls := .type "list", dict := none, data := .seq acc c, slots := #[] } → as.length = xs.size → ZG xs ys (s.heap.objs.size + 1) h as → acc.toList = as.map Value.ref → Q (.ref s.heap.objs.size) { s with heap := h, toks := tk }) :
    wpAny (model prog w) A (call (.type "list") [.ref z]) Q E s := by
  have Z0 : ZSt s.heap z TI TO i1 i2 l1 l2 s.heap.objs.size xs ys 0 := ⟨c1, c2, c3, c4, c5, c6, .inl ⟨rfl, hz⟩⟩
  obtain ⟨n1, n2, n3, n4⟩ := Z0.below
  have lt5 : l1 < s.heap.objs.size := let ⟨_, e, _⟩ := c5; Heap.lt_size e
  have lt6 : l2 < s.heap.objs.size := let ⟨_, e, _⟩ := c6; Heap.lt_size e
  have F : SOff z TI TO i1 i2 l1 l2 s.heap.objs.size := ⟨Nat.ne_of_gt n1, Nat.ne_of_gt (Heap.lt_size c1), Nat.ne_of_gt n2, Nat.ne_of_gt n3, Nat.ne_of_gt n4, Nat.ne_of_gt lt5, Nat.ne_of_gt lt6⟩
  let g : Heap := s.heap.push { cls := .type "list", data := .seq #[] }
  have lg : g.get? s.heap.objs.size = some { cls := .type "list", data := .seq #[] } := Heap.get?_push_size _ rfl
  refine callType_codes (Q₁ := fun v t => v = .ref s.heap.objs.size ∧ t = { s with heap := g }) PySem.F.called_list (PySem.F.typeCall_list_1 _) PySem.F.entry_list_init (code_list_new _ ⟨rfl, rfl⟩) ?_
  rintro v t ⟨rfl, rfl⟩
  refine ⟨⟨_, lg, rfl⟩, PySem.F.args_list_init_2 _ _, wpAny_bind (m := Builtin.List.listItems _) (wpAny_bind (wpAny_seqItems lg rfl (wpAny_pure ?_)))⟩
  refine wpAny_bind (m := updateSeq s.heap.objs.size (fun _ => #[])) (wpAny_updateSeq lg rfl (wpAny_bind (wpAny_letGo ?_)))
  obtain ⟨⟨c', lu⟩, bu⟩ := emptied lg (fun _ => #[]) rfl
  generalize g.update s.heap.objs.size (Obj.mapSeq fun _ => #[]) = u at lu bu
  have up : ∀ b o, b ≠ s.heap.objs.size → s.heap.get? b = some o → u.get? b = some o := fun b o q e => bu.extBut _ _ q (Heap.get?_push_of_some _ e)
  have su : u.objs.size = s.heap.objs.size + 1 := by rw [bu.1, Heap.size_push]
  refine zl_extend (s := { s with heap := u }) (A := A.in1) hh D F same hn .none (Z0.keep F up) (up _ _ F.z.symm hz) lu fun h tk acc c as kept ls ln gr ac => ⟨rfl, hQ h tk acc c as (fun b o d1 d2 d3 d4 e => ?_) ls ln (by rw [← su]; exact gr) ac⟩
  have ne : b ≠ s.heap.objs.size := Nat.ne_of_lt (Heap.lt_size e)
  exact kept b o ne d1 d2 d3 d4 (up b o ne e)
end
/-- the pairs tracked at their addresses -/
def putZ (H : Hp) (S : Addr) (as : List Addr) (xs ys : List V) : Hp := fun b => if b = S then some (.lst (as.map V.ref)) else
  if b ∈ as then some (.tup [(xs[as.idxOf b]?).getD .non, (ys[as.idxOf b]?).getD .non]) else H b
theorem refs_vals : ∀ as : List Addr, Vals (as.map V.ref) (as.map Value.ref)
  | [] => .nil
  | _ :: as => .cons rfl (refs_vals as)
section
variable {X : Cx} {e e2 : Expr} {ta : TA} {p p2 pos pos2 : Pos}
def tListZip (K : PySem.W.Frag) (ta : TA) : TE := fun σ H Q => ta σ H fun vs H1 => ∃ (a b : Addr) (xs ys : List V), vs = [.ref a, .ref b] ∧ SqL K H1 a xs ∧ SqL K H1 b ys ∧ xs.length = ys.length ∧
  ∀ (H' : Hp) (p : Addr) (ts : List Addr), (∀ b o, H1 b = some o → H' b = some o) → H1 p = none → (∀ t ∈ ts, H1 t = none) → H' p = some (.lst (ts.map V.ref)) → ts.length = xs.length →
    (∀ (j : Nat) (t : Addr), ts[j]? = some t → ∃ x y, xs[j]? = some x ∧ ys[j]? = some y ∧ H' t = some (.tup [x, y])) → Q (.ref p) H'
theorem pairs_laid {pins : List (Addr × Obj)} {σ : L2.St} {H : Hp} {s : Shared} {g : Heap} {tk : Nat} {xs ys : List V} {us vs : List Value} {acc : Array Value} {c : Nat} {S : Addr} {as : List Addr} (J : Inv X pins σ H s) (rx : Vals xs us) (ry : Vals ys vs) (hz : xs.length ≤ sizeLine)
    (kept : ∀ b o, s.heap.get? b = some o → g.get? b = some o) (low : s.heap.objs.size ≤ S) (lS : g.get? S = some { cls := .type "list", dict := none, data := .seq acc c, slots := #[] }) (ln : as.length = us.length) (gr : ZG us.toArray vs.toArray (S + 1) g as) (ac : acc.toList = as.map Value.ref) :
    ∃ H' : Hp, Same H H' ∧ H S = none ∧ (∀ t ∈ as, H t = none) ∧ H' S = some (.lst (as.map V.ref)) ∧ (∀ (j : Nat) (t : Addr), as[j]? = some t → ∃ x y, xs[j]? = some x ∧ ys[j]? = some y ∧ H' t = some (.tup [x, y])) ∧ Inv X pins σ H' { s with heap := g, toks := tk } := by
  have lx : xs.length = us.length := Paired.length rx
  have ly : ys.length = vs.length := Paired.length ry
  have nd : as.Nodup := gr.rise.imp fun {x y} q => Nat.ne_of_lt q
  have high : ∀ t ∈ as, s.heap.objs.size ≤ t := fun t q => Nat.le_trans low (Nat.le_of_succ_le (gr.above t q).1)
  have offS : S ∉ as := fun q => Nat.not_succ_le_self S (gr.above S q).1
  have free : ∀ t ∈ as, H t = none := fun t q => J.hok.fresh (high t q)
  have freeS : H S = none := J.hok.fresh low
  have atS : putZ H S as xs ys S = some (.lst (as.map V.ref)) := if_pos rfl
  have else_ : ∀ b, b ∉ as → b ≠ S → putZ H S as xs ys b = H b := fun b q r => (if_neg r).trans (if_neg q)
  have sm : Same H (putZ H S as xs ys) := fun b o q => by
    rw [else_ b (fun r => by rw [free b r] at q; cases q) (fun r => by rw [r, freeS] at q; cases q)]
    exact q
  have each : ∀ (j : Nat) (t : Addr), as[j]? = some t → ∃ x y u v, xs[j]? = some x ∧ ys[j]? = some y ∧ putZ H S as xs ys t = some (.tup [x, y]) ∧ RelV x u ∧ RelV y v ∧ IsPair g t u v := by
    intro j t hj
    obtain ⟨hj0, ht⟩ := List.getElem?_eq_some_iff.mp hj
    obtain ⟨u, v, eu, ev, pr⟩ := gr.pairs j t hj
    rw [List.getElem?_toArray] at eu ev
    have jx : j < xs.length := by omega
    have jy : j < ys.length := by rw [ly]; exact (List.getElem?_eq_some_iff.mp ev).1
    have ex : xs[j]? = some xs[j] := List.getElem?_eq_getElem jx
    have ey : ys[j]? = some ys[j] := List.getElem?_eq_getElem jy
    obtain ⟨u', eu', ru⟩ := rx.get ex
    obtain ⟨v', ev', rv⟩ := ry.get ey
    cases eu.symm.trans eu'
    cases ev.symm.trans ev'
    have ix : as.idxOf t = j := by
      subst ht
      exact nd.idxOf_getElem j hj0
    refine ⟨_, _, u, v, ex, ey, ?_, ru, rv, pr⟩
    have mem : t ∈ as := List.mem_of_getElem? hj
    have neS : t ≠ S := fun q => offS (by rw [← q]; exact mem)
    refine (if_neg neS).trans ((if_pos mem).trans ?_)
    rw [ix, ex, ey]
    rfl
  refine ⟨putZ H S as xs ys, sm, freeS, free, atS, fun j t hj => ?_, ?_⟩
  · obtain ⟨x, y, _, _, q1, q2, q3, _⟩ := each j t hj
    exact ⟨x, y, q1, q2, q3⟩
  have ok : HOk X.prog X.w (putZ H S as xs ys) g := by
    intro b o q
    by_cases mem : b ∈ as
    · obtain ⟨j, hj⟩ := List.mem_iff_getElem?.mp mem
      obtain ⟨x, y, u, v, _, _, q3, ru, rv, pr⟩ := each j b hj
      cases q3.symm.trans q
      exact ⟨by show 2 ≤ sizeLine; decide, [u, v], .cons ru (.cons rv .nil), ⟨_, pr, rfl, _, rfl⟩⟩
    · by_cases eS : b = S
      · subst eS
        cases atS.symm.trans q
        refine ⟨by rw [List.length_map]; omega, acc.toList, c, by rw [ac]; exact refs_vals as, ?_⟩
        rw [Array.toArray_toList]
        exact lS
      · rw [else_ b mem eS] at q
        exact (J.hok b o q).stay (fun d v _ r => kept d v r) (fun d r => sm d _ r) fun d l r => sm d _ r
  refine J.call' (ch := []) rfl ⟨fun b o q _ _ _ => kept b o q, fun b o q _ _ _ => ⟨o.slots, kept b o q⟩, fun b o q n _ => ?_, fun b o q _ => ⟨o, kept b o q⟩, fun b l q => sm b _ q, fun b o l q => sm b _ q, fun b l q => ⟨#[], by rw [sm b _ q]; simp⟩⟩ ok J.bare fun b q => by simp at q
  have lt := Heap.lt_size q
  rw [else_ b (fun r => absurd lt (Nat.not_lt.mpr (high b r))) (Nat.ne_of_lt (Nat.lt_of_lt_of_le lt low))]
  exact n
/-- list(zip(e, e2)) -/
theorem pe_listZip (calm : X.calm = true) (pa : PA X [e, e2] ta) (g1 : Gl X "list") (m1 : X.mg "list" = none) (g2 : Gl X "zip") (m2 : X.mg "zip" = none) (two : starEach [e, e2] X.env = (false, eval e X.env) :: starEach [e2] X.env := by rfl)
    (plain : (backTo pos2 (starEach [e2] X.env)).any (·.1) = false := by rfl) : PE X (.Call (.Name "list" p) [.Call (.Name "zip" p2) [e, e2] [] pos2] [] pos) (tListZip X.K ta) := by
  constructor
  intro pins s σ H Q J rd
  refine Call_ (ld_blt J g1 m1 PyProof.Rows.boot_list (PyProof.Rows.callWith_type1 (PyProof.Rows.args_cons (Call_ (ld_blt J g2 m2 PyProof.Rows.boot_zip ?_)) rfl) rfl rfl))
  refine PyProof.Rows.callWith_type1 (thn (pa.run pos2 pins s σ H _ J rd) ?_) two plain
  rintro us s1 ⟨vs, H1, J1, rv, a, b, xs, ys, rfl, hx, hy, len, rd⟩
  obtain ⟨u1, u2, rfl, r1, r2⟩ := rv.two
  cases r1
  cases r2
  obtain ⟨as, ra, pA, zA⟩ := J1.list hx
  obtain ⟨bs, rb, pB, _⟩ := J1.list hy
  have na : xs.length = as.length := ra.length
  have nb : ys.length = bs.length := rb.length
  refine call_zip_2 pA.isList pB.isList fun h hz hT hO w1 w2 size kept => PyProof.Rows.args_nil ?_
  refine zl_call (s := { s1 with heap := h }) (xs := as.toArray) (ys := bs.toArray) (J1.ok.hd calm) (PySem.W.ktu_apart s1.heap.objs.size a b pA.lt pB.lt) (by simp only [List.size_toArray]; omega) (by simp only [List.size_toArray]; omega) hz hT ⟨_, _, hO⟩ w1 w2 (pA.isList.at fun o q => kept _ o q) (pB.isList.at fun o q => kept _ o q) fun g tk acc c ts rest lS ln gr ac => ?_
  have all : ∀ b o, s1.heap.get? b = some o → g.get? b = some o := fun b o q => by
    have lt : b < s1.heap.objs.size := Heap.lt_size q
    exact rest b o (Nat.ne_of_lt (Nat.lt_add_right _ lt)) (Nat.ne_of_lt (Nat.lt_add_right _ lt)) (Nat.ne_of_lt lt) (Nat.ne_of_lt (Nat.lt_add_right _ lt)) (kept b o q)
  have low : s1.heap.objs.size ≤ h.objs.size := Nat.le_trans (Nat.le_add_right _ 5) (Nat.le_of_eq size.symm)
  rw [List.size_toArray] at ln
  obtain ⟨H', t1, t2, t3, t4, t5, J'⟩ := pairs_laid (tk := tk) J1 ra rb zA all low lS ln gr ac
  exact ⟨.ref _, H', J', rfl, rd H' _ ts t1 t2 t3 t4 (ln.trans na.symm) t5⟩
end
end Mk
set_option Elab.async false
set_option maxRecDepth 100000
set_option maxHeartbeats 5000000
/-! The defs without loops. -/
namespace Mk
open PySem PySem.Spec PyProof.Rows L2
def top (i : Nat) : Stmt := PySem.Challenge.pw_markdesk_s01_answers.main.body.getD i (.Pass ⟨0, 0, 0, 0⟩)
abbrev s_plus : Stmt := top 4
abbrev s_times : Stmt := top 5
abbrev s_is_greater : Stmt := top 6
abbrev s_shown : Stmt := top 7
abbrev s_has_word : Stmt := top 10
/-- a def that holds its promise, by its name -/
structure Has (P : Program) (w : World) (K : PySem.W.Frag) (mg : Str → Option Value) (base : Heap) (k : Nat) (x : Str) (ps : List Str) (sp : Sp) : Prop where
  ex : ∃ f fd, mg x = some (.ref f) ∧ PySem.W.keepIn K (.ref f) = true ∧ Binds K fd ps [] ∧ FnOk P w K mg base CX0 k f fd ps sp
/-- a call with plain arguments -/
structure Plainly (X : Cx) (x : Str) (e : Expr) (es : List Expr) (pos : Pos) : Prop where
  nd : (x == ("__debug__" : Str)) = false
  hd : starEach (e :: es) X.env = (false, eval e X.env) :: starEach es X.env
  tl : (backTo pos (starEach es X.env)).any (·.1) = false
theorem pe_cl {X : Cx} {k : Nat} {x : Str} {ps : List Str} {sp : Sp} {e : Expr} {es : List Expr} {t : TA} {p pos : Pos} (G : Has X.prog X.w X.K X.mg X.base k x ps sp) (hr : Room k X.A) (ha : PA X (e :: es) t) (hg : Gl X x := by rfl)
    (pl : Plainly X x e es pos := by exact ⟨by decide, rfl, rfl⟩) : PE X (.Call (.Name x p) (e :: es) [] pos) (tCall sp [] E0 t) := by
  obtain ⟨f, fd, hm, hk, hb, F⟩ := G.ex
  exact pe_call F hr hg hm hk hb .nil pass0 ha pl.nd pl.hd pl.tl
theorem Has.mk' {P : Program} {w : World} {K : PySem.W.Frag} {mg : Str → Option Value} {base : Heap} {k : Nat} {x qual : Str} {st : Stmt} {f : Addr} {fd : FuncData} {ps : List Str} {sp : Sp} (F : Fun K x qual st f fd) (hm : mg x = some (.ref f)) (b : Binds K fd ps []) (G : FnOk P w K mg base CX0 k f fd ps sp) :
    Has P w K mg base k x ps sp := ⟨f, fd, hm, F.kp, b, G⟩
/-! ### fractions -/
def FrA (H : Hp) (a : Addr) (x : Fr) : Prop := H a = some (.tup [.int x.1, .int x.2])
theorem FrA.same {H H' : Hp} {a : Addr} {x : Fr} (h : FrA H a x) (s : Same H H') : FrA H' a x := s _ _ h
theorem same_upd {H : Hp} {p : Addr} {o : HO} (h : H p = none) : Same H (upd H p o) := fun b u e => by rw [upd_ne (ne_of_none e h)]; exact e
theorem Gd.abs1 {k : Nat} {x : Fr} (h : Gd k x) : x.1.natAbs < 2 ^ k := by
  have a := h.n0
  have b := h.n1
  have c : ((2 : Int) ^ k) = ((2 ^ k : Nat) : Int) := by push_cast; rfl
  rw [c] at b
  omega
theorem Gd.abs2 {k : Nat} {x : Fr} (h : Gd k x) : x.2.natAbs < 2 ^ k := by
  have a := h.d0
  have b := h.d1
  have c : ((2 : Int) ^ k) = ((2 ^ k : Nat) : Int) := by push_cast; rfl
  rw [c] at b
  omega
theorem Gd.pos {k : Nat} {x : Fr} (h : Gd k x) : 0 < k := by
  rcases Nat.eq_zero_or_pos k with e | e
  · subst e
    have a := h.d0
    have b := h.d1
    omega
  · exact e
theorem wmul {a b : Int} {j k : Nat} (ha : a.natAbs < 2 ^ j) (hb : b.natAbs < 2 ^ k) (hj : 0 < j) (hk : 0 < k) (h : j ≤ 1000) (h' : k ≤ 1000) : CMulW a b := wide_mul ha hb hj hk (by omega)
/-- two fractions in, one out -/
def sp2 (f : Fr → Fr → Fr) : Sp := fun vs H Q _ => ∃ (p q : Addr) (x y : Fr) (j k : Nat), vs = [.ref p, .ref q] ∧ FrA H p x ∧ FrA H q y ∧ Gd j x ∧ Gd k y ∧ j ≤ 1000 ∧ k ≤ 1000 ∧
  ∀ (H' : Hp) (r : Addr), Same H H' → H r = none → FrA H' r (f x y) → Q (.ref r) H'
def spGreater : Sp := fun vs H Q _ => ∃ (p q : Addr) (x y : Fr) (j k : Nat), vs = [.ref p, .ref q] ∧ FrA H p x ∧ FrA H q y ∧ Gd j x ∧ Gd k y ∧ j ≤ 1000 ∧ k ≤ 1000 ∧ Q (.bl (greater x y)) H
def spShown : Sp := fun vs H Q _ => ∃ (p : Addr) (x : Fr) (k : Nat), vs = [.ref p] ∧ FrA H p x ∧ Gd k x ∧ k ≤ 1000 ∧ Q (.int (showF x)) H
section
variable {P : Program} {w : World} {K : PySem.W.Frag} {mg : Str → Option Value} {base : Heap}
theorem scXY : FnScope ["x", "y"] ["x", "y"] (defScope s_plus) := ⟨rfl, rfl, rfl, by decide +kernel, rfl, by decide +kernel, by decide +kernel⟩
theorem at0 {a b : V} : atI [a, b] 0 = some a := rfl
theorem at1 {a b : V} : atI [a, b] 1 = some b := rfl
theorem ok_plus {f : Addr} {fd : FuncData} (F : Fun K "plus" "plus" s_plus f fd) : FnOk P w K mg base CX0 1 f fd ["x", "y"] (sp2 plus) := by
  refine F.ok scXY (fun vs H Q E h => ?_) (fun cdv A outer s H vs Q E hr h => ?_)
  · obtain ⟨p, q, x, y, j, k, rfl, _⟩ := h
    rfl
  · obtain ⟨p, q, x, y, j, k, rfl, hx, hy, gx, gy, hj, hk, kk⟩ := h
    refine ⟨_, pss_one (ps_ret (pe_tup (pa_cons (pe_op op_add (pe_op op_mulW (pe_ix ix_tup (pv 0) pe_int (fun _ _ => rfl)) (pe_ix ix_tup (pv 1) pe_int (fun _ _ => rfl))) (pe_op op_mulW (pe_ix ix_tup (pv 1) pe_int (fun _ _ => rfl)) (pe_ix ix_tup (pv 0) pe_int (fun _ _ => rfl))))
      (pa_cons (pe_op op_mulW (pe_ix ix_tup (pv 0) pe_int (fun _ _ => rfl)) (pe_ix ix_tup (pv 1) pe_int (fun _ _ => rfl))) pa_nil)))), ?_⟩
    refine ⟨_, rfl, p, _, _, _, rfl, rfl, SqT.of hx, at0, _, rfl, q, _, _, _, rfl, rfl, SqT.of hy, at1, _, _, rfl, rfl, wmul gx.abs1 gy.abs2 gx.pos gy.pos hj hk, ?_⟩
    refine ⟨_, rfl, q, _, _, _, rfl, rfl, SqT.of hy, at0, _, rfl, p, _, _, _, rfl, rfl, SqT.of hx, at1, _, _, rfl, rfl, wmul gy.abs1 gx.abs2 gy.pos gx.pos hk hj, _, _, rfl, rfl, ?_⟩
    refine ⟨_, rfl, p, _, _, _, rfl, rfl, SqT.of hx, at1, _, rfl, q, _, _, _, rfl, rfl, SqT.of hy, at1, _, _, rfl, rfl, wmul gx.abs2 gy.abs2 gx.pos gy.pos hj hk, ?_⟩
    refine ⟨by show 2 ≤ sizeLine; decide, fun r hn => ?_⟩
    exact kk _ r (same_upd hn) hn upd_same
theorem ok_times {f : Addr} {fd : FuncData} (F : Fun K "times" "times" s_times f fd) : FnOk P w K mg base CX0 1 f fd ["x", "y"] (sp2 times) := by
  refine F.ok (N := ["x", "y"]) ⟨rfl, rfl, rfl, by decide +kernel, rfl, by decide +kernel, by decide +kernel⟩ (fun vs H Q E h => ?_) (fun cdv A outer s H vs Q E hr h => ?_)
  · obtain ⟨p, q, x, y, j, k, rfl, _⟩ := h
    rfl
  · obtain ⟨p, q, x, y, j, k, rfl, hx, hy, gx, gy, hj, hk, kk⟩ := h
    refine ⟨_, pss_one (ps_ret (pe_tup (pa_cons (pe_op op_mulW (pe_ix ix_tup (pv 0) pe_int (fun _ _ => rfl)) (pe_ix ix_tup (pv 1) pe_int (fun _ _ => rfl)))
      (pa_cons (pe_op op_mulW (pe_ix ix_tup (pv 0) pe_int (fun _ _ => rfl)) (pe_ix ix_tup (pv 1) pe_int (fun _ _ => rfl))) pa_nil)))), ?_⟩
    refine ⟨_, rfl, p, _, _, _, rfl, rfl, SqT.of hx, at0, _, rfl, q, _, _, _, rfl, rfl, SqT.of hy, at0, _, _, rfl, rfl, wmul gx.abs1 gy.abs1 gx.pos gy.pos hj hk, ?_⟩
    refine ⟨_, rfl, p, _, _, _, rfl, rfl, SqT.of hx, at1, _, rfl, q, _, _, _, rfl, rfl, SqT.of hy, at1, _, _, rfl, rfl, wmul gx.abs2 gy.abs2 gx.pos gy.pos hj hk, ?_⟩
    refine ⟨by show 2 ≤ sizeLine; decide, fun r hn => ?_⟩
    exact kk _ r (same_upd hn) hn upd_same
theorem ok_is_greater {f : Addr} {fd : FuncData} (F : Fun K "is_greater" "is_greater" s_is_greater f fd) : FnOk P w K mg base CX0 1 f fd ["x", "y"] spGreater := by
  refine F.ok (N := ["x", "y"]) ⟨rfl, rfl, rfl, by decide +kernel, rfl, by decide +kernel, by decide +kernel⟩ (fun vs H Q E h => ?_) (fun cdv A outer s H vs Q E hr h => ?_)
  · obtain ⟨p, q, x, y, j, k, rfl, _⟩ := h
    rfl
  · obtain ⟨p, q, x, y, j, k, rfl, hx, hy, gx, gy, hj, hk, kk⟩ := h
    refine ⟨_, pss_one (ps_ret (pe_cmpR op_gt (pe_op op_mulW (pe_ix ix_tup (pv 0) pe_int (fun _ _ => rfl)) (pe_ix ix_tup (pv 1) pe_int (fun _ _ => rfl)))
      (pe_op op_mulW (pe_ix ix_tup (pv 1) pe_int (fun _ _ => rfl)) (pe_ix ix_tup (pv 0) pe_int (fun _ _ => rfl))) (nomark _))), ?_⟩
    refine ⟨_, rfl, p, _, _, _, rfl, rfl, SqT.of hx, at0, _, rfl, q, _, _, _, rfl, rfl, SqT.of hy, at1, _, _, rfl, rfl, wmul gx.abs1 gy.abs2 gx.pos gy.pos hj hk, ?_⟩
    refine ⟨_, rfl, q, _, _, _, rfl, rfl, SqT.of hy, at0, _, rfl, p, _, _, _, rfl, rfl, SqT.of hx, at1, _, _, rfl, rfl, wmul gy.abs1 gx.abs2 gy.pos gx.pos hk hj, _, _, rfl, rfl, ?_⟩
    exact kk
/-- a whole number of the module's top -/
theorem pe_const {X : Cx} {x : Str} {n : Int} {pos : Pos} (h : ∃ t, X.mg x = some (.int n t)) (hg : Gl X x := by rfl) (hd : (x == ("__debug__" : Str)) = false := by decide) : PE X (.Name x pos) (tC (.int n)) := by
  obtain ⟨t, e⟩ := h
  exact pe_glob hg e ⟨_, rfl⟩ hd
theorem ok_shown {f : Addr} {fd : FuncData} (F : Fun K "shown" "shown" s_shown f fd) (hM : ∃ t, mg "MILLION" = some (.int 1000000 t)) : FnOk P w K mg base CX0 1 f fd ["x"] spShown := by
  refine F.ok (N := ["x"]) ⟨rfl, rfl, rfl, by decide +kernel, rfl, by decide +kernel, by decide +kernel⟩ (fun vs H Q E h => ?_) (fun cdv A outer s H vs Q E hr h => ?_)
  · obtain ⟨p, x, k, rfl, _⟩ := h
    rfl
  · obtain ⟨p, x, k, rfl, hx, gx, hk, kk⟩ := h
    refine ⟨_, pss_one (ps_ret (pe_op op_fdivW (pe_op op_mulW (pe_ix ix_tup (pv 0) pe_int (fun _ _ => rfl)) (pe_const hM)) (pe_ix ix_tup (pv 0) pe_int (fun _ _ => rfl)))), ?_⟩
    refine ⟨_, rfl, p, _, _, _, rfl, rfl, SqT.of hx, at0, _, _, rfl, rfl, wmul (k := 20) gx.abs1 (by decide) gx.pos (by decide) hk (by decide), ?_⟩
    refine ⟨_, rfl, p, _, _, _, rfl, rfl, SqT.of hx, at1, _, _, rfl, rfl, wide_div gx.d0 gx.abs2 gx.pos (by omega), ?_⟩
    have e : showF x = x.1 * 1000000 / x.2 := Int.fdiv_eq_ediv_of_nonneg _ (Int.le_of_lt gx.d0)
    show Q (.int (x.1 * 1000000 / x.2)) H
    rw [← e]
    exact kk
end
/-! ### texts and the desk -/
def nums (l : List Nat) : List V := l.map fun (n : Nat) => V.int (n : Int)
theorem nums_flat (l : List Nat) : (nums l).all flatV = true := by
  rw [List.all_eq_true]
  intro x hx
  obtain ⟨n, _, rfl⟩ := List.mem_map.mp hx
  rfl
theorem nums_in (w : Nat) (l : List Nat) : inV (.int (w : Int)) (nums l) = l.contains w := by
  unfold inV nums
  induction l with
  | nil => rfl
  | cons x l ih =>
    rw [List.map_cons, List.any_cons, List.contains_cons, ih]
    congr 1
    show ((x : Int) == (w : Int)) = (w == x)
    rw [Bool.eq_iff_iff]
    simp only [beq_iff_eq]
    omega
theorem nums_len (l : List Nat) : (nums l).length = l.length := List.length_map _
def tF (p : Nat) (h b : Addr) : List (Str × V) := [("prior", .int (p : Int)), ("head", .ref h), ("body", .ref b)]
def TextAt (CT : Addr) (H : Hp) (a : Addr) (t : Rh08.Text) : Prop := ∃ dx h b, H a = some (.ins CT dx (tF t.prior h b)) ∧ H h = some (.lst (nums t.head)) ∧ H b = some (.lst (nums t.body))
theorem TextAt.same {CT : Addr} {H H' : Hp} {a : Addr} {t : Rh08.Text} (h : TextAt CT H a t) (s : Same H H') : TextAt CT H' a t := by
  obtain ⟨dx, p, b, h1, h2, h3⟩ := h
  exact ⟨dx, p, b, s _ _ h1, s _ _ h2, s _ _ h3⟩
theorem lk_here {k : Str} {v : V} {r : List (Str × V)} : List.lookup k ((k, v) :: r) = some v := by
  have e : (k == k) = true := beq_self_eq_true k
  simp only [List.lookup, e]
theorem lk_past {k g : Str} {v : V} {r : List (Str × V)} (h : (k == g) = false) : List.lookup k ((g, v) :: r) = List.lookup k r := by
  simp only [List.lookup, h]
theorem tF_prior (p : Nat) (h b : Addr) : (tF p h b).lookup ("prior" : Str) = some (.int (p : Int)) := lk_here
theorem tF_head (p : Nat) (h b : Addr) : (tF p h b).lookup ("head" : Str) = some (.ref h) := (lk_past (by decide +kernel)).trans lk_here
theorem tF_body (p : Nat) (h b : Addr) : (tF p h b).lookup ("body" : Str) = some (.ref b) := (lk_past (by decide +kernel)).trans ((lk_past (by decide +kernel)).trans lk_here)
def dF (d q : Addr) (u : Rh08.Tune) : List (Str × V) := [("texts", .ref d), ("asked", .ref q), ("a", .int (u.long : Int)), ("b", .int (u.soon : Int)), ("c", .int (u.head : Int)), ("d", .int (u.body : Int))]
section
variable (d q : Addr) (u : Rh08.Tune)
theorem dF_texts : (dF d q u).lookup ("texts" : Str) = some (.ref d) := lk_here
theorem dF_asked : (dF d q u).lookup ("asked" : Str) = some (.ref q) := (lk_past (by decide +kernel)).trans lk_here
theorem dF_a : (dF d q u).lookup ("a" : Str) = some (.int (u.long : Int)) := (lk_past (by decide +kernel)).trans ((lk_past (by decide +kernel)).trans lk_here)
theorem dF_b : (dF d q u).lookup ("b" : Str) = some (.int (u.soon : Int)) := (lk_past (by decide +kernel)).trans ((lk_past (by decide +kernel)).trans ((lk_past (by decide +kernel)).trans lk_here))
theorem dF_c : (dF d q u).lookup ("c" : Str) = some (.int (u.head : Int)) := (lk_past (by decide +kernel)).trans ((lk_past (by decide +kernel)).trans ((lk_past (by decide +kernel)).trans ((lk_past (by decide +kernel)).trans lk_here)))
theorem dF_d : (dF d q u).lookup ("d" : Str) = some (.int (u.body : Int)) := (lk_past (by decide +kernel)).trans ((lk_past (by decide +kernel)).trans ((lk_past (by decide +kernel)).trans ((lk_past (by decide +kernel)).trans ((lk_past (by decide +kernel)).trans lk_here))))
end
/-- the dict's pairs: a text's key, its place -/
def kvT (es : List (Addr × Rh08.Text)) : List (Key × V) := es.map fun e => (Sum.inl (e.2.key : Int), V.ref e.1)
structure DeskIn (CT CD : Addr) (H : Hp) (a dx d q : Addr) (es : List (Addr × Rh08.Text)) (as : List (Addr × (Nat × Nat))) (s : Rh08.Desk) : Prop where
  ob : H a = some (.ins CD dx (dF d q s.tune))
  dc : H d = some (.dK (kvT es))
  tx : ∀ e ∈ es, TextAt CT H e.1 e.2
  pm : (es.map (·.2)).Perm s.texts
  ql : H q = some (.lst (as.map fun e => V.ref e.1))
  qt : ∀ e ∈ as, H e.1 = some (.tup [.int (e.2.1 : Int), .int (e.2.2 : Int)])
  qa : as.map (·.2) = s.tune.ask
def DeskAt (CT CD : Addr) (H : Hp) (a : Addr) (s : Rh08.Desk) : Prop := ∃ dx d q es as, DeskIn CT CD H a dx d q es as s
theorem DeskIn.same {CT CD : Addr} {H H' : Hp} {a dx d q : Addr} {es : List (Addr × Rh08.Text)} {as : List (Addr × (Nat × Nat))} {s : Rh08.Desk} (h : DeskIn CT CD H a dx d q es as s) (k : Same H H') : DeskIn CT CD H' a dx d q es as s :=
  ⟨k _ _ h.ob, k _ _ h.dc, fun e he => (h.tx e he).same k, h.pm, k _ _ h.ql, fun e he => k _ _ (h.qt e he), h.qa⟩
theorem DeskAt.same {CT CD : Addr} {H H' : Hp} {a : Addr} {s : Rh08.Desk} (h : DeskAt CT CD H a s) (k : Same H H') : DeskAt CT CD H' a s := by
  obtain ⟨dx, d, q, es, as, h⟩ := h
  exact ⟨dx, d, q, es, as, h.same k⟩
/-- what the top has written -/
structure Txt (K : PySem.W.Frag) (mg : Str → Option Value) (CT CD : Addr) : Prop where
  cT : Cls K CT
  cD : Cls K CD
  gT : mg "Text" = some (.ref CT)
  gD : mg "Desk" = some (.ref CD)
  nPrior : NoAttr K CT "prior"
  nHead : NoAttr K CT "head"
  nBody : NoAttr K CT "body"
  nTexts : NoAttr K CD "texts"
  nAsked : NoAttr K CD "asked"
  nA : NoAttr K CD "a"
  nB : NoAttr K CD "b"
  nC : NoAttr K CD "c"
  nD : NoAttr K CD "d"
  len : mg "len" = none
  sum : mg "sum" = none
  any : mg "any" = none
  all : mg "all" = none
  sorted : mg "sorted" = none
  list : mg "list" = none
  zip : mg "zip" = none
  set : mg "set" = none
  dict : mg "dict" = none
  range : mg "range" = none
def spHasWord (CT : Addr) : Sp := fun vs H Q _ => ∃ (a : Addr) (t : Rh08.Text) (w : Nat), vs = [.ref a, .int (w : Int)] ∧ TextAt CT H a t ∧ Q (.bl (Rh08.hasWord w t)) H
section
variable {P : Program} {w : World} {K : PySem.W.Frag} {mg : Str → Option Value} {base : Heap} {CT CD : Addr}
theorem ok_has_word {f : Addr} {fd : FuncData} (F : Fun K "has_word" "has_word" s_has_word f fd) (T : Txt K mg CT CD) : FnOk P w K mg base CX0 1 f fd ["text", "word"] (spHasWord CT) := by
  refine F.ok (N := ["text", "word"]) ⟨rfl, rfl, rfl, by decide +kernel, rfl, by decide +kernel, by decide +kernel⟩ (fun vs H Q E h => ?_) (fun cdv A outer s H vs Q E hr h => ?_)
  · obtain ⟨a, t, w, rfl, _⟩ := h
    rfl
  · obtain ⟨a, t, w, rfl, ⟨dx, p, b, h1, h2, h3⟩, kk⟩ := h
    refine ⟨_, pss_one (ps_ret (pe_or (pe_cmpR op_in_seq (pv 1) (pe_fld (pv 0) rfl) rfl) (pe_one (pe_cmpR op_in_seq (pv 1) (pe_fld (pv 0) rfl) rfl)))), ?_⟩
    refine ⟨_, rfl, _, rfl, a, CT, dx, _, _, rfl, h1, T.cT, T.nHead, tF_head _ _ _, p, _, rfl, .inl (SqL.of h2), rfl, nums_flat _, _, rfl, ?_⟩
    rw [if_neg Bool.false_ne_true, nums_in]
    unfold Rh08.hasWord at kk
    by_cases c : t.head.contains w = true
    · rw [if_pos c]
      rw [c, Bool.true_or] at kk
      exact kk
    · rw [if_neg c]
      refine ⟨_, rfl, _, rfl, a, CT, dx, _, _, rfl, h1, T.cT, T.nBody, tF_body _ _ _, b, _, rfl, .inl (SqL.of h3), rfl, nums_flat _, ?_⟩
      rw [if_neg Bool.false_ne_true, nums_in]
      rw [Bool.not_eq_true _ |>.mp c, Bool.false_or] at kk
      exact kk
end
end Mk
set_option Elab.async false
set_option maxRecDepth 100000
set_option maxHeartbeats 5000000
/-! What is counted of all texts. -/
namespace Mk
open PySem PySem.Spec PyProof.Rows L2
abbrev s_how_many_have : Stmt := top 11
abbrev s_words_in_heads : Stmt := top 12
abbrev s_words_in_bodies : Stmt := top 13
theorem take_more {α : Type} {l : List α} {i : Nat} {x : α} (h : l[i]? = some x) : l.take (i + 1) = l.take i ++ [x] := by
  rw [List.take_add_one, h]
  rfl
theorem kvT_get {es : List (Addr × Rh08.Text)} {i : Nat} {k : Key} {x : V} (h : (kvT es)[i]? = some (k, x)) : ∃ e, es[i]? = some e ∧ k = Sum.inl (e.2.key : Int) ∧ x = V.ref e.1 := by
  unfold kvT at h
  rw [List.getElem?_map] at h
  cases q : es[i]? with
  | none => rw [q] at h; cases h
  | some e =>
    rw [q] at h
    have h' := Option.some.inj h
    exact ⟨e, rfl, (Prod.mk.inj h').1.symm, (Prod.mk.inj h').2.symm⟩
theorem kvT_len (es : List (Addr × Rh08.Text)) : (kvT es).length = es.length := List.length_map _
theorem DeskIn.len {CT CD : Addr} {H : Hp} {a dx d q : Addr} {es : List (Addr × Rh08.Text)} {as : List (Addr × (Nat × Nat))} {s : Rh08.Desk} (h : DeskIn CT CD H a dx d q es as s) : es.length = s.texts.length := by
  have := h.pm.length_eq
  rw [List.length_map] at this
  exact this
theorem total_perm {α : Type} {f : α → Nat} {l l' : List α} (h : l.Perm l') : Rh08.total (l.map f) = Rh08.total (l'.map f) := by
  induction h with
  | nil => rfl
  | cons x _ ih => exact congrArg (f x + ·) ih
  | swap x y l => show f y + (f x + _) = f x + (f y + _); omega
  | trans _ _ a b => exact a.trans b
theorem having_perm {l l' : List Rh08.Text} (h : l.Perm l') (w : Nat) : having l w = having l' w := (h.filter _).length_eq
theorem ifT {c : Bool} {A B : Prop} (hc : c = true) (h : A) : if c = true then A else B := by
  rw [if_pos hc]
  exact h
theorem ifF {c : Bool} {A B : Prop} (hc : ¬ c = true) (h : B) : if c = true then A else B := by
  rw [if_neg hc]
  exact h
/-- back from a lock -/
theorem same_lock {H : Hp} {d D : Addr} {o u x : HO} (hd : H d = some o) (hD : H D = none) : Same H (upd (upd (upd H d u) D x) d o) := fun b v e => by
  by_cases c : b = d
  · subst c
    rw [upd_same, ← hd]
    exact e
  · rw [upd_ne c, upd_ne (ne_of_none e hD), upd_ne c]
    exact e
theorem free_lock {H : Hp} {d D : Addr} {o u : HO} (_ : H d = some o) (hD : upd H d u D = none) : H D = none ∧ D ≠ d := by
  have c : D ≠ d := fun z => by rw [z, upd_same] at hD; cases hD
  rw [upd_ne c] at hD
  exact ⟨hD, c⟩
def spHave (CT CD : Addr) : Sp := fun vs H Q _ => ∃ (a : Addr) (s : Rh08.Desk) (w : Nat), vs = [.ref a, .int (w : Int)] ∧ DeskAt CT CD H a s ∧ Ok s ∧ ∀ H', Same H H' → Q (.int (having s.texts w : Nat)) H'
def rLen (K : PySem.W.Frag) : List V → Hp → VK → Prop := fun xs H Q => ∃ p ys, xs = [.ref p] ∧ (SqL K H p ys ∨ SqT K H p ys) ∧ Q (.int ys.length) H
theorem sum_total {α : Type} (f : α → Nat) : ∀ l : List α, (l.map fun e => (f e : Int)).sum = (Rh08.total (l.map f) : Nat)
  | [] => rfl
  | x :: l => by
    rw [List.map_cons, List.sum_cons, sum_total f l]
    show (f x : Int) + (Rh08.total (l.map f) : Nat) = ((f x + Rh08.total (l.map f) : Nat) : Int)
    omega
def spTotal (CT CD : Addr) (g : List Rh08.Text → Nat) : Sp := fun vs H Q _ => ∃ (a : Addr) (s : Rh08.Desk), vs = [.ref a] ∧ DeskAt CT CD H a s ∧ Ok s ∧ ∀ H', Same H H' → Q (.int (g s.texts : Nat)) H'
section
variable {P : Program} {w : World} {K : PySem.W.Frag} {mg : Str → Option Value} {base : Heap} {CT CD : Addr}
theorem scHave : FnScope ["desk", "word", "text"] ["desk", "word"] (defScope s_how_many_have) := ⟨rfl, rfl, rfl, by decide +kernel, rfl, by decide +kernel, by decide +kernel⟩
theorem ok_how_many_have {f : Addr} {fd : FuncData} (F : Fun K "how_many_have" "how_many_have" s_how_many_have f fd) (T : Txt K mg CT CD) (G : Has P w K mg base 1 "has_word" ["text", "word"] (spHasWord CT)) : FnOk P w K mg base CX0 2 f fd ["desk", "word"] (spHave CT CD) := by
  refine F.ok scHave (fun vs H Q E h => ?_) (fun cdv A outer s H vs Q E hr h => ?_)
  · obtain ⟨a, t, w, rfl, _⟩ := h
    rfl
  · obtain ⟨a, s0, w, rfl, ⟨dx, d, q, es, as, DI⟩, O, kk⟩ := h
    refine ⟨_, pss_one (ps_ret (pe_lock (pe_callB call_len_seq (by rfl) T.len PySem.boot_len (pa_cons (pe_lc (own := [("text", 2)]) (g := gName 2) (by rfl) scHave.nd (pi_values (pe_fld (pv 0) rfl))
      (blkOk_by (own := [("text", 2)]) (N := ["desk", "word", "text"]) (sc := defScope s_how_many_have) (by decide +kernel)) (fun _ _ _ _ _ => pg_name (i := 2) scHave.nd rfl (Or.inl rfl)) (fun _ _ _ _ _ => pts_one (pt_val (pe_cl G hr (pa_cons (pv 2) (pa_cons (pv 1) pa_nil)))))
      (fun _ _ _ _ _ => pv 2)) pa_nil)))), ?_⟩
    refine ⟨d, .dK (kvT es), DI.dc, trivial, fun od => ?_⟩
    have had : a ≠ d := ne_of DI.ob DI.dc (fun z => by cases z)
    refine ⟨_, rfl, a, CD, dx, _, _, rfl, (by rw [upd_ne had]; exact DI.ob), T.cD, T.nTexts, dF_texts _ _ _, d, od, kvT es, rfl, upd_same, fun D hD => ?_⟩
    obtain ⟨hD0, hDd⟩ := free_lock DI.dc hD
    have hz := O.t.len
    have hl := DI.len
    refine lc_it walk_values (fun i H' => H' = upd (upd H d (.frz od (.dK (kvT es)))) D (.lst (((es.take i).filter fun e => Rh08.hasWord w e.2).map fun e => V.ref e.1))) rfl (fun i H' _ e => by rw [e, upd_ne hDd.symm, upd_same]) ?_ ?_
    · rintro i x H1 H2 hi rfl ⟨rfl, k, hk⟩
      obtain ⟨e, he, _, rfl⟩ := kvT_get hk
      have hm : e ∈ es := List.mem_of_getElem? he
      have tx : TextAt CT (upd (upd H d (.frz od (.dK (kvT es)))) D (.lst (((es.take i).filter fun e => Rh08.hasWord w e.2).map fun e => V.ref e.1))) e.1 e.2 := by
        obtain ⟨dx, p, b, h1, h2, h3⟩ := DI.tx e hm
        refine ⟨dx, p, b, ?_, ?_, ?_⟩
        · rw [upd_ne (ne_of_none h1 hD0), upd_ne (ne_of h1 DI.dc (fun z => by cases z))]; exact h1
        · rw [upd_ne (ne_of_none h2 hD0), upd_ne (ne_of h2 DI.dc (fun z => by cases z))]; exact h2
        · rw [upd_ne (ne_of_none h3 hD0), upd_ne (ne_of h3 DI.dc (fun z => by cases z))]; exact h3
      refine ⟨rfl, _, rfl, _, rfl, e.1, e.2, w, rfl, tx, _, rfl, ?_⟩
      have tk := take_more he
      by_cases c : Rh08.hasWord w e.2 = true
      · refine ifT c ?_
        refine ⟨_, rfl, _, upd_same, ?_, ?_⟩
        · rw [List.length_map]
          have : ((es.take i).filter fun e => Rh08.hasWord w e.2).length ≤ es.length := Nat.le_trans (List.length_filter_le _ _) (by rw [List.length_take]; omega)
          exact small1000 (by omega)
        · rw [upd_upd, tk, List.filter_append, List.map_append]
          simp [c]
      · refine ifF c ?_
        rw [tk, List.filter_append, List.map_append]
        simp [c]
    · rintro H1 rfl
      refine ⟨D, _, rfl, .inl (SqL.of upd_same), ?_, ?_⟩
      · rw [upd_ne hDd.symm, upd_same]
      · rw [kvT_len, List.take_length, List.length_map]
        have e1 : (es.filter fun e => Rh08.hasWord w e.2).length = having s0.texts w := by
          rw [← having_perm DI.pm w]
          unfold having
          rw [List.filter_map, List.length_map]
          rfl
        rw [e1]
        exact kk _ (same_lock DI.dc hD0)
theorem sc_words_in_heads : FnScope ["desk", "text"] ["desk"] (defScope s_words_in_heads) := ⟨rfl, rfl, rfl, by decide +kernel, rfl, by decide +kernel, by decide +kernel⟩
theorem ok_words_in_heads {f : Addr} {fd : FuncData} (F : Fun K "words_in_heads" "words_in_heads" s_words_in_heads f fd) (T : Txt K mg CT CD) : FnOk P w K mg base CX0 1 f fd ["desk"] (spTotal CT CD heads) := by
  refine F.ok sc_words_in_heads (fun vs H Q E h => ?_) (fun cdv A outer s H vs Q E hr h => ?_)
  · obtain ⟨a, t, rfl, _⟩ := h
    rfl
  · obtain ⟨a, s0, rfl, ⟨dx, d, q, es, as, DI⟩, O, kk⟩ := h
    refine ⟨_, pss_one (ps_ret (pe_lock (pe_callB (cr_sum (by rfl)) (by rfl) T.sum (by decide +kernel) (pa_cons (pe_lc (own := [("text", 1)]) (g := gName 1) (te := tCB (rLen K) (tCons (tFld K (tVar 1) "head") tNil)) (by rfl) sc_words_in_heads.nd (pi_values (pe_fld (pv 0) rfl))
      (blkOk_by (own := [("text", 1)]) (N := ["desk", "text"]) (sc := defScope s_words_in_heads) (by decide +kernel)) (fun _ _ _ _ _ => pg_name (i := 1) sc_words_in_heads.nd rfl (Or.inl rfl)) (fun _ _ _ _ _ => pts_nil)
      (fun _ _ _ _ _ => by exact pe_callB call_len_seq (by rfl) T.len PySem.boot_len (pa_cons (pe_fld (pv 1) rfl) pa_nil))) pa_nil)))), ?_⟩
    refine ⟨d, .dK (kvT es), DI.dc, trivial, fun od => ?_⟩
    have had : a ≠ d := ne_of DI.ob DI.dc (fun z => by cases z)
    refine ⟨_, rfl, a, CD, dx, _, _, rfl, (by rw [upd_ne had]; exact DI.ob), T.cD, T.nTexts, dF_texts _ _ _, d, od, kvT es, rfl, upd_same, fun D hD => ?_⟩
    obtain ⟨hD0, hDd⟩ := free_lock DI.dc hD
    have hz := O.t.len
    have hl := DI.len
    refine lc_it walk_values (fun i H' => H' = upd (upd H d (.frz od (.dK (kvT es)))) D (.lst (((es.take i).map fun e => (e.2.head.length : Int)).map V.int))) rfl (fun i H' _ e => by rw [e, upd_ne hDd.symm, upd_same]) ?_ ?_
    · rintro i x H1 H2 hi rfl ⟨rfl, k, hk⟩
      obtain ⟨e, he, _, rfl⟩ := kvT_get hk
      have hm : e ∈ es := List.mem_of_getElem? he
      obtain ⟨dt, p, b, h1, h2, h3⟩ := DI.tx e hm
      have tk := take_more he
      refine ⟨rfl, _, rfl, e.1, CT, dt, _, _, rfl, (by rw [upd_ne (ne_of_none h1 hD0), upd_ne (ne_of h1 DI.dc (fun z => by cases z))]; exact h1), T.cT, T.nHead, tF_head _ _ _, p, _, rfl, .inl (SqL.of (by rw [upd_ne (ne_of_none h2 hD0), upd_ne (ne_of h2 DI.dc (fun z => by cases z))]; exact h2)), _, upd_same, ?_, ?_⟩
      · rw [List.length_map, List.length_map, List.length_take]
        exact small1000 (by omega)
      · rw [upd_upd, tk, List.map_append, List.map_append, nums_len]
        rfl
    · rintro H1 rfl
      refine ⟨D, _, rfl, SqL.of upd_same, ?_, ?_⟩
      · rw [upd_ne hDd.symm, upd_same]
      · rw [kvT_len, List.take_length, sum_total (fun e : Addr × Rh08.Text => e.2.head.length)]
        have e1 : Rh08.total (es.map fun e => e.2.head.length) = heads s0.texts := by
          unfold heads
          rw [← total_perm DI.pm, List.map_map]
          rfl
        rw [e1]
        exact kk _ (same_lock DI.dc hD0)
theorem sc_words_in_bodies : FnScope ["desk", "text"] ["desk"] (defScope s_words_in_bodies) := ⟨rfl, rfl, rfl, by decide +kernel, rfl, by decide +kernel, by decide +kernel⟩
theorem ok_words_in_bodies {f : Addr} {fd : FuncData} (F : Fun K "words_in_bodies" "words_in_bodies" s_words_in_bodies f fd) (T : Txt K mg CT CD) : FnOk P w K mg base CX0 1 f fd ["desk"] (spTotal CT CD bodies) := by
  refine F.ok sc_words_in_bodies (fun vs H Q E h => ?_) (fun cdv A outer s H vs Q E hr h => ?_)
  · obtain ⟨a, t, rfl, _⟩ := h
    rfl
  · obtain ⟨a, s0, rfl, ⟨dx, d, q, es, as, DI⟩, O, kk⟩ := h
    refine ⟨_, pss_one (ps_ret (pe_lock (pe_callB (cr_sum (by rfl)) (by rfl) T.sum (by decide +kernel) (pa_cons (pe_lc (own := [("text", 1)]) (g := gName 1) (te := tCB (rLen K) (tCons (tFld K (tVar 1) "body") tNil)) (by rfl) sc_words_in_bodies.nd (pi_values (pe_fld (pv 0) rfl))
      (blkOk_by (own := [("text", 1)]) (N := ["desk", "text"]) (sc := defScope s_words_in_bodies) (by decide +kernel)) (fun _ _ _ _ _ => pg_name (i := 1) sc_words_in_bodies.nd rfl (Or.inl rfl)) (fun _ _ _ _ _ => pts_nil)
      (fun _ _ _ _ _ => by exact pe_callB call_len_seq (by rfl) T.len PySem.boot_len (pa_cons (pe_fld (pv 1) rfl) pa_nil))) pa_nil)))), ?_⟩
    refine ⟨d, .dK (kvT es), DI.dc, trivial, fun od => ?_⟩
    have had : a ≠ d := ne_of DI.ob DI.dc (fun z => by cases z)
    refine ⟨_, rfl, a, CD, dx, _, _, rfl, (by rw [upd_ne had]; exact DI.ob), T.cD, T.nTexts, dF_texts _ _ _, d, od, kvT es, rfl, upd_same, fun D hD => ?_⟩
    obtain ⟨hD0, hDd⟩ := free_lock DI.dc hD
    have hz := O.t.len
    have hl := DI.len
    refine lc_it walk_values (fun i H' => H' = upd (upd H d (.frz od (.dK (kvT es)))) D (.lst (((es.take i).map fun e => (e.2.body.length : Int)).map V.int))) rfl (fun i H' _ e => by rw [e, upd_ne hDd.symm, upd_same]) ?_ ?_
    · rintro i x H1 H2 hi rfl ⟨rfl, k, hk⟩
      obtain ⟨e, he, _, rfl⟩ := kvT_get hk
      have hm : e ∈ es := List.mem_of_getElem? he
      obtain ⟨dt, p, b, h1, h2, h3⟩ := DI.tx e hm
      have tk := take_more he
      refine ⟨rfl, _, rfl, e.1, CT, dt, _, _, rfl, (by rw [upd_ne (ne_of_none h1 hD0), upd_ne (ne_of h1 DI.dc (fun z => by cases z))]; exact h1), T.cT, T.nBody, tF_body _ _ _, b, _, rfl, .inl (SqL.of (by rw [upd_ne (ne_of_none h3 hD0), upd_ne (ne_of h3 DI.dc (fun z => by cases z))]; exact h3)), _, upd_same, ?_, ?_⟩
      · rw [List.length_map, List.length_map, List.length_take]
        exact small1000 (by omega)
      · rw [upd_upd, tk, List.map_append, List.map_append, nums_len]
        rfl
    · rintro H1 rfl
      refine ⟨D, _, rfl, SqL.of upd_same, ?_, ?_⟩
      · rw [upd_ne hDd.symm, upd_same]
      · rw [kvT_len, List.take_length, sum_total (fun e : Addr × Rh08.Text => e.2.body.length)]
        have e1 : Rh08.total (es.map fun e => e.2.body.length) = bodies s0.texts := by
          unfold bodies
          rw [← total_perm DI.pm, List.map_map]
          rfl
        rw [e1]
        exact kk _ (same_lock DI.dc hD0)
end
end Mk
set_option Elab.async false
set_option maxRecDepth 100000
set_option maxHeartbeats 5000000
/-! How dense, how full, how rare; what a word gives; the mark. -/
namespace Mk
open PySem PySem.Spec PyProof.Rows L2
abbrev s_how_dense : Stmt := top 14
abbrev s_density : Stmt := top 15
abbrev s_how_full : Stmt := top 16
abbrev s_how_rare : Stmt := top 17
abbrev s_what_it_gives : Stmt := top 18
abbrev s_mark_of : Stmt := top 19
theorem nums_eq (l : List Nat) : nums l = (l.map fun (n : Nat) => (n : Int)).map V.int := by
  unfold nums
  rw [List.map_map]
  rfl
theorem often_count (w : Nat) : ∀ l : List Nat, (l.map fun (n : Nat) => (n : Int)).count (w : Int) = Rh08.often w l
  | [] => rfl
  | x :: l => by
    have ih := often_count w l
    unfold Rh08.often at ih ⊢
    rw [List.map_cons, List.count_cons, List.filter_cons, ih]
    by_cases c : x = w
    · subst c
      simp
    · have c' : ¬ (x : Int) = (w : Int) := by omega
      simp [c, c']
/-- * of small numbers -/
theorem smul {a b : Int} (ha : a.natAbs < 2 ^ 64) (hb : b.natAbs < 2 ^ 64) : CMulW a b := wmul ha hb (by decide) (by decide) (by decide) (by decide)
def spDense (CT CD : Addr) : Sp := fun vs H Q _ => ∃ (a p : Addr) (s : Rh08.Desk) (w : Nat) (l : List Nat) (A : Nat), vs = [.ref a, .int (w : Int), .ref p, .int (A : Int)] ∧ DeskAt CT CD H a s ∧ Ok s ∧ H p = some (.lst (nums l)) ∧ l.length ≤ 12 ∧ A ≤ 360 ∧
  ∀ (H' : Hp) (r : Addr), Same H H' → H r = none → FrA H' r (denseF s.tune.long s.texts.length A (Rh08.often w l) l.length) → Q (.ref r) H'
section
variable {P : Program} {w : World} {K : PySem.W.Frag} {mg : Str → Option Value} {base : Heap} {CT CD : Addr}
theorem sc_dense : FnScope ["desk", "word", "part", "words_in_all", "often", "a"] ["desk", "word", "part", "words_in_all"] (defScope s_how_dense) := ⟨rfl, rfl, rfl, by decide +kernel, rfl, by decide +kernel, by decide +kernel⟩
theorem ok_how_dense {f : Addr} {fd : FuncData} (F : Fun K "how_dense" "how_dense" s_how_dense f fd) (T : Txt K mg CT CD) : FnOk P w K mg base CX0 1 f fd ["desk", "word", "part", "words_in_all"] (spDense CT CD) := by
  refine F.ok sc_dense (fun vs H Q E h => ?_) (fun cdv A outer s H vs Q E hr h => ?_)
  · obtain ⟨a, p, s, w, l, A, rfl, _⟩ := h
    rfl
  · obtain ⟨a, p, s0, w, l, n, rfl, ⟨dx, d, q, es, as, DI⟩, O, hp, hl, hn, kk⟩ := h
    refine ⟨_, pss_cons (ps_set (i := 4) sc_dense.nd rfl (Or.inl rfl) (pe_bm PySem.F.plainAttrs_list PySem.F.slot_list_count PySem.F.type_list_count mt_lcount (pv 2) (pa_cons (pv 1) pa_nil)))
      (pss_cons (ps_if (pt_cmpR op_eq (pv 4) pe_int (nomark _)) (pss_one (ps_ret (pe_tup (pa_cons pe_int (pa_cons pe_int pa_nil))))) pss_nil)
      (pss_cons (ps_set (i := 5) sc_dense.nd rfl (Or.inl rfl) (pe_fld (pv 0) rfl))
      (pss_one (ps_ret (pe_tup (pa_cons (pe_op op_mulW (pe_op op_mulW pe_int (pv 3)) (pv 4)) (pa_cons
        (pe_op op_add (pe_op op_mulW (pe_op op_sub pe_int (pv 5)) (pv 3)) (pe_op op_mulW (pe_op op_mulW (pv 5) (pe_callB call_len_seq (by rfl) T.len PySem.boot_len (pa_cons (pv 2) pa_nil))) (pe_callB call_lenD (by rfl) T.len PySem.boot_len (pa_cons (pe_fld (pv 0) rfl) pa_nil)))) pa_nil))))))), ?_⟩
    have hle := often_le w l
    have ha := O.u.a1
    have hN := O.t.len
    have hL := DI.len
    have m1 : s0.tune.long * l.length ≤ 10 * 12 := Nat.mul_le_mul ha hl
    refine ⟨_, rfl, .inl ⟨rfl, _, SqL.of hp⟩, _, rfl, p, _, _, rfl, rfl, (by rw [← nums_eq]; exact SqL.of hp), ?_⟩
    rw [often_count]
    refine ⟨_, rfl, rfl, _, rfl, ?_⟩
    refine ite2 (fun c => ?_) (fun c => ?_)
    · have c0 : Rh08.often w l = 0 := by
        have : (V.int ((Rh08.often w l : Nat) : Int)) = V.int 0 := by simpa using c
        have := V.int.inj this
        omega
      refine ⟨by show 2 ≤ sizeLine; decide, fun r hr0 => ?_⟩
      refine kk _ r (same_upd hr0) hr0 ?_
      unfold denseF
      rw [if_pos c0]
      exact upd_same
    · have c0 : ¬ Rh08.often w l = 0 := fun z => c (by rw [z]; rfl)
      refine ⟨_, rfl, a, CD, dx, _, _, rfl, DI.ob, T.cD, T.nA, dF_a _ _ _, ?_⟩
      refine ⟨_, rfl, _, _, rfl, rfl, smul (by decide) (by omega), _, rfl, _, _, rfl, rfl, smul (by omega) (by omega), ?_⟩
      refine ⟨_, rfl, _, _, rfl, rfl, _, rfl, _, _, rfl, rfl, smul (by omega) (by omega), ?_⟩
      refine ⟨_, rfl, _, rfl, p, _, rfl, .inl (SqL.of hp), _, _, rfl, rfl, smul (by omega) (by rw [nums_len]; omega), ?_⟩
      refine ⟨_, rfl, a, CD, dx, _, _, rfl, DI.ob, T.cD, T.nTexts, dF_texts _ _ _, d, _, rfl, DI.dc, _, _, rfl, rfl, smul ?_ (by rw [kvT_len]; omega), _, _, rfl, rfl, ?_⟩
      · rw [nums_len]
        have : (s0.tune.long : Int) * (l.length : Int) = ((s0.tune.long * l.length : Nat) : Int) := by push_cast; rfl
        rw [this]; omega
      refine ⟨by show 2 ≤ sizeLine; decide, fun r hr0 => ?_⟩
      refine kk _ r (same_upd hr0) hr0 ?_
      unfold denseF
      rw [if_neg c0, nums_len, kvT_len, hL]
      exact upd_same
end
def spDensity (CT CD : Addr) : Sp := fun vs H Q _ => ∃ (a ta : Addr) (s : Rh08.Desk) (w : Nat) (t : Rh08.Text), vs = [.ref a, .int (w : Int), .ref ta] ∧ DeskAt CT CD H a s ∧ Ok s ∧ TextAt CT H ta t ∧ t ∈ s.texts ∧
  ∀ (H' : Hp) (r : Addr), Same H H' → H r = none → FrA H' r (densityF s.tune s.texts w t) → Q (.ref r) H'
def spFull (CT CD : Addr) : Sp := fun vs H Q _ => ∃ (a p : Addr) (s : Rh08.Desk) (x : Fr) (k : Nat), vs = [.ref a, .ref p] ∧ DeskAt CT CD H a s ∧ Ok s ∧ FrA H p x ∧ Gd k x ∧ k ≤ 900 ∧
  ∀ (H' : Hp) (r : Addr), Same H H' → H r = none → FrA H' r (fullF s.tune x) → Q (.ref r) H'
def spRare (CT CD : Addr) : Sp := fun vs H Q _ => ∃ (a : Addr) (s : Rh08.Desk) (w : Nat), vs = [.ref a, .int (w : Int)] ∧ DeskAt CT CD H a s ∧ Ok s ∧
  ∀ (H' : Hp) (r : Addr), Same H H' → H r = none → FrA H' r (rareF s.texts w) → Q (.ref r) H'
def spGives (CT CD : Addr) : Sp := fun vs H Q _ => ∃ (a ta : Addr) (s : Rh08.Desk) (x : Nat × Nat) (t : Rh08.Text), vs = [.ref a, .int (x.1 : Int), .int (x.2 : Int), .ref ta] ∧ DeskAt CT CD H a s ∧ Ok s ∧ TextAt CT H ta t ∧ t ∈ s.texts ∧ x ∈ s.tune.ask ∧
  ∀ (H' : Hp) (r : Addr), Same H H' → H r = none → FrA H' r (givesF s.tune s.texts x t) → Q (.ref r) H'
def spMark (CT CD : Addr) : Sp := fun vs H Q _ => ∃ (a ta : Addr) (s : Rh08.Desk) (t : Rh08.Text), vs = [.ref a, .ref ta] ∧ DeskAt CT CD H a s ∧ Ok s ∧ TextAt CT H ta t ∧ t ∈ s.texts ∧
  ∀ (H' : Hp) (r : Addr), Same H H' → H r = none → FrA H' r (markF s.tune s.texts t) → Q (.ref r) H'
section
variable {P : Program} {w : World} {K : PySem.W.Frag} {mg : Str → Option Value} {base : Heap} {CT CD : Addr}
theorem sc_density : FnScope ["desk", "word", "text", "in_head", "in_body"] ["desk", "word", "text"] (defScope s_density) := ⟨rfl, rfl, rfl, by decide +kernel, rfl, by decide +kernel, by decide +kernel⟩
theorem ok_density {f : Addr} {fd : FuncData} (F : Fun K "density" "density" s_density f fd) (T : Txt K mg CT CD) (GD : Has P w K mg base 1 "how_dense" ["desk", "word", "part", "words_in_all"] (spDense CT CD)) (GH : Has P w K mg base 1 "words_in_heads" ["desk"] (spTotal CT CD heads))
    (GB : Has P w K mg base 1 "words_in_bodies" ["desk"] (spTotal CT CD bodies)) (GP : Has P w K mg base 1 "plus" ["x", "y"] (sp2 plus)) (GT : Has P w K mg base 1 "times" ["x", "y"] (sp2 times)) : FnOk P w K mg base CX0 2 f fd ["desk", "word", "text"] (spDensity CT CD) := by
  refine F.ok sc_density (fun vs H Q E h => ?_) (fun cdv A outer s H vs Q E hr h => ?_)
  · obtain ⟨a, ta, s, w, t, rfl, _⟩ := h
    rfl
  · obtain ⟨a, ta, s0, w, t, rfl, D0, O, X0, mt, kk⟩ := h
    refine ⟨_, pss_cons (ps_set (i := 3) sc_density.nd rfl (Or.inl rfl) (pe_cl GD hr (pa_cons (pv 0) (pa_cons (pv 1) (pa_cons (pe_fld (pv 2) rfl) (pa_cons (pe_cl GH hr (pa_cons (pv 0) pa_nil)) pa_nil))))))
      (pss_cons (ps_set (i := 4) sc_density.nd rfl (Or.inl rfl) (pe_cl GD hr (pa_cons (pv 0) (pa_cons (pv 1) (pa_cons (pe_fld (pv 2) rfl) (pa_cons (pe_cl GB hr (pa_cons (pv 0) pa_nil)) pa_nil))))))
      (pss_one (ps_ret (pe_cl GP hr (pa_cons (pe_cl GT hr (pa_cons (pe_tup (pa_cons (pe_fld (pv 0) rfl) (pa_cons pe_int pa_nil))) (pa_cons (pv 3) pa_nil))) (pa_cons (pe_cl GT hr (pa_cons (pe_tup (pa_cons (pe_fld (pv 0) rfl) (pa_cons pe_int pa_nil))) (pa_cons (pv 4) pa_nil))) pa_nil)))))), ?_⟩
    have gH := Gd_denseH O.u O.t mt w
    have gB := Gd_denseB O.u O.t mt w
    have c1 := O.u.c1
    have d1 := O.u.d1
    have gc : Gd 4 ((s0.tune.head : Int), 1) := gd_one (by omega) (by decide)
    have gd : Gd 4 ((s0.tune.body : Int), 1) := gd_one (by omega) (by decide)
    obtain ⟨dt, ph, pb, h1, h2, h3⟩ := id X0
    refine ⟨_, rfl, _, rfl, _, rfl, ta, CT, dt, _, _, rfl, h1, T.cT, T.nHead, tF_head _ _ _, _, rfl, a, s0, rfl, D0, O, fun H1 e1 => ?_⟩
    refine ⟨a, ph, s0, w, t.head, heads s0.texts, rfl, D0.same e1, O, e1 _ _ h2, (O.t.ok t mt).h, heads_le O.t, fun H2 r2 e2 n2 f2 => ?_⟩
    have e12 := e1.trans e2
    refine ⟨_, rfl, _, rfl, _, rfl, ta, CT, dt, _, _, rfl, e12 _ _ h1, T.cT, T.nBody, tF_body _ _ _, _, rfl, a, s0, rfl, D0.same e12, O, fun H3 e3 => ?_⟩
    have e13 := e12.trans e3
    refine ⟨a, pb, s0, w, t.body, bodies s0.texts, rfl, D0.same e13, O, e13 _ _ h3, (O.t.ok t mt).b, bodies_le O.t, fun H4 r4 e4 n4 f4 => ?_⟩
    have e14 := e13.trans e4
    obtain ⟨dx, d, q, es, as, DI⟩ := id (D0.same e14)
    refine ⟨_, rfl, a, CD, dx, _, _, rfl, DI.ob, T.cD, T.nC, dF_c _ _ _, (by show 2 ≤ sizeLine; decide), fun p5 n5 => ?_⟩
    have e5 : Same H4 _ := same_upd (o := .tup [.int (s0.tune.head : Int), .int 1]) n5
    refine ⟨_, rfl, p5, r2, ((s0.tune.head : Int), 1), _, 4, 16, rfl, upd_same, ((f2.same e3).same e4).same e5, gc, gH, by decide, by decide, fun H6 r6 e6 n6 f6 => ?_⟩
    refine ⟨_, rfl, a, CD, dx, _, _, rfl, (DI.same (e5.trans e6)).ob, T.cD, T.nD, dF_d _ _ _, (by show 2 ≤ sizeLine; decide), fun p7 n7 => ?_⟩
    have e7 : Same H6 _ := same_upd (o := .tup [.int (s0.tune.body : Int), .int 1]) n7
    refine ⟨_, rfl, p7, r4, ((s0.tune.body : Int), 1), _, 4, 16, rfl, upd_same, ((f4.same e5).same e6).same e7, gd, gB, by decide, by decide, fun H8 r8 e8 n8 f8 => ?_⟩
    refine ⟨r6, r8, _, _, 20, 20, rfl, (f6.same e7).same e8, f8, Gd.times gc gH, Gd.times gd gB, by decide, by decide, fun H9 r9 e9 n9 f9 => ?_⟩
    have all : Same H H8 := e14.trans (e5.trans (e6.trans (e7.trans e8)))
    exact kk H9 r9 (all.trans e9) (all.free n9) f9
theorem sc_full : FnScope ["desk", "x"] ["desk", "x"] (defScope s_how_full) := ⟨rfl, rfl, rfl, by decide +kernel, rfl, by decide +kernel, by decide +kernel⟩
theorem ok_how_full {f : Addr} {fd : FuncData} (F : Fun K "how_full" "how_full" s_how_full f fd) (T : Txt K mg CT CD) : FnOk P w K mg base CX0 1 f fd ["desk", "x"] (spFull CT CD) := by
  refine F.ok sc_full (fun vs H Q E h => ?_) (fun cdv A outer s H vs Q E hr h => ?_)
  · obtain ⟨a, p, s, x, k, rfl, _⟩ := h
    rfl
  · obtain ⟨a, p, s0, x, k, rfl, ⟨dx, d, q, es, as, DI⟩, O, hx, gx, hk, kk⟩ := h
    refine ⟨_, pss_one (ps_ret (pe_tup (pa_cons (pe_op op_mulW (pe_ix ix_tup (pv 1) pe_int (fun _ _ => rfl)) (pe_op op_add (pe_fld (pv 0) rfl) pe_int))
      (pa_cons (pe_op op_add (pe_op op_mulW pe_int (pe_ix ix_tup (pv 1) pe_int (fun _ _ => rfl))) (pe_op op_mulW (pe_fld (pv 0) rfl) (pe_ix ix_tup (pv 1) pe_int (fun _ _ => rfl)))) pa_nil)))), ?_⟩
    have b1 := O.u.b1
    refine ⟨_, rfl, p, _, _, _, rfl, rfl, SqT.of hx, at0, _, rfl, a, CD, dx, _, _, rfl, DI.ob, T.cD, T.nB, dF_b _ _ _, _, _, rfl, rfl, _, _, rfl, rfl, wmul (k := 64) gx.abs1 (by omega) gx.pos (by decide) (by omega) (by decide), ?_⟩
    refine ⟨_, rfl, p, _, _, _, rfl, rfl, SqT.of hx, at0, _, _, rfl, rfl, wmul (j := 64) (by decide) gx.abs1 (by decide) gx.pos (by decide) (by omega), ?_⟩
    refine ⟨_, rfl, a, CD, dx, _, _, rfl, DI.ob, T.cD, T.nB, dF_b _ _ _, _, rfl, p, _, _, _, rfl, rfl, SqT.of hx, at1, _, _, rfl, rfl, wmul (j := 64) (by omega) gx.abs2 (by decide) gx.pos (by decide) (by omega), _, _, rfl, rfl, ?_⟩
    refine ⟨by show 2 ≤ sizeLine; decide, fun r hn => ?_⟩
    exact kk _ r (same_upd hn) hn upd_same
theorem sc_rare : FnScope ["desk", "word"] ["desk", "word"] (defScope s_how_rare) := ⟨rfl, rfl, rfl, by decide +kernel, rfl, by decide +kernel, by decide +kernel⟩
theorem ok_how_rare {f : Addr} {fd : FuncData} (F : Fun K "how_rare" "how_rare" s_how_rare f fd) (T : Txt K mg CT CD) (G : Has P w K mg base 2 "how_many_have" ["desk", "word"] (spHave CT CD)) : FnOk P w K mg base CX0 3 f fd ["desk", "word"] (spRare CT CD) := by
  refine F.ok sc_rare (fun vs H Q E h => ?_) (fun cdv A outer s H vs Q E hr h => ?_)
  · obtain ⟨a, s, w, rfl, _⟩ := h
    rfl
  · obtain ⟨a, s0, w, rfl, D0, O, kk⟩ := h
    obtain ⟨dx, d, q, es, as, DI⟩ := id D0
    refine ⟨_, pss_one (ps_ret (pe_tup (pa_cons (pe_op op_add (pe_callB call_lenD (by rfl) T.len PySem.boot_len (pa_cons (pe_fld (pv 0) rfl) pa_nil)) pe_int)
      (pa_cons (pe_op op_add (pe_cl G hr (pa_cons (pv 0) (pa_cons (pv 1) pa_nil))) pe_int) pa_nil)))), ?_⟩
    refine ⟨_, rfl, a, CD, dx, _, _, rfl, DI.ob, T.cD, T.nTexts, dF_texts _ _ _, d, _, rfl, DI.dc, _, _, rfl, rfl, ?_⟩
    refine ⟨_, rfl, _, rfl, a, s0, w, rfl, D0, O, fun H1 e1 => ?_⟩
    refine ⟨_, _, rfl, rfl, (by show 2 ≤ sizeLine; decide), fun r hn => ?_⟩
    refine kk _ r (e1.trans (same_upd hn)) (e1.free hn) ?_
    unfold rareF
    rw [← DI.len, ← kvT_len es]
    exact upd_same
theorem sc_gives : FnScope ["desk", "word", "weight", "text", "full"] ["desk", "word", "weight", "text"] (defScope s_what_it_gives) := ⟨rfl, rfl, rfl, by decide +kernel, rfl, by decide +kernel, by decide +kernel⟩
theorem ok_what_it_gives {f : Addr} {fd : FuncData} (F : Fun K "what_it_gives" "what_it_gives" s_what_it_gives f fd) (GF : Has P w K mg base 1 "how_full" ["desk", "x"] (spFull CT CD)) (GD : Has P w K mg base 2 "density" ["desk", "word", "text"] (spDensity CT CD))
    (GR : Has P w K mg base 3 "how_rare" ["desk", "word"] (spRare CT CD)) (GT : Has P w K mg base 1 "times" ["x", "y"] (sp2 times)) : FnOk P w K mg base CX0 4 f fd ["desk", "word", "weight", "text"] (spGives CT CD) := by
  refine F.ok sc_gives (fun vs H Q E h => ?_) (fun cdv A outer s H vs Q E hr h => ?_)
  · obtain ⟨a, ta, s, x, t, rfl, _⟩ := h
    rfl
  · obtain ⟨a, ta, s0, x, t, rfl, D0, O, X0, mt, mx, kk⟩ := h
    have hr1 : Room 1 _ := hr.mono (by decide)
    have hr2 : Room 2 _ := hr.mono (by decide)
    refine ⟨_, pss_cons (ps_set (i := 4) sc_gives.nd rfl (Or.inl rfl) (pe_cl GF hr1 (pa_cons (pv 0) (pa_cons (pe_cl GD hr2 (pa_cons (pv 0) (pa_cons (pv 1) (pa_cons (pv 3) pa_nil)))) pa_nil))))
      (pss_one (ps_ret (pe_cl GT hr1 (pa_cons (pe_tup (pa_cons (pv 2) (pa_cons pe_int pa_nil))) (pa_cons (pe_cl GT hr1 (pa_cons (pe_cl GR hr (pa_cons (pv 0) (pa_cons (pv 1) pa_nil))) (pa_cons (pv 4) pa_nil))) pa_nil))))), ?_⟩
    have gD := Gd_density O.u O.t mt x.1
    have gF := Gd_full O.u gD
    have gR := Gd_rare O.t x.1
    have gw : Gd 4 ((x.2 : Int), 1) := gd_one (by have := O.u.w x mx; omega) (by decide)
    refine ⟨_, rfl, _, rfl, _, rfl, _, rfl, a, ta, s0, x.1, t, rfl, D0, O, X0, mt, fun H1 r1 e1 n1 f1 => ?_⟩
    refine ⟨a, r1, s0, _, 41, rfl, D0.same e1, O, f1, gD, by decide, fun H2 r2 e2 n2 f2 => ?_⟩
    have e12 := e1.trans e2
    refine ⟨_, rfl, (by show 2 ≤ sizeLine; decide), fun p3 n3 => ?_⟩
    have e3 : Same H2 _ := same_upd (o := .tup [.int (x.2 : Int), .int 1]) n3
    refine ⟨_, rfl, _, rfl, a, s0, x.1, rfl, D0.same (e12.trans e3), O, fun H4 r4 e4 n4 f4 => ?_⟩
    refine ⟨_, rfl, r4, r2, _, _, 5, 48, rfl, f4, (f2.same e3).same e4, gR, gF, by decide, by decide, fun H5 r5 e5 n5 f5 => ?_⟩
    have f3 : FrA H5 p3 ((x.2 : Int), 1) := FrA.same (FrA.same (H := upd H2 p3 (.tup [.int (x.2 : Int), .int 1])) upd_same e4) e5
    refine ⟨p3, r5, ((x.2 : Int), 1), _, 4, 53, rfl, f3, f5, gw, Gd.times gR gF, by decide, by decide, fun H6 r6 e6 n6 f6 => ?_⟩
    have al : Same H H5 := e12.trans (e3.trans (e4.trans e5))
    exact kk H6 r6 (al.trans e6) (al.free n6) f6
theorem sc_mark : FnScope ["desk", "text", "together", "word", "weight"] ["desk", "text"] (defScope s_mark_of) := ⟨rfl, rfl, rfl, by decide +kernel, rfl, by decide +kernel, by decide +kernel⟩
theorem ok_mark_of {f : Addr} {fd : FuncData} (F : Fun K "mark_of" "mark_of" s_mark_of f fd) (T : Txt K mg CT CD) (GG : Has P w K mg base 4 "what_it_gives" ["desk", "word", "weight", "text"] (spGives CT CD)) (GP : Has P w K mg base 1 "plus" ["x", "y"] (sp2 plus))
    (GT : Has P w K mg base 1 "times" ["x", "y"] (sp2 times)) : FnOk P w K mg base CX0 5 f fd ["desk", "text"] (spMark CT CD) := by
  refine F.ok sc_mark (fun vs H Q E h => ?_) (fun cdv A outer s H vs Q E hr h => ?_)
  · obtain ⟨a, ta, s, t, rfl, _⟩ := h
    rfl
  · obtain ⟨a, ta, s0, t, rfl, D0, O, X0, mt, kk⟩ := h
    have hr1 : Room 1 _ := hr.mono (by decide)
    refine ⟨_, pss_cons (ps_set (i := 2) sc_mark.nd rfl (Or.inl rfl) (pe_tup (pa_cons pe_int (pa_cons pe_int pa_nil))))
      (pss_cons (ps_for PassesOwn.never rfl (pi_list (pe_fld (pv 0) rfl)) (pg_tup rfl (pgs_cons (pg_name (i := 3) sc_mark.nd rfl (Or.inl rfl)) (pgs_cons (pg_name (i := 4) sc_mark.nd rfl (Or.inl rfl)) pgs_nil)))
        (pss_one (ps_set (i := 2) sc_mark.nd rfl (Or.inl rfl) (pe_cl GP hr1 (pa_cons (pv 2) (pa_cons (pe_cl GG hr (pa_cons (pv 0) (pa_cons (pv 3) (pa_cons (pv 4) (pa_cons (pv 1) pa_nil))))) pa_nil))))))
      (pss_one (ps_ret (pe_cl GT hr1 (pa_cons (pv 2) (pa_cons (pe_tup (pa_cons (pe_op op_add pe_int (pe_fld (pv 1) rfl)) (pa_cons pe_int pa_nil))) pa_nil)))))), ?_⟩
    obtain ⟨dx, d, q, es, as, DI⟩ := id D0
    refine ⟨by show 2 ≤ sizeLine; decide, fun p0 n0 => ?_⟩
    have e0 : Same H _ := same_upd (o := .tup [.int 0, .int 1]) n0
    have hask : as.length = s0.tune.ask.length := by rw [← DI.qa, List.length_map]
    have hq4 := O.u.q
    refine ⟨_, rfl, a, CD, dx, _, _, rfl, e0 _ _ DI.ob, T.cD, T.nAsked, dF_asked _ _ _, q, rfl, ⟨_, SqL.of (e0 _ _ DI.ql)⟩, for_list (K := K) (a := q) (xs := as.map fun e => V.ref e.1)
      (fun i σ H' => ∃ (p : Addr) (v3 v4 : Option V), σ = [some (.ref a), some (.ref ta), some (.ref p), v3, v4] ∧ Same H H' ∧ FrA H' p (sumF s0.tune s0.texts t ((as.take i).map (·.2)))) ?_ (fun i σ H' _ ⟨_, _, _, _, e, _⟩ => SqL.of (e _ _ DI.ql)) ?_ ?_⟩
    · exact ⟨p0, none, none, rfl, e0, upd_same⟩
    · rintro i y σ H' hi ⟨p, v3, v4, rfl, e1, f1⟩
      obtain ⟨e, he, rfl⟩ : ∃ e, as[i]? = some e ∧ y = V.ref e.1 := by
        rw [List.getElem?_map] at hi
        cases z : as[i]? with
        | none => rw [z] at hi; cases hi
        | some e => rw [z] at hi; exact ⟨e, rfl, (Option.some.inj hi).symm⟩
      have hm : e ∈ as := List.mem_of_getElem? he
      have hx : e.2 ∈ s0.tune.ask := by rw [← DI.qa]; exact List.mem_map_of_mem hm
      have hil : i < as.length := (List.getElem?_eq_some_iff.mp he).1
      have sub : ∀ x ∈ (as.take i).map (·.2), x ∈ s0.tune.ask := fun x hx => by
        rw [← DI.qa]
        obtain ⟨z, hz, rfl⟩ := List.mem_map.mp hx
        exact List.mem_map_of_mem (List.mem_of_mem_take hz)
      have gS : Gd 233 (sumF s0.tune s0.texts t ((as.take i).map (·.2))) := Gd_sumF O.u O.t mt sub (by rw [List.length_map, List.length_take]; omega)
      have gG := Gd_gives O.u O.t mt hx
      refine ⟨e.1, _, rfl, SqT.of (e1 _ _ (DI.qt e hm)), rfl, ?_⟩
      refine ⟨_, _, rfl, _, _, rfl, rfl, ?_⟩
      refine ⟨_, rfl, _, rfl, _, rfl, _, rfl, _, rfl, a, ta, s0, e.2, t, rfl, D0.same e1, O, X0.same e1, mt, hx, fun H2 r2 e2 n2 f2 => ?_⟩
      refine ⟨p, r2, _, _, 233, 57, rfl, f1.same e2, f2, gS, gG, by decide, by decide, fun H3 r3 e3 n3 f3 => ?_⟩
      refine ⟨r3, _, _, rfl, e1.trans (e2.trans e3), ?_⟩
      rw [take_more he, List.map_append]
      unfold sumF at f3 ⊢
      rw [List.foldl_append]
      exact f3
    · rintro σ H' ⟨p, v3, v4, rfl, e1, f1⟩
      rw [List.length_map, List.take_length, DI.qa] at f1
      obtain ⟨dt, ph, pb, h1, h2, h3⟩ := id X0
      refine ⟨_, rfl, _, rfl, ta, CT, dt, _, _, rfl, e1 _ _ h1, T.cT, T.nPrior, tF_prior _ _ _, _, _, rfl, rfl, (by show 2 ≤ sizeLine; decide), fun p2 n2 => ?_⟩
      have e2 : Same H' _ := same_upd (o := .tup [.int (100 + (t.prior : Int)), .int 100]) n2
      refine ⟨p, p2, _, (100 + (t.prior : Int), 100), 233, 8, rfl, f1.same e2, upd_same, Gd_sumF O.u O.t mt (fun _ z => z) hq4, Gd_prior (O.t.ok t mt), by decide, by decide, fun H3 r3 e3 n3 f3 => ?_⟩
      have al := e1.trans e2
      exact kk H3 r3 (al.trans e3) (al.free n3) f3
end
end Mk
set_option Elab.async false
set_option maxRecDepth 100000
set_option maxHeartbeats 5000000
/-! The ranking. -/
namespace Mk
open PySem PySem.Spec PyProof.Rows L2
abbrev s_has_asked_word : Stmt := top 20
abbrev s_place_among : Stmt := top 21
abbrev s_ranked : Stmt := top 22
def spHasAsked (CT CD : Addr) : Sp := fun vs H Q _ => ∃ (a ta : Addr) (s : Rh08.Desk) (t : Rh08.Text), vs = [.ref a, .ref ta] ∧ DeskAt CT CD H a s ∧ Ok s ∧ TextAt CT H ta t ∧ ∀ H', Same H H' → Q (.bl (hasAsk s.tune t)) H'
/-- a ranking in the heap: pairs of a key and a fraction -/
structure RankIn (H : Hp) (l : Addr) (bs : List (Addr × Addr × KF)) : Prop where
  ls : H l = some (.lst (bs.map fun b => V.ref b.1))
  pr : ∀ b ∈ bs, H b.1 = some (.tup [.int (b.2.2.1 : Int), .ref b.2.1])
  fr : ∀ b ∈ bs, FrA H b.2.1 b.2.2.2
def RankAt (H : Hp) (l : Addr) (r : List KF) : Prop := ∃ bs, RankIn H l bs ∧ bs.map (·.2.2) = r
theorem RankAt.same {H H' : Hp} {l : Addr} {r : List KF} (h : RankAt H l r) (s : Same H H') : RankAt H' l r := by
  obtain ⟨bs, R, e⟩ := h
  exact ⟨bs, ⟨s _ _ R.ls, fun b hb => s _ _ (R.pr b hb), fun b hb => (R.fr b hb).same s⟩, e⟩
def spPlace : Sp := fun vs H Q _ => ∃ (l p : Addr) (r : List KF) (m : Fr), vs = [.ref l, .ref p] ∧ RankAt H l r ∧ (∀ y ∈ r, Gd 241 y.2) ∧ r.length ≤ 100 ∧ FrA H p m ∧ Gd 241 m ∧ Q (.int (placeF r m : Nat)) H
section
variable {P : Program} {w : World} {K : PySem.W.Frag} {mg : Str → Option Value} {base : Heap} {CT CD : Addr}
theorem sc_hasasked : FnScope ["desk", "text", "word", "weight"] ["desk", "text"] (defScope s_has_asked_word) := ⟨rfl, rfl, rfl, by decide +kernel, rfl, by decide +kernel, by decide +kernel⟩
theorem ok_has_asked_word {f : Addr} {fd : FuncData} (F : Fun K "has_asked_word" "has_asked_word" s_has_asked_word f fd) (T : Txt K mg CT CD) (G : Has P w K mg base 1 "has_word" ["text", "word"] (spHasWord CT)) : FnOk P w K mg base CX0 2 f fd ["desk", "text"] (spHasAsked CT CD) := by
  refine F.ok sc_hasasked (fun vs H Q E h => ?_) (fun cdv A outer s H vs Q E hr h => ?_)
  · obtain ⟨a, ta, s, t, rfl, _⟩ := h
    rfl
  · obtain ⟨a, ta, s0, t, rfl, D0, O, X0, kk⟩ := h
    refine ⟨_, pss_one (ps_ret (pe_callB (cr_any (by rfl)) (by rfl) T.any (by decide +kernel) (pa_cons (pe_lc (own := [("word", 2), ("weight", 3)]) (g := gTup K 2 (gCons (gName 2) (gCons (gName 3) gNil))) (te := tCall (spHasWord CT) [] E0 (tCons (tVar 1) (tCons (tVar 2) tNil))) (by rfl) sc_hasasked.nd (pi_list (pe_fld (pv 0) rfl))
      (blkOk_by (own := [("word", 2), ("weight", 3)]) (N := ["desk", "text", "word", "weight"]) (sc := defScope s_has_asked_word) (by decide +kernel))
      (fun _ _ _ _ _ => by exact pg_tup rfl (pgs_cons (pg_name (i := 2) sc_hasasked.nd rfl (Or.inl rfl)) (pgs_cons (pg_name (i := 3) sc_hasasked.nd rfl (Or.inl rfl)) pgs_nil))) (fun _ _ _ _ _ => pts_nil)
      (fun _ _ _ _ _ => by exact pe_cl G hr (pa_cons (pv 1) (pa_cons (pv 2) pa_nil)))) pa_nil))), ?_⟩
    obtain ⟨dx, d, q, es, as, DI⟩ := id D0
    have hask : as.length = s0.tune.ask.length := by rw [← DI.qa, List.length_map]
    have hq4 := O.u.q
    refine ⟨_, rfl, a, CD, dx, _, _, rfl, DI.ob, T.cD, T.nAsked, dF_asked _ _ _, q, rfl, ⟨_, SqL.of DI.ql⟩, fun D hD => ?_⟩
    have eD : Same H (upd H D (.lst [])) := same_upd hD
    have nq : q ≠ D := ne_of_none DI.ql hD
    refine lc_it (walk_list (K := K) (a := q) (xs := as.map fun e => V.ref e.1)) (fun i H' => H' = upd H D (.lst (((as.take i).map fun e => Rh08.hasWord e.2.1 t).map V.bl))) rfl (fun i H' _ e => by rw [e]; exact SqL.of (by rw [upd_ne nq]; exact DI.ql)) ?_ ?_
    · rintro i x H1 H2 hi rfl ⟨rfl, hx⟩
      obtain ⟨e, he, rfl⟩ : ∃ e, as[i]? = some e ∧ x = V.ref e.1 := by
        rw [List.getElem?_map] at hx
        cases z : as[i]? with
        | none => rw [z] at hx; cases hx
        | some e => rw [z] at hx; exact ⟨e, rfl, (Option.some.inj hx).symm⟩
      have hm : e ∈ as := List.mem_of_getElem? he
      have sm : Same H (upd H D (.lst (((as.take i).map fun e => Rh08.hasWord e.2.1 t).map V.bl))) := same_upd hD
      refine ⟨e.1, _, rfl, SqT.of (sm _ _ (DI.qt e hm)), rfl, _, _, rfl, _, _, rfl, rfl, rfl, ?_⟩
      refine ⟨_, rfl, _, rfl, ta, t, e.2.1, rfl, X0.same sm, _, upd_same, ?_, ?_⟩
      · rw [List.length_map, List.length_map, List.length_take]
        exact small1000 (by omega)
      · rw [upd_upd, take_more he, List.map_append, List.map_append]
        rfl
    · rintro H1 rfl
      refine ⟨D, _, rfl, SqL.of upd_same, ?_⟩
      rw [List.length_map, List.take_length]
      have e1 : (as.map fun e => Rh08.hasWord e.2.1 t).any id = hasAsk s0.tune t := by
        unfold hasAsk
        rw [← DI.qa, List.any_map, List.any_map]
        rfl
      rw [e1]
      exact kk _ (same_upd hD)
theorem sc_place : FnScope ["better_first", "mark", "at"] ["better_first", "mark"] (defScope s_place_among) := ⟨rfl, rfl, rfl, by decide +kernel, rfl, by decide +kernel, by decide +kernel⟩
theorem ok_place_among {f : Addr} {fd : FuncData} (F : Fun K "place_among" "place_among" s_place_among f fd) (T : Txt K mg CT CD) (G : Has P w K mg base 1 "is_greater" ["x", "y"] spGreater) : FnOk P w K mg base CX0 2 f fd ["better_first", "mark"] spPlace := by
  refine F.ok sc_place (fun vs H Q E h => ?_) (fun cdv A outer s H vs Q E hr h => ?_)
  · obtain ⟨l, p, r, m, rfl, _⟩ := h
    rfl
  · obtain ⟨l, p, r, m, rfl, ⟨bs, R, er⟩, hg, hl, fm, gm, kk⟩ := h
    refine ⟨_, pss_cons (ps_set (i := 2) sc_place.nd rfl (Or.inl rfl) (pe_callB call_len_seq (by rfl) T.len PySem.boot_len (pa_cons (pv 0) pa_nil)))
      (pss_cons (ps_while PassesOwn.never (pw_and (pt_cmpR op_gt (pv 2) pe_int (nomark _)) (pw_and1 (pt_val (pe_cl G hr (pa_cons (pv 1) (pa_cons (pe_ix ix_tup (pe_ix ix_list (pv 0) (pe_op op_sub (pv 2) pe_int) (fun _ _ => rfl)) pe_int (fun _ _ => rfl)) pa_nil)))))).pt
        (pss_one (ps_set (i := 2) sc_place.nd rfl (Or.inl rfl) (pe_op op_sub (pv 2) pe_int))))
      (pss_one (ps_ret (pv 2)))), ?_⟩
    have hbr : bs.length = r.length := by rw [← er, List.length_map]
    refine ⟨_, rfl, l, _, rfl, .inl (SqL.of R.ls), ?_⟩
    refine ⟨fun k σ H' => ∃ i : Nat, k = i ∧ σ = [some (.ref l), some (.ref p), some (.int (i : Int))] ∧ H' = H ∧ i ≤ r.length ∧ placeF r m = placeF (r.take i) m, ⟨_, r.length, rfl, ?_, rfl, Nat.le_refl _, by rw [List.take_length]⟩, ?_⟩
    · rw [List.length_map, hbr]
      rfl
    · rintro i σ H' ⟨_, rfl, rfl, rfl, hi, hp⟩
      refine ⟨_, rfl, _, _, rfl, rfl, _, rfl, ?_⟩
      by_cases c : 0 < i
      · refine ifT (decide_eq_true (by omega)) ?_
        obtain ⟨j, rfl⟩ : ∃ j, i = j + 1 := ⟨i - 1, by omega⟩
        have hj : j < bs.length := by omega
        have hb : bs[j]? = some bs[j] := List.getElem?_eq_getElem hj
        have hm : bs[j] ∈ bs := List.getElem_mem hj
        have hy : r[j]? = some bs[j].2.2 := by rw [← er, List.getElem?_map, hb]; rfl
        have gy := hg _ (List.mem_of_getElem? hy)
        have ez : ((j + 1 : Nat) : Int) - 1 = (j : Int) := by omega
        refine ⟨_, rfl, _, rfl, _, rfl, _, _, rfl, rfl, l, _, _, _, rfl, rfl, SqL.of R.ls, at_of ez (by rw [List.getElem?_map, hb]; rfl), bs[j].1, _, _, _, rfl, rfl, SqT.of (R.pr _ hm), at1, ?_⟩
        refine ⟨p, bs[j].2.1, m, bs[j].2.2.2, 241, 241, rfl, fm, R.fr _ hm, gm, gy, by decide, by decide, _, rfl, ?_⟩
        have st := placeF_take m hy
        by_cases g : greater m bs[j].2.2.2 = true
        · refine ifT g ?_
          rw [if_pos g] at st
          refine ⟨fun σ' H2 => σ' = [some (.ref l), some (.ref p), some (.int (j : Int))] ∧ H2 = H', fun σ' H2 ⟨e1, e2⟩ => ⟨j, Nat.lt_succ_self j, j, rfl, e1, e2, by omega, by rw [hp, st]⟩, ?_⟩
          refine ⟨_, rfl, _, _, rfl, rfl, ?_, rfl⟩
          show [some (V.ref l), some (V.ref p), some (V.int (((j + 1 : Nat) : Int) - 1))] = _
          rw [ez]
        · refine ifF g ?_
          rw [if_neg g] at st
          refine ⟨_, rfl, ?_⟩
          rw [hp, st] at kk
          exact kk
      · refine ifF (by rw [decide_eq_true_eq]; omega) ?_
        have i0 : i = 0 := by omega
        subst i0
        refine ⟨_, rfl, ?_⟩
        have : placeF r m = 0 := by rw [hp, List.take_zero]; rfl
        rw [this] at kk
        exact kk
end
end Mk
set_option Elab.async false
set_option maxRecDepth 100000
set_option maxHeartbeats 5000000
/-! ranked(desk). -/
namespace Mk
open PySem PySem.Spec PyProof.Rows L2
theorem keys_nodup {l : List Rh08.Text} (h : TextsOk l) : (l.map (·.key)).Nodup := by
  rw [List.Nodup, List.pairwise_map]
  exact h.asc.imp fun {a b : Rh08.Text} (z : a.key < b.key) => Nat.ne_of_lt z
theorem DeskIn.nd {CT CD : Addr} {H : Hp} {a dx d q : Addr} {es : List (Addr × Rh08.Text)} {as : List (Addr × (Nat × Nat))} {s : Rh08.Desk} (h : DeskIn CT CD H a dx d q es as s) (O : Ok s) : (es.map fun e => e.2.key).Nodup := by
  have e : (es.map fun e => e.2.key) = (es.map (·.2)).map (·.key) := by rw [List.map_map]; rfl
  rw [e, (h.pm.map (·.key)).nodup_iff]
  exact keys_nodup O.t
theorem valV_kvT : ∀ {es : List (Addr × Rh08.Text)} {e : Addr × Rh08.Text}, (es.map fun e => e.2.key).Nodup → e ∈ es → valV (kvT es) (Sum.inl (e.2.key : Int) : Key) = some (.ref e.1)
  | x :: es, e, nd, h => by
    have nd' := List.nodup_cons.mp nd
    by_cases c : x.2.key = e.2.key
    · have hx : e = x := by
        rcases List.mem_cons.mp h with q | q
        · exact q
        · exact absurd (List.mem_map_of_mem (f := fun e => e.2.key) q) (by rw [← c]; exact nd'.1)
      subst hx
      exact valV_pos (p := ((Sum.inl (e.2.key : Int) : Key), V.ref e.1)) rfl
    · have hm : e ∈ es := by
        rcases List.mem_cons.mp h with q | q
        · exact absurd (by rw [q]) c
        · exact q
      have := valV_kvT nd'.2 hm
      rw [← this]
      refine valV_neg (p := ((Sum.inl (x.2.key : Int) : Key), V.ref x.1)) fun z => c ?_
      have := Sum.inl.inj z
      omega
theorem valV_none {es : List (Addr × Rh08.Text)} {k : Int} (h : ∀ e ∈ es, (e.2.key : Int) ≠ k) : valV (kvT es) (Sum.inl k : Key) = none := by
  induction es with
  | nil => rfl
  | cons x es ih =>
    rw [← ih fun e he => h e (.tail _ he)]
    exact valV_neg (p := ((Sum.inl (x.2.key : Int) : Key), V.ref x.1)) fun z => h x (.head _) (Sum.inl.inj z)
theorem DeskIn.find {CT CD : Addr} {H : Hp} {a dx d q : Addr} {es : List (Addr × Rh08.Text)} {as : List (Addr × (Nat × Nat))} {s : Rh08.Desk} (h : DeskIn CT CD H a dx d q es as s) {t : Rh08.Text} (ht : t ∈ s.texts) : ∃ e ∈ es, e.2 = t := by
  have := (h.pm.mem_iff (a := t)).mpr ht
  obtain ⟨e, he, r⟩ := List.mem_map.mp this
  exact ⟨e, he, r⟩
/-- the sorted keys are those of the specification's list -/
theorem keys_sorted {l : List Rh08.Text} {ks ys : List Int} (h : TextsOk l) (pk : ks.Perm (l.map fun t => (t.key : Int))) (py : ys.Perm ks) (so : ys.Pairwise (· ≤ ·)) : ys = l.map fun t => (t.key : Int) := by
  refine List.Perm.eq_of_pairwise (le := (· ≤ ·)) (fun x y _ _ h1 h2 => Int.le_antisymm h1 h2) so ?_ (py.trans pk)
  rw [List.pairwise_map]
  exact h.asc.imp fun {a b : Rh08.Text} (z : a.key < b.key) => by omega
def spRanked (CT CD : Addr) : Sp := fun vs H Q _ => ∃ (a : Addr) (s : Rh08.Desk), vs = [.ref a] ∧ DeskAt CT CD H a s ∧ Ok s ∧ ∀ (H' : Hp) (l : Addr), Same H H' → H l = none → RankAt H' l (rankF s.tune s.texts) → Q (.ref l) H'
/-- a new pair goes into the ranking -/
theorem RankIn.put {H : Hp} {l p : Addr} {bs : List (Addr × Addr × KF)} {m : Addr} {x : KF} {i : Nat} (R : RankIn H l bs) (hp : H p = some (.tup [.int (x.1 : Int), .ref m])) (hm : FrA H m x.2) :
    RankIn (upd H l (.lst ((bs.map fun b => V.ref b.1).take i ++ [V.ref p] ++ (bs.map fun b => V.ref b.1).drop i))) l (bs.take i ++ (p, m, x) :: bs.drop i) := by
  have off : ∀ {a : Addr} {xs : List V}, H a = some (.tup xs) → upd H l (.lst ((bs.map fun b => V.ref b.1).take i ++ [V.ref p] ++ (bs.map fun b => V.ref b.1).drop i)) a = some (.tup xs) := fun h => by
    rw [upd_ne (ne_of h R.ls (fun z => by cases z))]
    exact h
  have mem : ∀ {b : Addr × Addr × KF}, b ∈ bs.take i ++ (p, m, x) :: bs.drop i → b = (p, m, x) ∨ b ∈ bs := fun h => by
    rcases List.mem_append.mp h with q | q
    · exact .inr (List.mem_of_mem_take q)
    · rcases List.mem_cons.mp q with q | q
      · exact .inl q
      · exact .inr (List.mem_of_mem_drop q)
  refine ⟨?_, fun b hb => ?_, fun b hb => ?_⟩
  · rw [upd_same, List.map_append, List.map_cons, List.map_take, List.map_drop]
    simp
  · rcases mem hb with e | e
    · subst e
      exact off hp
    · exact off (R.pr b e)
  · rcases mem hb with e | e
    · subst e
      exact off hm
    · exact off (R.fr b e)
section
variable {P : Program} {w : World} {K : PySem.W.Frag} {mg : Str → Option Value} {base : Heap} {CT CD : Addr}
theorem sc_ranked : FnScope ["desk", "better_first", "key", "text", "mark"] ["desk"] (defScope s_ranked) := ⟨rfl, rfl, rfl, by decide +kernel, rfl, by decide +kernel, by decide +kernel⟩
theorem ok_ranked {f : Addr} {fd : FuncData} (F : Fun K "ranked" "ranked" s_ranked f fd) (T : Txt K mg CT CD) (GA : Has P w K mg base 2 "has_asked_word" ["desk", "text"] (spHasAsked CT CD)) (GM : Has P w K mg base 5 "mark_of" ["desk", "text"] (spMark CT CD))
    (GP : Has P w K mg base 2 "place_among" ["better_first", "mark"] spPlace) : FnOk P w K mg base CX0 6 f fd ["desk"] (spRanked CT CD) := by
  refine F.ok sc_ranked (fun vs H Q E h => ?_) (fun cdv A outer s H vs Q E hr h => ?_)
  · obtain ⟨a, s, rfl, _⟩ := h
    rfl
  · obtain ⟨a, s0, rfl, D0, O, kk⟩ := h
    have hu := hu_of hr
    have hr2 : Room 2 _ := hr.mono (by decide)
    refine ⟨_, pss_cons (ps_set (i := 1) sc_ranked.nd rfl (Or.inl rfl) (pe_lst pa_nil))
      (pss_cons (ps_for PassesOwn.never rfl (pi_list (pe_callB (call_sortedDI (by rfl)) (by rfl) T.sorted (by decide +kernel) (pa_cons (pe_fld (pv 0) rfl) pa_nil))) (pg_name (i := 2) sc_ranked.nd rfl (Or.inl rfl))
        (pss_cons (ps_set (i := 3) sc_ranked.nd rfl (Or.inl rfl) (pe_dget hu (pe_fld (pv 0) rfl) (pv 2) (fun _ _ => rfl)))
        (pss_one (ps_if (pt_val (pe_cl GA hr2 (pa_cons (pv 0) (pa_cons (pv 3) pa_nil))))
          (pss_cons (ps_set (i := 4) sc_ranked.nd rfl (Or.inl rfl) (pe_cl GM hr (pa_cons (pv 0) (pa_cons (pv 3) pa_nil))))
          (pss_one (ps_expr (pe_bm PySem.F.plainAttrs_list PySem.F.slot_list_insert PySem.F.type_list_insert mt_insert (pv 1) (pa_cons (pe_cl GP hr2 (pa_cons (pv 1) (pa_cons (pv 4) pa_nil))) (pa_cons (pe_tup (pa_cons (pv 2) (pa_cons (pv 4) pa_nil))) pa_nil)))))) pss_nil))))
      (pss_one (ps_ret (pv 1)))), ?_⟩
    obtain ⟨dx, d, q, es, as, DI⟩ := id D0
    have hN := O.t.len
    have hL := DI.len
    refine ⟨Nat.zero_le _, fun l nl => ?_⟩
    have e0 : Same H _ := same_upd (o := .lst []) nl
    refine ⟨_, rfl, a, CD, dx, _, _, rfl, e0 _ _ DI.ob, T.cD, T.nTexts, dF_texts _ _ _, d, kvT es, es.map (fun e => (e.2.key : Int)), rfl, .inl (e0 _ _ DI.dc), ?_, (by rw [List.length_map]; omega), fun ys p py so np => ?_⟩
    · unfold kvT
      rw [List.map_map, List.map_map]
      rfl
    have pk : (es.map fun e => (e.2.key : Int)).Perm (s0.texts.map fun t => (t.key : Int)) := by
      have := DI.pm.map fun t => (t.key : Int)
      rw [List.map_map] at this
      exact this
    have ey := keys_sorted O.t pk py so
    subst ey
    have e1 : Same (upd H l (.lst [])) _ := same_upd (o := .lst ((s0.texts.map fun t => (t.key : Int)).map V.int)) np
    have lp : l ≠ p := ne_of_none (show upd H l (.lst []) l = some (.lst []) from upd_same) np
    have np0 : H p = none := e0.free np
    refine ⟨p, rfl, ⟨_, SqL.of upd_same⟩, for_list (K := K) (a := p) (xs := (s0.texts.map fun t => (t.key : Int)).map V.int)
      (fun i σ H' => ∃ (v2 v3 v4 : Option V), σ = [some (.ref a), some (.ref l), v2, v3, v4] ∧ Same H H' ∧ H' p = some (.lst ((s0.texts.map fun t => (t.key : Int)).map V.int)) ∧ RankAt H' l (rankFrom s0.tune s0.texts [] (s0.texts.take i))) ?_ (fun i σ H' _ ⟨_, _, _, _, _, h, _⟩ => SqL.of h) ?_ ?_⟩
    · refine ⟨none, none, none, rfl, e0.trans e1, upd_same, [], ⟨e1 _ _ upd_same, fun b hb => absurd hb List.not_mem_nil, fun b hb => absurd hb List.not_mem_nil⟩, rfl⟩
    · rintro i y σ H' hi ⟨v2, v3, v4, rfl, s1, hp, RA⟩
      obtain ⟨t, ht, rfl⟩ : ∃ t, s0.texts[i]? = some t ∧ y = V.int (t.key : Int) := by
        rw [List.getElem?_map, List.getElem?_map] at hi
        cases z : s0.texts[i]? with
        | none => rw [z] at hi; cases hi
        | some t => rw [z] at hi; exact ⟨t, rfl, (Option.some.inj hi).symm⟩
      have mt : t ∈ s0.texts := List.mem_of_getElem? ht
      obtain ⟨e, he, rfl⟩ := DI.find mt
      have DI1 := DI.same s1
      have tx := DI1.tx e he
      have step := rankFrom_snoc s0.tune s0.texts [] (s0.texts.take i) e.2
      rw [← take_more ht] at step
      refine ⟨_, rfl, a, CD, dx, _, _, rfl, DI1.ob, T.cD, T.nTexts, dF_texts _ _ _, _, rfl, d, .ref e.1, rfl, ?_, ?_⟩
      · have := DGet.k (H := H') (a := d) (k := (Sum.inl (e.2.key : Int) : Key)) DI1.dc
        rw [valV_kvT (DI.nd O) he] at this
        exact this
      refine ⟨_, rfl, _, rfl, a, e.1, s0, e.2, rfl, D0.same s1, O, tx, fun H2 s2 => ⟨_, rfl, ?_⟩⟩
      have s12 := s1.trans s2
      by_cases c : hasAsk s0.tune e.2 = true
      · refine ifT c ?_
        rw [if_pos c] at step
        refine ⟨_, rfl, _, rfl, a, e.1, s0, e.2, rfl, D0.same s12, O, tx.same s2, mt, fun H3 m3 s3 n3 f3 => ?_⟩
        have s13 := s12.trans s3
        obtain ⟨bs, R, er⟩ := (RA.same s2).same s3
        have gm := Gd_mark O.u O.t mt
        have F0 := (rankFrom_eq O.u O.t (s0.texts.take i) 0 [] (fun t ht => ⟨List.mem_of_mem_take ht, Nat.zero_le _⟩) (O.t.asc.sublist (List.take_sublist _ _)) (Fall.nil 0)).1
        obtain ⟨n, F0⟩ := F0
        have hlen := rankFrom_len s0.tune s0.texts (s0.texts.take i) []
        have hlen2 : (rankFrom s0.tune s0.texts [] (s0.texts.take i)).length ≤ 30 := by
          rw [List.length_take] at hlen
          simp only [List.length_nil] at hlen
          omega
        have hbl : bs.length ≤ 30 := by
          rw [← er, List.length_map] at hlen2
          exact hlen2
        have hple := placeF_le (rankFrom s0.tune s0.texts [] (s0.texts.take i)) (markF s0.tune s0.texts e.2)
        refine ⟨_, rfl, .inl ⟨rfl, _, SqL.of R.ls⟩, _, rfl, _, rfl, l, m3, _, _, rfl, ⟨bs, R, er⟩, F0.gd, by omega, f3, gm, ?_⟩
        refine ⟨_, rfl, _, rfl, (by show 2 ≤ sizeLine; decide), fun p4 n4 => ?_⟩
        have s4 : Same H3 _ := same_upd (o := .tup [.int (e.2.key : Int), .ref m3]) n4
        have R4 : RankIn (upd H3 p4 (.tup [.int (e.2.key : Int), .ref m3])) l bs := ⟨s4 _ _ R.ls, fun b hb => s4 _ _ (R.pr b hb), fun b hb => (R.fr b hb).same s4⟩
        have R5 := RankIn.put (i := placeF (rankFrom s0.tune s0.texts [] (s0.texts.take i)) (markF s0.tune s0.texts e.2)) (x := (e.2.key, markF s0.tune s0.texts e.2)) R4 upd_same (f3.same s4)
        refine ⟨l, _, _, _, rfl, rfl, R4.ls, (by rw [List.length_map]; exact small1000 (by omega)), (by omega), ?_, ?_⟩
        · have : placeF (rankFrom s0.tune s0.texts [] (s0.texts.take i)) (markF s0.tune s0.texts e.2) < 2 ^ 63 := by omega
          exact_mod_cast this
        · rw [Int.toNat_natCast]
          refine ⟨_, _, _, rfl, fun b o hb => ?_, ?_, _, R5, ?_⟩
          · have hb3 := s4 _ _ (s13 _ _ hb)
            rw [upd_ne]
            · exact hb3
            · intro z
              rw [z, nl] at hb
              cases hb
          · have hp3 := s4 _ _ (s3 _ _ (s2 _ _ hp))
            rw [upd_ne lp.symm]
            exact hp3
          · rw [step, ← er]
            unfold insF
            rw [List.map_append, List.map_cons, List.map_take, List.map_drop, er]
      · refine ifF c ?_
        rw [if_neg c] at step
        exact ⟨_, _, _, rfl, s12, s2 _ _ hp, by rw [step]; exact RA.same s2⟩
    · rintro σ H' ⟨v2, v3, v4, rfl, s1, hp, RA⟩
      rw [List.length_map, List.length_map, List.take_length] at RA
      exact ⟨_, rfl, kk H' l s1 nl RA⟩
end
end Mk
set_option Elab.async false
set_option maxRecDepth 100000
set_option maxHeartbeats 5000000
/-! The objects made; put, drop, tune. -/
namespace Mk
open PySem PySem.Spec PyProof.Rows L2
abbrev sText_init : Stmt := inClass (top 2) 0
abbrev sDesk_init : Stmt := inClass (top 3) 0
abbrev s_is_within : Stmt := top 51
abbrev s_are_words : Stmt := top 52
abbrev s_may_be_put : Stmt := top 53
abbrev s_put : Stmt := top 54
abbrev s_drop : Stmt := top 55
abbrev s_may_be_tuned : Stmt := top 56
abbrev s_tune : Stmt := top 57
/-- a class that makes its instances by an __init__ that holds its promise -/
structure HasInit (P : Program) (w : World) (K : PySem.W.Frag) (mg : Str → Option Value) (base : Heap) (k : Nat) (C : Addr) (ps : List Str) (sp : Sp) : Prop where
  ex : ∃ f fd, L2.Mk K C f ∧ Binds K fd ps [] ∧ FnOk P w K mg base CX0 k f fd ps sp
theorem pe_mk {X : Cx} {k : Nat} {x : Str} {C : Addr} {ps : List Str} {sp : Sp} {e : Expr} {es : List Expr} {t : TA} {p pos : Pos} (G : HasInit X.prog X.w X.K X.mg X.base k C ps sp) (hr : Room (k + 1) X.A) (hm : X.mg x = some (.ref C)) (ha : PA X (e :: es) t) (hg : Gl X x := by rfl)
    (pl : Plainly X x e es pos := by exact ⟨by decide, rfl, rfl⟩) : PE X (.Call (.Name x p) (e :: es) [] pos) (tMake C sp [] E0 t) := by
  obtain ⟨f, fd, M, hb, F⟩ := G.ex
  exact pe_make M F hr hg hm hb .nil pass0 ha pl.nd pl.hd pl.tl
theorem pe_mk0 {X : Cx} {k : Nat} {x : Str} {C : Addr} {ps : List Str} {sp : Sp} {p pos : Pos} (G : HasInit X.prog X.w X.K X.mg X.base k C ps sp) (hr : Room (k + 1) X.A) (hm : X.mg x = some (.ref C)) (hg : Gl X x := by rfl) (hdb : (x == ("__debug__" : Str)) = false := by decide) :
    PE X (.Call (.Name x p) [] [] pos) (tMake C sp [] E0 tNil) := by
  obtain ⟨f, fd, M, hb, F⟩ := G.ex
  exact pe_make0 M F hr hg hm hb .nil pass0 hdb
/-- but at p all stays -/
def But (p : Addr) (H H' : Hp) : Prop := ∀ b o, H b = some o → b ≠ p → H' b = some o
def spTextInit (CT : Addr) : Sp := fun vs H Q _ => ∃ (p dx h b : Addr) (n : Nat), vs = [.ref p, .int (n : Int), .ref h, .ref b] ∧ H p = some (.ins CT dx []) ∧
  ∀ H' : Hp, H' p = some (.ins CT dx (tF n h b)) → But p H H' → Q .non H'
theorem put_here {f : Str} {v x : V} {r : List (Str × V)} : putF f v ((f, x) :: r) = (f, v) :: r := if_pos rfl
theorem put_past {f g : Str} {v x : V} {r : List (Str × V)} (h : ¬ g = f) : putF f v ((g, x) :: r) = (g, x) :: putF f v r := if_neg h
def tF2 (n : Nat) (h : Addr) : List (Str × V) := [("prior", .int (n : Int)), ("head", .ref h)]
theorem tF2_new (n : Nat) (h : Addr) : putF "head" (.ref h) (putF "prior" (.int (n : Int)) []) = tF2 n h := (put_past (by decide +kernel)).trans rfl
theorem tF_new (n : Nat) (h b : Addr) : putF "body" (.ref b) (putF "head" (.ref h) (putF "prior" (.int (n : Int)) [])) = tF n h b := by
  rw [tF2_new]
  exact (put_past (by decide +kernel)).trans (congrArg _ ((put_past (by decide +kernel)).trans rfl))
def spDeskInit (CT CD : Addr) : Sp := fun vs H Q _ => ∃ (p dx : Addr), vs = [.ref p] ∧ H p = some (.ins CD dx []) ∧
  ∀ H' : Hp, DeskAt CT CD H' p Rh08.init → But p H H' → Q .non H'
def dF2 (d q : Addr) : List (Str × V) := [("texts", .ref d), ("asked", .ref q)]
def dF3 (d q : Addr) : List (Str × V) := [("texts", .ref d), ("asked", .ref q), ("a", .int 7)]
def dF4 (d q : Addr) : List (Str × V) := [("texts", .ref d), ("asked", .ref q), ("a", .int 7), ("b", .int 12)]
def dF5 (d q : Addr) : List (Str × V) := [("texts", .ref d), ("asked", .ref q), ("a", .int 7), ("b", .int 12), ("c", .int 3)]
theorem dF2_new (d q : Addr) : putF "asked" (.ref q) (putF "texts" (.ref d) []) = dF2 d q := (put_past (by decide +kernel)).trans rfl
theorem dF_new (d q : Addr) : putF "d" (.int 1) (putF "c" (.int 3) (putF "b" (.int 12) (putF "a" (.int 7) (putF "asked" (.ref q) (putF "texts" (.ref d) []))))) = dF d q Rh08.init.tune := by
  have e2 : putF "a" (.int 7) (dF2 d q) = dF3 d q := (put_past (by decide +kernel)).trans (congrArg _ ((put_past (by decide +kernel)).trans rfl))
  have e3 : putF "b" (.int 12) (dF3 d q) = dF4 d q := (put_past (by decide +kernel)).trans (congrArg _ ((put_past (by decide +kernel)).trans (congrArg _ ((put_past (by decide +kernel)).trans rfl))))
  have e4 : putF "c" (.int 3) (dF4 d q) = dF5 d q := (put_past (by decide +kernel)).trans (congrArg _ ((put_past (by decide +kernel)).trans (congrArg _ ((put_past (by decide +kernel)).trans (congrArg _ ((put_past (by decide +kernel)).trans rfl))))))
  rw [dF2_new, e2, e3, e4]
  exact (put_past (by decide +kernel)).trans (congrArg _ ((put_past (by decide +kernel)).trans (congrArg _ ((put_past (by decide +kernel)).trans (congrArg _ ((put_past (by decide +kernel)).trans (congrArg _ ((put_past (by decide +kernel)).trans rfl))))))))
section
variable {P : Program} {w : World} {K : PySem.W.Frag} {mg : Str → Option Value} {base : Heap} {CT CD : Addr}
theorem sc_tinit : FnScope ["self", "prior", "head", "body"] ["self", "prior", "head", "body"] (defScope sText_init) := ⟨rfl, rfl, rfl, by decide +kernel, rfl, by decide +kernel, by decide +kernel⟩
theorem ok_text_init {f : Addr} {fd : FuncData} (F : Fun K "__init__" "Text.__init__" sText_init f fd) (T : Txt K mg CT CD) : FnOk P w K mg base CX0 1 f fd ["self", "prior", "head", "body"] (spTextInit CT) := by
  refine F.ok sc_tinit (fun vs H Q E h => ?_) (fun cdv A outer s H vs Q E hr h => ?_)
  · obtain ⟨p, dx, h, b, n, rfl, _⟩ := h
    rfl
  · obtain ⟨p, dx, h, b, n, rfl, hp, kk⟩ := h
    refine ⟨_, pss_cons (ps_fld (pv 0) (pv 1) rfl) (pss_cons (ps_fld (pv 0) (pv 2) rfl) (pss_one (ps_fld (pv 0) (pv 3) rfl))), ?_⟩
    refine ⟨_, rfl, _, rfl, p, CT, dx, [], rfl, hp, T.cT, T.nPrior, (by show 0 < 1000; decide), ?_⟩
    refine ⟨_, rfl, _, rfl, p, CT, dx, _, rfl, upd_same, T.cT, T.nHead, (by show 1 < 1000; decide), ?_⟩
    refine ⟨_, rfl, _, rfl, p, CT, dx, _, rfl, upd_same, T.cT, T.nBody, ?_, ?_⟩
    · rw [tF2_new]
      show 2 < 1000
      decide
    refine kk _ (Eq.trans upd_same (congrArg (fun q => some (HO.ins CT dx q)) (tF_new n h b))) fun c o e hc => ?_
    rw [upd_ne hc, upd_ne hc, upd_ne hc]
    exact e
theorem sc_dinit : FnScope ["self"] ["self"] (defScope sDesk_init) := ⟨rfl, rfl, rfl, by decide +kernel, rfl, by decide +kernel, by decide +kernel⟩
theorem ok_desk_init {f : Addr} {fd : FuncData} (F : Fun K "__init__" "Desk.__init__" sDesk_init f fd) (T : Txt K mg CT CD) : FnOk P w K mg base CX0 1 f fd ["self"] (spDeskInit CT CD) := by
  refine F.ok sc_dinit (fun vs H Q E h => ?_) (fun cdv A outer s H vs Q E hr h => ?_)
  · obtain ⟨p, dx, rfl, _⟩ := h
    rfl
  · obtain ⟨p, dx, rfl, hp, kk⟩ := h
    refine ⟨_, pss_cons (ps_fld (pv 0) pe_dnewK rfl) (pss_cons (ps_fld (pv 0) (pe_lst pa_nil) rfl) (pss_cons (ps_fld (pv 0) pe_int rfl) (pss_cons (ps_fld (pv 0) pe_int rfl) (pss_cons (ps_fld (pv 0) pe_int rfl) (pss_one (ps_fld (pv 0) pe_int rfl)))))), ?_⟩
    intro d hd
    have npd : p ≠ d := ne_of_none hp hd
    refine ⟨_, rfl, p, CD, dx, [], rfl, (by rw [upd_ne npd]; exact hp), T.cD, T.nTexts, (by show 0 < 1000; decide), ?_⟩
    refine ⟨Nat.zero_le _, fun q hq => ?_⟩
    have nqp : q ≠ p := fun z => by rw [z, upd_same] at hq; cases hq
    rw [upd_ne nqp] at hq
    have nqd : q ≠ d := fun z => by rw [z, upd_same] at hq; cases hq
    rw [upd_ne nqd] at hq
    have len2 : (putF "asked" (.ref q) (putF "texts" (.ref d) [])).length = 2 := by
      rw [dF2_new]
      rfl
    have len3 : (putF "a" (.int 7) (putF "asked" (.ref q) (putF "texts" (.ref d) []))).length ≤ 3 := by
      have := length_putF "a" (.int 7) (putF "asked" (.ref q) (putF "texts" (.ref d) []))
      omega
    have len4 : (putF "b" (.int 12) (putF "a" (.int 7) (putF "asked" (.ref q) (putF "texts" (.ref d) [])))).length ≤ 4 := by
      have := length_putF "b" (.int 12) (putF "a" (.int 7) (putF "asked" (.ref q) (putF "texts" (.ref d) [])))
      omega
    have len5 : (putF "c" (.int 3) (putF "b" (.int 12) (putF "a" (.int 7) (putF "asked" (.ref q) (putF "texts" (.ref d) []))))).length ≤ 5 := by
      have := length_putF "c" (.int 3) (putF "b" (.int 12) (putF "a" (.int 7) (putF "asked" (.ref q) (putF "texts" (.ref d) []))))
      omega
    refine ⟨_, rfl, p, CD, dx, _, rfl, (by rw [upd_ne nqp.symm, upd_same]), T.cD, T.nAsked, (by show 1 < 1000; decide), ?_⟩
    refine ⟨_, rfl, p, CD, dx, _, rfl, upd_same, T.cD, T.nA, (by omega), ?_⟩
    refine ⟨_, rfl, p, CD, dx, _, rfl, upd_same, T.cD, T.nB, (by omega), ?_⟩
    refine ⟨_, rfl, p, CD, dx, _, rfl, upd_same, T.cD, T.nC, (by omega), ?_⟩
    refine ⟨_, rfl, p, CD, dx, _, rfl, upd_same, T.cD, T.nD, (by omega), ?_⟩
    refine kk _ ⟨dx, d, q, [], [], ⟨?_, ?_, fun e he => absurd he List.not_mem_nil, List.Perm.refl _, ?_, fun e he => absurd he List.not_mem_nil, rfl⟩⟩ fun c o e hc => ?_
    · exact Eq.trans upd_same (congrArg (fun q => some (HO.ins CD dx q)) (dF_new d q))
    · rw [upd_ne npd.symm, upd_ne npd.symm, upd_ne npd.symm, upd_ne npd.symm, upd_ne npd.symm, upd_ne nqd.symm, upd_ne npd.symm, upd_same]
      rfl
    · rw [upd_ne nqp, upd_ne nqp, upd_ne nqp, upd_ne nqp, upd_ne nqp, upd_same]
      rfl
    · rw [upd_ne hc, upd_ne hc, upd_ne hc, upd_ne hc, upd_ne hc, upd_ne (ne_of_none e hq), upd_ne hc, upd_ne (ne_of_none e hd)]
      exact e
end
end Mk
set_option Elab.async false
set_option maxRecDepth 100000
set_option maxHeartbeats 5000000
/-! is_within, are_words, put, drop, tune. -/
namespace Mk
open PySem PySem.Spec PyProof.Rows L2
def Soft : HO → Prop
  | .ins _ _ _ => False
  | .dK _ => False
  | _ => True
/-- but for instances and dicts all stays -/
def KeepL (H H' : Hp) : Prop := ∀ b o, H b = some o → Soft o → H' b = some o
theorem keepL_of {H H' : Hp} (h : Same H H') : KeepL H H' := fun b o e _ => h b o e
theorem KeepL.trans {H H1 H2 : Hp} (a : KeepL H H1) (b : KeepL H1 H2) : KeepL H H2 := fun c o e s => b c o (a c o e s) s
/-- what a call answers, and what stands behind it -/
def Post (CT CD : Addr) (a : Addr) (s : Rh08.Desk) (c : Rh08.Call) (Q : VK) (H : Hp) : Prop :=
  ∀ (H' : Hp) (r : Addr), KeepL H H' → DeskAt CT CD H' a (Rh08.step s c).1 → H r = none → H' r = some (.lst ((Rh08.step s c).2.map V.int)) → Q (.ref r) H'
def within (n lo hi : Int) : Bool := decide (lo ≤ n) && decide (n ≤ hi)
def spWithin : Sp := fun vs H Q _ => ∃ n lo hi : Int, vs = [.int n, .int lo, .int hi] ∧ Q (.bl (within n lo hi)) H
def wordsOk (l : List Nat) : Bool := l.all fun w => within (w : Int) 1 30
theorem wordsOk_iff (l : List Nat) : wordsOk l = true ↔ ∀ w ∈ l, 1 ≤ w ∧ w ≤ 30 := by
  unfold wordsOk within
  simp only [List.all_eq_true, Bool.and_eq_true, decide_eq_true_eq]
  constructor
  · intro h w hw
    have := h w hw
    omega
  · intro h w hw
    have := h w hw
    omega
def spAreWords : Sp := fun vs H Q _ => ∃ (p : Addr) (l : List Nat), vs = [.ref p] ∧ H p = some (.lst (nums l)) ∧ l.length ≤ 100 ∧ ∀ H', Same H H' → Q (.bl (wordsOk l)) H'
def mayPut (k p n : Nat) (l : List Nat) : Bool := if (!within (k : Int) 1 30 || decide ((p : Int) > 100)) = true then false else if (n : Int) > l.length then false else
  if (n : Int) > 12 ∨ (l.length : Int) - n > 12 then false else wordsOk l
def spMayPut : Sp := fun vs H Q _ => ∃ (q : Addr) (k p n : Nat) (l : List Nat), vs = [.int (k : Int), .int (p : Int), .int (n : Int), .ref q] ∧ H q = some (.lst (nums l)) ∧ l.length ≤ 100 ∧ ∀ H', Same H H' → Q (.bl (mayPut k p n l)) H'
section
variable {P : Program} {w : World} {K : PySem.W.Frag} {mg : Str → Option Value} {base : Heap} {CT CD : Addr}
theorem sc_within : FnScope ["number", "least", "most"] ["number", "least", "most"] (defScope s_is_within) := ⟨rfl, rfl, rfl, by decide +kernel, rfl, by decide +kernel, by decide +kernel⟩
theorem ok_is_within {f : Addr} {fd : FuncData} (F : Fun K "is_within" "is_within" s_is_within f fd) : FnOk P w K mg base CX0 1 f fd ["number", "least", "most"] spWithin := by
  refine F.ok sc_within (fun vs H Q E h => ?_) (fun cdv A outer s H vs Q E hr h => ?_)
  · obtain ⟨n, lo, hi, rfl, _⟩ := h
    rfl
  · obtain ⟨n, lo, hi, rfl, kk⟩ := h
    refine ⟨_, pss_one (ps_ret (pe_and (pe_cmpR op_le (pv 1) (pv 0) (nomark _)) (pe_one (pe_cmpR op_le (pv 0) (pv 2) (nomark _))))), ?_⟩
    refine ⟨_, rfl, _, rfl, _, _, rfl, rfl, _, rfl, ?_⟩
    unfold within at kk
    by_cases c : lo ≤ n
    · refine ifT (decide_eq_true c) ?_
      refine ⟨_, rfl, _, rfl, _, _, rfl, rfl, ?_⟩
      rw [decide_eq_true c, Bool.true_and] at kk
      exact kk
    · refine ifF (by rw [decide_eq_true_eq]; exact c) ?_
      rw [decide_eq_false c, Bool.false_and] at kk
      exact kk
theorem sc_arewords : FnScope ["words", "word"] ["words"] (defScope s_are_words) := ⟨rfl, rfl, rfl, by decide +kernel, rfl, by decide +kernel, by decide +kernel⟩
theorem ok_are_words {f : Addr} {fd : FuncData} (F : Fun K "are_words" "are_words" s_are_words f fd) (T : Txt K mg CT CD) (hW : ∃ t, mg "MOST_WORDS" = some (.int 30 t)) (G : Has P w K mg base 1 "is_within" ["number", "least", "most"] spWithin) : FnOk P w K mg base CX0 2 f fd ["words"] spAreWords := by
  refine F.ok sc_arewords (fun vs H Q E h => ?_) (fun cdv A outer s H vs Q E hr h => ?_)
  · obtain ⟨p, l, rfl, _⟩ := h
    rfl
  · obtain ⟨p, l, rfl, hp, hl, kk⟩ := h
    refine ⟨_, pss_one (ps_ret (pe_callB (cr_all (by rfl)) (by rfl) T.all (by decide +kernel) (pa_cons (pe_lc (own := [("word", 1)]) (g := gName 1) (te := tCall spWithin [] E0 (tCons (tVar 1) (tCons (tC (.int 1)) (tCons (tC (.int 30)) tNil)))) (by rfl) sc_arewords.nd (pi_list (pv 0))
      (blkOk_by (own := [("word", 1)]) (N := ["words", "word"]) (sc := defScope s_are_words) (by decide +kernel)) (fun _ _ _ _ _ => pg_name (i := 1) sc_arewords.nd rfl (Or.inl rfl)) (fun _ _ _ _ _ => pts_nil)
      (fun _ _ _ _ _ => by exact pe_cl G hr (pa_cons (pv 1) (pa_cons pe_int (pa_cons (pe_const hW) pa_nil))))) pa_nil))), ?_⟩
    refine ⟨_, rfl, p, rfl, ⟨_, SqL.of hp⟩, fun D hD => ?_⟩
    have npD : p ≠ D := ne_of_none hp hD
    refine lc_it (walk_list (K := K) (a := p) (xs := nums l)) (fun i H' => H' = upd H D (.lst (((l.take i).map fun (w : Nat) => within (w : Int) 1 30).map V.bl))) rfl (fun i H' _ e => by rw [e]; exact SqL.of (by rw [upd_ne npD]; exact hp)) ?_ ?_
    · rintro i x H1 H2 hi rfl ⟨rfl, hx⟩
      obtain ⟨n, hn, rfl⟩ : ∃ n : Nat, l[i]? = some n ∧ x = V.int (n : Int) := by
        unfold nums at hx
        rw [List.getElem?_map] at hx
        cases z : l[i]? with
        | none => rw [z] at hx; cases hx
        | some n => rw [z] at hx; exact ⟨n, rfl, (Option.some.inj hx).symm⟩
      refine ⟨rfl, _, rfl, (n : Int), 1, 30, rfl, _, upd_same, ?_, ?_⟩
      · rw [List.length_map, List.length_map, List.length_take]
        exact small1000 (by omega)
      · rw [upd_upd, take_more hn, List.map_append, List.map_append]
        rfl
    · rintro H1 rfl
      refine ⟨D, _, rfl, SqL.of upd_same, ?_⟩
      rw [nums_len, List.take_length]
      have e1 : (l.map fun (w : Nat) => within (w : Int) 1 30).all id = wordsOk l := by
        unfold wordsOk
        rw [List.all_map]
        rfl
      rw [e1]
      exact kk _ (same_upd hD)
theorem sc_mayput : FnScope ["key", "prior", "head_length", "words"] ["key", "prior", "head_length", "words"] (defScope s_may_be_put) := ⟨rfl, rfl, rfl, by decide +kernel, rfl, by decide +kernel, by decide +kernel⟩
theorem ok_may_be_put {f : Addr} {fd : FuncData} (F : Fun K "may_be_put" "may_be_put" s_may_be_put f fd) (T : Txt K mg CT CD) (h1 : ∃ t, mg "MOST_KEYS" = some (.int 30 t)) (h2 : ∃ t, mg "MOST_PRIOR" = some (.int 100 t)) (h3 : ∃ t, mg "MOST_IN_PART" = some (.int 12 t))
    (GW : Has P w K mg base 1 "is_within" ["number", "least", "most"] spWithin) (GA : Has P w K mg base 2 "are_words" ["words"] spAreWords) : FnOk P w K mg base CX0 3 f fd ["key", "prior", "head_length", "words"] spMayPut := by
  refine F.ok sc_mayput (fun vs H Q E h => ?_) (fun cdv A outer s H vs Q E hr h => ?_)
  · obtain ⟨q, k, p, n, l, rfl, _⟩ := h
    rfl
  · obtain ⟨q, k, p, n, l, rfl, hq, hl, kk⟩ := h
    have hr1 : Room 1 _ := hr.mono (by decide)
    refine ⟨_, pss_cons (ps_if (pw_or (pt_not (pt_val (pe_cl GW hr1 (pa_cons (pv 0) (pa_cons pe_int (pa_cons (pe_const h1) pa_nil)))))) (pw_or1 (pt_cmpR op_gt (pv 1) (pe_const h2) (nomark _)))).pt (pss_one (ps_ret pe_bl)) pss_nil)
      (pss_cons (ps_if (pt_cmpR op_gt (pv 2) (pe_callB call_len_seq (by rfl) T.len PySem.boot_len (pa_cons (pv 3) pa_nil)) (nomark _)) (pss_one (ps_ret pe_bl)) pss_nil)
      (pss_cons (ps_if (pw_or (pt_cmpR op_gt (pv 2) (pe_const h3) (nomark _)) (pw_or1 (pt_cmpR op_gt (pe_op op_sub (pe_callB call_len_seq (by rfl) T.len PySem.boot_len (pa_cons (pv 3) pa_nil)) (pv 2)) (pe_const h3) (nomark _)))).pt (pss_one (ps_ret pe_bl)) pss_nil)
      (pss_one (ps_ret (pe_cl GA hr (pa_cons (pv 3) pa_nil)))))), ?_⟩
    have fin : ∀ b, mayPut k p n l = b → Q (.bl b) H := fun b e => by
      rw [← e]
      exact kk H (Same.refl H)
    by_cases c1 : within (k : Int) 1 30 = true
    · refine ⟨_, rfl, (k : Int), 1, 30, rfl, _, rfl, ifF (by simp [c1]) ?_⟩
      refine ⟨_, rfl, _, _, rfl, rfl, _, rfl, ?_⟩
      by_cases c2 : (p : Int) > 100
      · exact ifT (decide_eq_true c2) (fin false (by unfold mayPut; rw [if_pos (by simp [c2])]))
      · refine ifF (by rw [decide_eq_true_eq]; exact c2) ?_
        have n1 : ¬ (!within (k : Int) 1 30 || decide ((p : Int) > 100)) = true := by simp [c1, c2]
        refine ⟨_, rfl, _, rfl, q, _, rfl, .inl (SqL.of hq), _, _, rfl, rfl, _, rfl, ?_⟩
        rw [nums_len]
        by_cases c3 : (n : Int) > l.length
        · exact ifT (decide_eq_true c3) (fin false (by unfold mayPut; rw [if_neg n1, if_pos c3]))
        · refine ifF (by rw [decide_eq_true_eq]; exact c3) ?_
          refine ⟨_, rfl, _, _, rfl, rfl, _, rfl, ?_⟩
          by_cases c4 : (n : Int) > 12
          · refine ifT (decide_eq_true c4) ?_
            exact fin false (by unfold mayPut; rw [if_neg n1, if_neg c3, if_pos (.inl c4)])
          · refine ifF (by rw [decide_eq_true_eq]; exact c4) ?_
            refine ⟨_, rfl, q, _, rfl, .inl (SqL.of hq), _, rfl, _, _, rfl, rfl, _, _, rfl, rfl, _, rfl, ?_⟩
            rw [nums_len]
            by_cases c5 : (l.length : Int) - n > 12
            · exact ifT (decide_eq_true c5) (fin false (by unfold mayPut; rw [if_neg n1, if_neg c3, if_pos (.inr c5)]))
            · refine ifF (by rw [decide_eq_true_eq]; exact c5) ?_
              refine ⟨_, rfl, q, l, rfl, hq, hl, fun H' e => ?_⟩
              have := kk H' e
              unfold mayPut at this
              rw [if_neg n1, if_neg c3, if_neg (by omega)] at this
              exact this
    · refine ⟨_, rfl, (k : Int), 1, 30, rfl, _, rfl, ifT (by simp [c1]) ?_⟩
      refine fin false ?_
      unfold mayPut
      rw [if_pos (by simp [c1])]
end
end Mk
set_option Elab.async false
set_option maxRecDepth 100000
set_option maxHeartbeats 5000000
/-! put, drop, tune. -/
namespace Mk
open PySem PySem.Spec PyProof.Rows L2
theorem cut_take (l : List Nat) (n : Nat) (h : n ≤ l.length) : cutV (nums l) none (some (n : Int)) = nums (l.take n) := by
  have e : HT.sIx (nums l).length (nums l).length (some (n : Int)) = n := by
    rw [nums_len, HT.sIx_nat]
    omega
  unfold cutV
  rw [e]
  show ((nums l).drop 0).take (n - 0) = _
  unfold nums
  rw [List.drop_zero, Nat.sub_zero, List.map_take]
theorem cut_drop (l : List Nat) (n : Nat) (h : n ≤ l.length) : cutV (nums l) (some (n : Int)) none = nums (l.drop n) := by
  have e : HT.sIx (nums l).length 0 (some (n : Int)) = n := by
    rw [nums_len, HT.sIx_nat]
    omega
  unfold cutV
  rw [e]
  show ((nums l).drop n).take ((nums l).length - n) = _
  rw [List.take_of_length_le (by rw [List.length_drop]; omega)]
  unfold nums
  rw [List.map_drop]
theorem mayPut_iff {k p n : Nat} {l : List Nat} : mayPut k p n l = true ↔ ¬ (k = 0 ∨ 30 < k ∨ 100 < p ∨ l.length < n ∨ Rh08.isPart (l.take n) = false ∨ Rh08.isPart (l.drop n) = false) := by
  unfold mayPut
  have hw : within (k : Int) 1 30 = true ↔ 1 ≤ k ∧ k ≤ 30 := by
    unfold within
    rw [Bool.and_eq_true, decide_eq_true_eq, decide_eq_true_eq]
    omega
  have wk := wordsOk_iff l
  have i1 := isPart_iff (l.take n)
  have i2 := isPart_iff (l.drop n)
  have sp : (∀ w ∈ l, 1 ≤ w ∧ w ≤ 30) ↔ (∀ w ∈ l.take n, 1 ≤ w ∧ w ≤ 30) ∧ ∀ w ∈ l.drop n, 1 ≤ w ∧ w ≤ 30 := by
    constructor
    · exact fun h => ⟨fun w hx => h w (List.mem_of_mem_take hx), fun w hx => h w (List.mem_of_mem_drop hx)⟩
    · rintro ⟨h1, h2⟩ w hx
      rw [← List.take_append_drop n l] at hx
      rcases List.mem_append.mp hx with q | q
      · exact h1 w q
      · exact h2 w q
  rw [List.length_take] at i1
  rw [List.length_drop] at i2
  split
  · rename_i c
    constructor
    · intro h; cases h
    · intro h
      exfalso
      apply h
      rw [Bool.or_eq_true, Bool.not_eq_true', decide_eq_true_eq] at c
      rcases c with c | c
      · have : ¬ (1 ≤ k ∧ k ≤ 30) := fun z => by rw [hw.mpr z] at c; cases c
        omega
      · omega
  · rename_i c
    rw [Bool.or_eq_true, Bool.not_eq_true', decide_eq_true_eq, not_or, Bool.not_eq_false] at c
    obtain ⟨c1, c2⟩ := c
    have c1' := hw.mp c1
    split
    · rename_i c3
      constructor
      · intro h; cases h
      · intro h
        exact absurd (Or.inr (Or.inr (Or.inr (Or.inl (by omega))))) h
    · rename_i c3
      split
      · rename_i c4
        constructor
        · intro h; cases h
        · intro h
          exfalso
          apply h
          rcases c4 with c4 | c4
          · refine Or.inr (Or.inr (Or.inr (Or.inr (Or.inl ?_))))
            rw [← Bool.not_eq_true, i1]
            intro z
            omega
          · refine Or.inr (Or.inr (Or.inr (Or.inr (Or.inr ?_))))
            rw [← Bool.not_eq_true, i2]
            intro z
            omega
      · rename_i c4
        rw [wk, sp]
        simp only [not_or] at c4 ⊢
        rw [← Bool.not_eq_true, ← Bool.not_eq_true, Classical.not_not, Classical.not_not, i1, i2]
        constructor
        · rintro ⟨h1, h2⟩
          exact ⟨by omega, by omega, by omega, by omega, ⟨by omega, h1⟩, ⟨by omega, h2⟩⟩
        · rintro ⟨_, _, _, _, ⟨_, h1⟩, ⟨_, h2⟩⟩
          exact ⟨h1, h2⟩
def putE (es : List (Addr × Rh08.Text)) (x : Addr) (t : Rh08.Text) : List (Addr × Rh08.Text) :=
  if (es.any fun e => decide (e.2.key = t.key)) = true then es.map (fun e => if e.2.key = t.key then (x, t) else e) else es ++ [(x, t)]
theorem key_int {a b : Nat} : ((Sum.inl (a : Int) : Key) = Sum.inl (b : Int)) ↔ a = b := by
  constructor
  · intro h
    have := Sum.inl.inj h
    omega
  · intro h
    rw [h]
theorem kvT_putE (es : List (Addr × Rh08.Text)) (x : Addr) (t : Rh08.Text) : putK (kvT es) (Sum.inl (t.key : Int) : Key) (.ref x) = kvT (putE es x t) := by
  have e1 : ((kvT es).any fun kv => decide (kv.1 = (Sum.inl (t.key : Int) : Key))) = es.any fun e => decide (e.2.key = t.key) := by
    unfold kvT
    rw [List.any_map]
    congr 1
    funext e
    exact decide_eq_decide.mpr key_int
  unfold putK putE
  rw [e1]
  split
  · unfold kvT
    rw [List.map_map, List.map_map]
    refine List.map_congr_left fun e _ => ?_
    show (if (Sum.inl (e.2.key : Int) : Key) = Sum.inl (t.key : Int) then ((Sum.inl (e.2.key : Int) : Key), V.ref x) else (Sum.inl (e.2.key : Int), V.ref e.1)) = _
    by_cases c : e.2.key = t.key
    · rw [if_pos (key_int.mpr c)]
      simp [c]
    · rw [if_neg (fun z => c (key_int.mp z))]
      simp [c]
  · unfold kvT
    rw [List.map_append]
    rfl
theorem putE_mem {es : List (Addr × Rh08.Text)} {x : Addr} {t : Rh08.Text} {e : Addr × Rh08.Text} (h : e ∈ putE es x t) : e = (x, t) ∨ e ∈ es := by
  unfold putE at h
  split at h
  · obtain ⟨y, hy, r⟩ := List.mem_map.mp h
    by_cases c : y.2.key = t.key
    · rw [if_pos c] at r
      exact .inl r.symm
    · rw [if_neg c] at r
      exact .inr (by rw [← r]; exact hy)
  · rcases List.mem_append.mp h with q | q
    · exact .inr q
    · exact .inl (List.mem_singleton.mp q)
theorem putE_perm : ∀ {es : List (Addr × Rh08.Text)} (x : Addr) (t : Rh08.Text), (es.map fun e => e.2.key).Nodup → ((putE es x t).map (·.2)).Perm (t :: (es.map (·.2)).filter fun y => y.key != t.key)
  | [], x, t, _ => List.Perm.refl _
  | e :: es, x, t, nd => by
    have nd' := List.nodup_cons.mp nd
    by_cases c : e.2.key = t.key
    · have e0 : putE (e :: es) x t = (x, t) :: es := by
        unfold putE
        rw [if_pos (by simp [c]), List.map_cons, if_pos c]
        congr 1
        rw [List.map_congr_left (g := id)]
        · simp
        · intro y hy
          have : ¬ y.2.key = t.key := fun z => nd'.1 (by show e.2.key ∈ _; rw [c, ← z]; exact List.mem_map_of_mem (f := fun e => e.2.key) hy)
          rw [if_neg this]
          rfl
      have e1 : ((e :: es).map (·.2)).filter (fun y => y.key != t.key) = es.map (·.2) := by
        rw [List.map_cons, List.filter_cons, if_neg (by simp [c])]
        refine List.filter_eq_self.mpr fun y hy => ?_
        obtain ⟨z, hz, rfl⟩ := List.mem_map.mp hy
        have : ¬ z.2.key = t.key := fun q => nd'.1 (by show e.2.key ∈ _; rw [c, ← q]; exact List.mem_map_of_mem (f := fun e => e.2.key) hz)
        simpa using this
      rw [e0, e1]
      exact List.Perm.refl _
    · have e0 : putE (e :: es) x t = e :: putE es x t := by
        unfold putE
        rw [List.any_cons, decide_eq_false c, Bool.false_or]
        split
        · rw [List.map_cons, if_neg c]
        · rfl
      have e1 : ((e :: es).map (·.2)).filter (fun y => y.key != t.key) = e.2 :: (es.map (·.2)).filter (fun y => y.key != t.key) := by
        rw [List.map_cons, List.filter_cons, if_pos (by simpa using c)]
      rw [e0, e1, List.map_cons]
      exact (List.Perm.cons e.2 (putE_perm x t nd'.2)).trans (List.Perm.swap _ _ _)
def spPut (CT CD : Addr) : Sp := fun vs H Q _ => ∃ (a row : Addr) (s : Rh08.Desk) (k p n : Nat) (l : List Nat), vs = [.ref a, .int (k : Int), .int (p : Int), .int (n : Int), .ref row] ∧ DeskAt CT CD H a s ∧ Ok s ∧ H row = some (.lst (nums l)) ∧ l.length ≤ 100 ∧ Post CT CD a s (.put k p n l) Q H
theorem newList {H : Hp} {r : Addr} {xs : List V} (h : H r = none) : KeepL H (upd H r (.lst xs)) := keepL_of (same_upd h)
section
variable {P : Program} {w : World} {K : PySem.W.Frag} {mg : Str → Option Value} {base : Heap} {CT CD : Addr}
theorem sc_put : FnScope ["desk", "key", "prior", "head_length", "words"] ["desk", "key", "prior", "head_length", "words"] (defScope s_put) := ⟨rfl, rfl, rfl, by decide +kernel, rfl, by decide +kernel, by decide +kernel⟩
theorem ok_put {f : Addr} {fd : FuncData} (F : Fun K "put" "put" s_put f fd) (T : Txt K mg CT CD) (hO : ∃ t, mg "OUT_OF_BOUNDS" = some (.int (-1) t)) (GM : Has P w K mg base 3 "may_be_put" ["key", "prior", "head_length", "words"] spMayPut)
    (GT : HasInit P w K mg base 1 CT ["self", "prior", "head", "body"] (spTextInit CT)) : FnOk P w K mg base CX0 4 f fd ["desk", "key", "prior", "head_length", "words"] (spPut CT CD) := by
  refine F.ok sc_put (fun vs H Q E h => ?_) (fun cdv A outer s H vs Q E hr h => ?_)
  · obtain ⟨a, row, s, k, p, n, l, rfl, _⟩ := h
    rfl
  · obtain ⟨a, row, s0, k, p, n, l, rfl, D0, O, hrow, hl, kk⟩ := h
    have hu := hu_of hr
    have hr2 : Room 2 _ := hr.mono (by decide)
    refine ⟨_, pss_cons (ps_if (pt_not (pt_val (pe_cl GM hr (pa_cons (pv 1) (pa_cons (pv 2) (pa_cons (pv 3) (pa_cons (pv 4) pa_nil))))))) (pss_one (ps_ret (pe_lst (pa_cons (pe_const hO) pa_nil)))) pss_nil)
      (pss_cons (ps_dput hu (pe_fld (pv 0) rfl) (pv 1) (pe_mk GT hr2 T.gT (pa_cons (pv 2) (pa_cons (pe_slice sl_list (pv 4) po_none (po_some (pv 3))) (pa_cons (pe_slice sl_list (pv 4) (po_some (pv 3)) po_none) pa_nil)))) rfl)
      (pss_one (ps_ret (pe_lst (pa_cons (pe_callB call_lenD (by rfl) T.len PySem.boot_len (pa_cons (pe_fld (pv 0) rfl) pa_nil)) pa_nil))))), ?_⟩
    refine ⟨_, rfl, _, rfl, _, rfl, _, rfl, row, k, p, n, l, rfl, hrow, hl, fun H1 e1 => ⟨_, rfl, ?_⟩⟩
    by_cases c : mayPut k p n l = true
    · refine ifF (by simp [c]) ?_
      have c' := mayPut_iff.mp c
      have hn : n ≤ l.length := by
        simp only [not_or] at c'
        omega
      have st : Rh08.step s0 (.put k p n l) = ({ s0 with texts := Rh08.enter ⟨k, p, l.take n, l.drop n⟩ s0.texts }, Rh08.ints [(Rh08.enter ⟨k, p, l.take n, l.drop n⟩ s0.texts).length]) := by
        unfold Rh08.step
        exact if_neg c'
      unfold Post at kk
      rw [st] at kk
      refine ⟨_, rfl, _, rfl, _, rfl, _, rfl, row, _, rfl, SqL.of (e1 _ _ hrow), fun hd nh => ?_⟩
      have e2 : Same H1 _ := same_upd (o := .lst (cutV (nums l) none (some (n : Int)))) nh
      refine ⟨_, rfl, _, rfl, _, rfl, row, _, rfl, SqL.of (e2 _ _ (e1 _ _ hrow)), fun bd nb => ?_⟩
      have e3 : Same _ _ := same_upd (o := .lst (cutV (nums l) (some (n : Int)) none)) nb
      intro x dx nx nd ne
      refine ⟨x, dx, hd, bd, p, rfl, upd_same, fun H4 h4 b4 => ⟨rfl, ?_⟩⟩
      have e4 : Same _ H4 := Same.made nx nd b4
      have e14 := e1.trans (e2.trans (e3.trans e4))
      obtain ⟨dy, d, q, es, as, DI⟩ := id D0
      have DI4 := DI.same e14
      have hhd : H4 hd = some (.lst (nums (l.take n))) := by
        rw [← cut_take l n hn]
        exact e4 _ _ (e3 _ _ upd_same)
      have hbd : H4 bd = some (.lst (nums (l.drop n))) := by
        rw [← cut_drop l n hn]
        exact e4 _ _ upd_same
      have nd4 := DI.nd O
      have hN := O.t.len
      have hL := DI.len
      refine ⟨_, rfl, a, CD, dy, _, _, rfl, DI4.ob, T.cD, T.nTexts, dF_texts _ _ _, _, rfl, d, _, rfl, DPut.k (k := (Sum.inl (k : Int) : Key)) DI4.dc (by rw [kvT_len]; exact small1000 (by omega)), ?_⟩
      have ek := kvT_putE es x ⟨k, p, l.take n, l.drop n⟩
      have off : ∀ {b : Addr} {o : HO}, H4 b = some o → (∀ kvs, o ≠ .dK kvs) → upd H4 d (.dK (putK (kvT es) (Sum.inl (k : Int) : Key) (.ref x))) b = some o := fun h h' => by
        rw [upd_ne (ne_of h DI4.dc (h' _))]
        exact h
      have tOff : ∀ {b : Addr} {t : Rh08.Text}, TextAt CT H4 b t → TextAt CT (upd H4 d (.dK (putK (kvT es) (Sum.inl (k : Int) : Key) (.ref x)))) b t := fun ⟨y1, y2, y3, z1, z2, z3⟩ =>
        ⟨y1, y2, y3, off z1 (fun _ z => by cases z), off z2 (fun _ z => by cases z), off z3 (fun _ z => by cases z)⟩
      have pm : ((putE es x ⟨k, p, l.take n, l.drop n⟩).map (·.2)).Perm (Rh08.enter ⟨k, p, l.take n, l.drop n⟩ s0.texts) :=
        (putE_perm x _ nd4).trans ((List.Perm.cons _ (DI.pm.filter _)).trans (enter_perm O.t.asc).symm)
      have DI5 : DeskIn CT CD (upd H4 d (.dK (putK (kvT es) (Sum.inl (k : Int) : Key) (.ref x)))) a dy d q (putE es x ⟨k, p, l.take n, l.drop n⟩) as { s0 with texts := Rh08.enter ⟨k, p, l.take n, l.drop n⟩ s0.texts } := by
        refine ⟨off DI4.ob (fun _ z => by cases z), ?_, fun e he => ?_, pm, off DI4.ql (fun _ z => by cases z), fun e he => off (DI4.qt e he) (fun _ z => by cases z), DI4.qa⟩
        · rw [upd_same]
          exact congrArg (fun z => some (HO.dK z)) ek
        · rcases putE_mem he with z | z
          · subst z
            exact tOff ⟨dx, hd, bd, h4, hhd, hbd⟩
          · exact tOff (DI4.tx e z)
      refine ⟨_, rfl, a, CD, dy, _, _, rfl, DI5.ob, T.cD, T.nTexts, dF_texts _ _ _, d, _, rfl, upd_same, (by show 1 ≤ sizeLine; decide), fun r nr => ?_⟩
      have e5 : Same (upd H4 d (.dK (putK (kvT es) (Sum.inl (k : Int) : Key) (.ref x)))) _ := same_upd (o := .lst [.int ((putK (kvT es) (Sum.inl (k : Int) : Key) (.ref x)).length : Int)]) nr
      have nr4 : H4 r = none := by
        have : r ≠ d := fun z => by rw [z, upd_same] at nr; cases nr
        rw [upd_ne this] at nr
        exact nr
      refine kk _ r (fun b o hb hs => ?_) ⟨dy, d, q, _, as, DI5.same e5⟩ (e14.free nr4) ?_
      · refine e5 _ _ (off (e14 _ _ hb) fun kvs z => ?_)
        rw [z] at hs
        exact hs
      · rw [upd_same, ek, kvT_len]
        have := pm.length_eq
        rw [List.length_map] at this
        rw [this]
        rfl
    · refine ifT (by simp [c]) ?_
      have st : Rh08.step s0 (.put k p n l) = (s0, [-1]) := by
        unfold Rh08.step
        exact if_pos (Classical.not_not.mp fun z => c (mayPut_iff.mpr z))
      unfold Post at kk
      rw [st] at kk
      refine ⟨by show 1 ≤ sizeLine; decide, fun r nr => ?_⟩
      have e2 : Same H1 _ := same_upd (o := .lst [.int (-1)]) nr
      exact kk _ r (keepL_of (e1.trans e2)) (D0.same (e1.trans e2)) (e1.free nr) upd_same
end
end Mk
set_option Elab.async false
set_option maxRecDepth 100000
set_option maxHeartbeats 5000000
/-! drop, tune, mark, best. -/
namespace Mk
open PySem PySem.Spec PyProof.Rows L2
abbrev s_mark : Stmt := top 60
abbrev s_best : Stmt := top 61
/-- a call with the desk and one number -/
def spNum (CT CD : Addr) (c : Nat → Rh08.Call) : Sp := fun vs H Q _ => ∃ (a : Addr) (s : Rh08.Desk) (k : Nat), vs = [.ref a, .int (k : Int)] ∧ DeskAt CT CD H a s ∧ Ok s ∧ Post CT CD a s (c k) Q H
theorem DeskIn.getNone {CT CD : Addr} {H : Hp} {a dx d q : Addr} {es : List (Addr × Rh08.Text)} {as : List (Addr × (Nat × Nat))} {s : Rh08.Desk} (h : DeskIn CT CD H a dx d q es as s) {k : Nat} (e : Rh08.get s k = none) : valV (kvT es) (Sum.inl (k : Int) : Key) = none := by
  refine valV_none fun x hx z => ?_
  exact get_none e x.2 (h.pm.mem_iff.mp (List.mem_map_of_mem hx)) (by omega)
theorem DeskIn.getSome {CT CD : Addr} {H : Hp} {a dx d q : Addr} {es : List (Addr × Rh08.Text)} {as : List (Addr × (Nat × Nat))} {s : Rh08.Desk} (h : DeskIn CT CD H a dx d q es as s) (O : Ok s) {k : Nat} {t : Rh08.Text} (e : Rh08.get s k = some t) :
    ∃ x ∈ es, x.2 = t ∧ t ∈ s.texts ∧ valV (kvT es) (Sum.inl (k : Int) : Key) = some (.ref x.1) := by
  obtain ⟨h1, h2⟩ := get_some e
  obtain ⟨x, hx, rfl⟩ := h.find h1
  refine ⟨x, hx, rfl, h1, ?_⟩
  rw [← h2]
  exact valV_kvT (h.nd O) hx
theorem kvT_drop (es : List (Addr × Rh08.Text)) (k : Nat) : dropK (kvT es) (Sum.inl (k : Int) : Key) = kvT (es.filter fun e => e.2.key != k) := by
  unfold dropK kvT
  rw [List.filter_map]
  congr 1
  refine List.filter_congr fun e _ => ?_
  show decide ((Sum.inl (e.2.key : Int) : Key) ≠ Sum.inl (k : Int)) = (e.2.key != k)
  by_cases c : e.2.key = k
  · simp [c]
  · have : ¬ ((Sum.inl (e.2.key : Int) : Key) = Sum.inl (k : Int)) := fun z => c (key_int.mp z)
    simp [this, c]
section
variable {P : Program} {w : World} {K : PySem.W.Frag} {mg : Str → Option Value} {base : Heap} {CT CD : Addr}
theorem sc_drop : FnScope ["desk", "key"] ["desk", "key"] (defScope s_drop) := ⟨rfl, rfl, rfl, by decide +kernel, rfl, by decide +kernel, by decide +kernel⟩
theorem ok_drop {f : Addr} {fd : FuncData} (F : Fun K "drop" "drop" s_drop f fd) (T : Txt K mg CT CD) (hN : ∃ t, mg "NO_SUCH_TEXT" = some (.int (-3) t)) : FnOk P w K mg base CX0 1 f fd ["desk", "key"] (spNum CT CD .drop) := by
  refine F.ok sc_drop (fun vs H Q E h => ?_) (fun cdv A outer s H vs Q E hr h => ?_)
  · obtain ⟨a, s, k, rfl, _⟩ := h
    rfl
  · obtain ⟨a, s0, k, rfl, D0, O, kk⟩ := h
    have hu := hu_of hr
    refine ⟨_, pss_cons (ps_if (pt_cmp (pc_dnotin hu (pv 1) (pe_fld (pv 0) rfl))) (pss_one (ps_ret (pe_lst (pa_cons (pe_const hN) pa_nil)))) pss_nil)
      (pss_cons (ps_expr (pe_dpop1 (pe_fld (pv 0) rfl) (pv 1) ⟨rfl, rfl, rfl, rfl⟩))
      (pss_one (ps_ret (pe_lst (pa_cons (pe_callB call_lenD (by rfl) T.len PySem.boot_len (pa_cons (pe_fld (pv 0) rfl) pa_nil)) pa_nil))))), ?_⟩
    obtain ⟨dx, d, q, es, as, DI⟩ := id D0
    refine ⟨_, rfl, _, rfl, a, CD, dx, _, _, rfl, DI.ob, T.cD, T.nTexts, dF_texts _ _ _, d, _, rfl, DGet.k (k := (Sum.inl (k : Int) : Key)) DI.dc, _, rfl, ?_⟩
    unfold Post at kk
    cases e : Rh08.get s0 k with
    | none =>
      rw [DI.getNone e]
      refine ifT rfl ?_
      have st : Rh08.step s0 (.drop k) = (s0, [-3]) := by
        unfold Rh08.step
        exact if_pos (by rw [e]; rfl)
      rw [st] at kk
      refine ⟨by show 1 ≤ sizeLine; decide, fun r nr => ?_⟩
      exact kk _ r (newList nr) (D0.same (same_upd nr)) nr upd_same
    | some t =>
      obtain ⟨x, hx, hxt, ht, hv⟩ := DI.getSome O e
      rw [hv]
      refine ifF (by simp) ?_
      have st : Rh08.step s0 (.drop k) = ({ s0 with texts := s0.texts.filter fun t => t.key != k }, Rh08.ints [(s0.texts.filter fun t => t.key != k).length]) := by
        unfold Rh08.step
        exact if_neg (by rw [e]; simp)
      rw [st] at kk
      refine ⟨_, rfl, a, CD, dx, _, _, rfl, DI.ob, T.cD, T.nTexts, dF_texts _ _ _, d, rfl, .inl ⟨_, .inl DI.dc⟩, _, rfl, kvT es, (Sum.inl (k : Int) : Key), _, DI.dc, rfl, hv, ?_⟩
      have off : ∀ {b : Addr} {o : HO}, H b = some o → (∀ kvs, o ≠ .dK kvs) → upd H d (.dK (dropK (kvT es) (Sum.inl (k : Int) : Key))) b = some o := fun h h' => by
        rw [upd_ne (ne_of h DI.dc (h' _))]
        exact h
      have pm : ((es.filter fun e => e.2.key != k).map (·.2)).Perm (s0.texts.filter fun t => t.key != k) := by
        have := DI.pm.filter fun t => t.key != k
        rw [List.filter_map] at this
        exact this
      have DI5 : DeskIn CT CD (upd H d (.dK (dropK (kvT es) (Sum.inl (k : Int) : Key)))) a dx d q (es.filter fun e => e.2.key != k) as { s0 with texts := s0.texts.filter fun t => t.key != k } := by
        refine ⟨off DI.ob (fun _ z => by cases z), ?_, fun e he => ?_, pm, off DI.ql (fun _ z => by cases z), fun e he => off (DI.qt e he) (fun _ z => by cases z), DI.qa⟩
        · rw [upd_same, kvT_drop]
        · obtain ⟨y1, y2, y3, z1, z2, z3⟩ := DI.tx e (List.mem_filter.mp he).1
          exact ⟨y1, y2, y3, off z1 (fun _ z => by cases z), off z2 (fun _ z => by cases z), off z3 (fun _ z => by cases z)⟩
      refine ⟨_, rfl, a, CD, dx, _, _, rfl, DI5.ob, T.cD, T.nTexts, dF_texts _ _ _, d, _, rfl, upd_same, (by show 1 ≤ sizeLine; decide), fun r nr => ?_⟩
      have e5 : Same (upd H d (.dK (dropK (kvT es) (Sum.inl (k : Int) : Key)))) _ := same_upd (o := .lst [.int ((dropK (kvT es) (Sum.inl (k : Int) : Key)).length : Int)]) nr
      have nr4 : H r = none := by
        have : r ≠ d := fun z => by rw [z, upd_same] at nr; cases nr
        rw [upd_ne this] at nr
        exact nr
      refine kk _ r (fun b o hb hs => ?_) ⟨dx, d, q, _, as, DI5.same e5⟩ nr4 ?_
      · refine e5 _ _ (off hb fun kvs z => ?_)
        rw [z] at hs
        exact hs
      · rw [upd_same, kvT_drop, kvT_len]
        have := pm.length_eq
        rw [List.length_map] at this
        rw [this]
        rfl
end
/-! ### tune -/
def mayTune (a b c d : Nat) : Bool := decide ((a : Int) ≤ 10) && (within (b : Int) 1 100 && (within (c : Int) 1 10 && within (d : Int) 1 10))
theorem mayTune_iff {a b c d : Nat} : mayTune a b c d = true ↔ ¬ (10 < a ∨ b = 0 ∨ 100 < b ∨ c = 0 ∨ 10 < c ∨ d = 0 ∨ 10 < d) := by
  unfold mayTune within
  simp only [Bool.and_eq_true, decide_eq_true_eq]
  omega
def spMayTune : Sp := fun vs H Q _ => ∃ a b c d : Nat, vs = [.int (a : Int), .int (b : Int), .int (c : Int), .int (d : Int)] ∧ Q (.bl (mayTune a b c d)) H
def spTune (CT CD : Addr) : Sp := fun vs H Q _ => ∃ (p : Addr) (s : Rh08.Desk) (a b c d : Nat), vs = [.ref p, .int (a : Int), .int (b : Int), .int (c : Int), .int (d : Int)] ∧ DeskAt CT CD H p s ∧ Ok s ∧ Post CT CD p s (.tune a b c d) Q H
theorem dF_seta (d q : Addr) (u : Rh08.Tune) (n : Nat) : putF "a" (.int (n : Int)) (dF d q u) = dF d q { u with long := n } :=
  (put_past (by decide +kernel)).trans (congrArg _ ((put_past (by decide +kernel)).trans (congrArg _ put_here)))
theorem dF_setb (d q : Addr) (u : Rh08.Tune) (n : Nat) : putF "b" (.int (n : Int)) (dF d q u) = dF d q { u with soon := n } :=
  (put_past (by decide +kernel)).trans (congrArg _ ((put_past (by decide +kernel)).trans (congrArg _ ((put_past (by decide +kernel)).trans (congrArg _ put_here)))))
theorem dF_setc (d q : Addr) (u : Rh08.Tune) (n : Nat) : putF "c" (.int (n : Int)) (dF d q u) = dF d q { u with head := n } :=
  (put_past (by decide +kernel)).trans (congrArg _ ((put_past (by decide +kernel)).trans (congrArg _ ((put_past (by decide +kernel)).trans (congrArg _ ((put_past (by decide +kernel)).trans (congrArg _ put_here)))))))
theorem dF_setd (d q : Addr) (u : Rh08.Tune) (n : Nat) : putF "d" (.int (n : Int)) (dF d q u) = dF d q { u with body := n } :=
  (put_past (by decide +kernel)).trans (congrArg _ ((put_past (by decide +kernel)).trans (congrArg _ ((put_past (by decide +kernel)).trans (congrArg _ ((put_past (by decide +kernel)).trans (congrArg _ ((put_past (by decide +kernel)).trans (congrArg _ put_here)))))))))
theorem dF_setq (d q q' : Addr) (u : Rh08.Tune) (a : List (Nat × Nat)) : putF "asked" (.ref q') (dF d q u) = dF d q' { u with ask := a } := (put_past (by decide +kernel)).trans (congrArg _ put_here)
theorem dF_fields (d q : Addr) (u : Rh08.Tune) : (dF d q u).length = 6 := rfl
/-- the texts and what is asked do not lie where the desk lies -/
theorem DeskIn.offD {CT CD : Addr} {H : Hp} {a dx d q : Addr} {es : List (Addr × Rh08.Text)} {as : List (Addr × (Nat × Nat))} {s : Rh08.Desk} (h : DeskIn CT CD H a dx d q es as s) {b : Addr} {o : HO} (hb : H b = some o) (ho : ∀ C dx d q u, o ≠ .ins C dx (dF d q u)) : b ≠ a := ne_of hb h.ob (ho _ _ _ _ _)
theorem tF_ne {C C' dx dx' h b d q : Addr} {n : Nat} {u : Rh08.Tune} : HO.ins C dx (tF n h b) ≠ HO.ins C' dx' (dF d q u) := fun z => by
  have e := (HO.ins.inj z).2.2
  have := congrArg List.length e
  simp [tF, dF] at this
theorem TextAt.off {CT : Addr} {H : Hp} {a b C dx d q : Addr} {t : Rh08.Text} {u : Rh08.Tune} {o : HO} (h : TextAt CT H b t) (ha : H a = some (.ins C dx (dF d q u))) : TextAt CT (upd H a o) b t := by
  obtain ⟨y1, y2, y3, z1, z2, z3⟩ := h
  refine ⟨y1, y2, y3, ?_, ?_, ?_⟩
  · rw [upd_ne (ne_of z1 ha tF_ne)]; exact z1
  · rw [upd_ne (ne_of z2 ha (fun z => by cases z))]; exact z2
  · rw [upd_ne (ne_of z3 ha (fun z => by cases z))]; exact z3
/-- the desk's own fields stored anew -/
theorem DeskIn.retune {CT CD : Addr} {H : Hp} {a dx d q : Addr} {es : List (Addr × Rh08.Text)} {as : List (Addr × (Nat × Nat))} {s : Rh08.Desk} (h : DeskIn CT CD H a dx d q es as s) {u : Rh08.Tune} (hu : u.ask = s.tune.ask) : DeskIn CT CD (upd H a (.ins CD dx (dF d q u))) a dx d q es as { s with tune := u } := by
  refine ⟨upd_same, ?_, fun e he => (h.tx e he).off h.ob, h.pm, ?_, fun e he => ?_, h.qa.trans hu.symm⟩
  · rw [upd_ne (ne_of h.dc h.ob (fun z => by cases z))]; exact h.dc
  · rw [upd_ne (ne_of h.ql h.ob (fun z => by cases z))]; exact h.ql
  · rw [upd_ne (ne_of (h.qt e he) h.ob (fun z => by cases z))]; exact h.qt e he
section
variable {P : Program} {w : World} {K : PySem.W.Frag} {mg : Str → Option Value} {base : Heap} {CT CD : Addr}
theorem sc_maytune : FnScope ["a", "b", "c", "d"] ["a", "b", "c", "d"] (defScope s_may_be_tuned) := ⟨rfl, rfl, rfl, by decide +kernel, rfl, by decide +kernel, by decide +kernel⟩
theorem ok_may_be_tuned {f : Addr} {fd : FuncData} (F : Fun K "may_be_tuned" "may_be_tuned" s_may_be_tuned f fd) (G : Has P w K mg base 1 "is_within" ["number", "least", "most"] spWithin) : FnOk P w K mg base CX0 2 f fd ["a", "b", "c", "d"] spMayTune := by
  refine F.ok sc_maytune (fun vs H Q E h => ?_) (fun cdv A outer s H vs Q E hr h => ?_)
  · obtain ⟨a, b, c, d, rfl, _⟩ := h
    rfl
  · obtain ⟨a, b, c, d, rfl, kk⟩ := h
    refine ⟨_, pss_one (ps_ret (pe_and (pe_cmpR op_le (pv 0) pe_int (nomark _)) (pe_and (pe_cl G hr (pa_cons (pv 1) (pa_cons pe_int (pa_cons pe_int pa_nil)))) (pe_and (pe_cl G hr (pa_cons (pv 2) (pa_cons pe_int (pa_cons pe_int pa_nil)))) (pe_one (pe_cl G hr (pa_cons (pv 3) (pa_cons pe_int (pa_cons pe_int pa_nil))))))))), ?_⟩
    have fin : ∀ z, mayTune a b c d = z → Q (.bl z) H := fun z e => by rw [← e]; exact kk
    refine ⟨_, rfl, _, _, rfl, rfl, _, rfl, ?_⟩
    by_cases c1 : (a : Int) ≤ 10
    · refine ifT (decide_eq_true c1) ?_
      refine ⟨_, rfl, (b : Int), 1, 100, rfl, _, rfl, ?_⟩
      by_cases c2 : within (b : Int) 1 100 = true
      · refine ifT c2 ?_
        refine ⟨_, rfl, (c : Int), 1, 10, rfl, _, rfl, ?_⟩
        by_cases c3 : within (c : Int) 1 10 = true
        · refine ifT c3 ?_
          refine ⟨_, rfl, (d : Int), 1, 10, rfl, ?_⟩
          refine fin _ ?_
          unfold mayTune
          rw [decide_eq_true c1, c2, c3]
          rfl
        · refine ifF c3 (fin _ ?_)
          unfold mayTune
          rw [decide_eq_true c1, c2, Bool.not_eq_true _ |>.mp c3]
          rfl
      · refine ifF c2 (fin _ ?_)
        unfold mayTune
        rw [decide_eq_true c1, Bool.not_eq_true _ |>.mp c2]
        rfl
    · refine ifF (by rw [decide_eq_true_eq]; exact c1) (fin _ ?_)
      unfold mayTune
      rw [decide_eq_false c1]
      rfl
theorem sc_tune : FnScope ["desk", "a", "b", "c", "d"] ["desk", "a", "b", "c", "d"] (defScope s_tune) := ⟨rfl, rfl, rfl, by decide +kernel, rfl, by decide +kernel, by decide +kernel⟩
theorem ok_tune {f : Addr} {fd : FuncData} (F : Fun K "tune" "tune" s_tune f fd) (T : Txt K mg CT CD) (hO : ∃ t, mg "OUT_OF_BOUNDS" = some (.int (-1) t)) (G : Has P w K mg base 2 "may_be_tuned" ["a", "b", "c", "d"] spMayTune) : FnOk P w K mg base CX0 3 f fd ["desk", "a", "b", "c", "d"] (spTune CT CD) := by
  refine F.ok sc_tune (fun vs H Q E h => ?_) (fun cdv A outer s H vs Q E hr h => ?_)
  · obtain ⟨p, s, a, b, c, d, rfl, _⟩ := h
    rfl
  · obtain ⟨p, s0, a, b, c, d, rfl, D0, O, kk⟩ := h
    refine ⟨_, pss_cons (ps_if (pt_not (pt_val (pe_cl G hr (pa_cons (pv 1) (pa_cons (pv 2) (pa_cons (pv 3) (pa_cons (pv 4) pa_nil))))))) (pss_one (ps_ret (pe_lst (pa_cons (pe_const hO) pa_nil)))) pss_nil)
      (pss_cons (ps_fld (pv 0) (pv 1) rfl) (pss_cons (ps_fld (pv 0) (pv 2) rfl) (pss_cons (ps_fld (pv 0) (pv 3) rfl) (pss_cons (ps_fld (pv 0) (pv 4) rfl)
      (pss_one (ps_ret (pe_lst (pa_cons pe_int pa_nil)))))))), ?_⟩
    refine ⟨_, rfl, _, rfl, _, rfl, _, rfl, a, b, c, d, rfl, _, rfl, ?_⟩
    unfold Post at kk
    by_cases m : mayTune a b c d = true
    · refine ifF (by simp [m]) ?_
      obtain ⟨dx, dd, q, es, as, DI⟩ := id D0
      have st : Rh08.step s0 (.tune a b c d) = ({ s0 with tune := ⟨a, b, c, d, s0.tune.ask⟩ }, [0]) := by
        unfold Rh08.step
        exact if_neg (mayTune_iff.mp m)
      rw [st] at kk
      refine ⟨_, rfl, _, rfl, p, CD, dx, _, rfl, DI.ob, T.cD, T.nA, (by show 6 < 1000; decide), ?_⟩
      refine ⟨_, rfl, _, rfl, p, CD, dx, _, rfl, upd_same, T.cD, T.nB, (by rw [dF_seta]; show 6 < 1000; decide), ?_⟩
      refine ⟨_, rfl, _, rfl, p, CD, dx, _, rfl, upd_same, T.cD, T.nC, (by rw [dF_seta, dF_setb]; show 6 < 1000; decide), ?_⟩
      refine ⟨_, rfl, _, rfl, p, CD, dx, _, rfl, upd_same, T.cD, T.nD, (by rw [dF_seta, dF_setb, dF_setc]; show 6 < 1000; decide), ?_⟩
      rw [upd_upd, upd_upd, upd_upd, dF_seta, dF_setb, dF_setc, dF_setd]
      have DI2 := DI.retune (u := ⟨a, b, c, d, s0.tune.ask⟩) rfl
      refine ⟨by show 1 ≤ sizeLine; decide, fun r nr => ?_⟩
      have e5 : Same (upd H p (.ins CD dx (dF dd q ⟨a, b, c, d, s0.tune.ask⟩))) _ := same_upd (o := .lst [.int 0]) nr
      have nr4 : H r = none := by
        have : r ≠ p := fun z => by rw [z, upd_same] at nr; cases nr
        rw [upd_ne this] at nr
        exact nr
      refine kk _ r (fun b o hb hs => ?_) ⟨dx, dd, q, es, as, DI2.same e5⟩ nr4 upd_same
      refine e5 _ _ ?_
      rw [upd_ne]
      · exact hb
      · intro z
        rw [z, DI.ob] at hb
        cases hb
        exact hs
    · refine ifT (by simp [m]) ?_
      have st : Rh08.step s0 (.tune a b c d) = (s0, [-1]) := by
        unfold Rh08.step
        exact if_pos (Classical.not_not.mp fun z => m (mayTune_iff.mpr z))
      rw [st] at kk
      refine ⟨by show 1 ≤ sizeLine; decide, fun r nr => ?_⟩
      exact kk _ r (newList nr) (D0.same (same_upd nr)) nr upd_same
end
end Mk
set_option Elab.async false
set_option maxRecDepth 100000
set_option maxHeartbeats 5000000
/-! mark, best. -/
namespace Mk
open PySem PySem.Spec PyProof.Rows L2
theorem cut_takeV (xs : List V) (n : Nat) : cutV xs none (some (n : Int)) = xs.take n := by
  unfold cutV
  rw [HT.sIx_nat]
  show (xs.drop 0).take (min n xs.length - 0) = _
  rw [List.drop_zero, Nat.sub_zero]
  rcases Nat.le_total n xs.length with h | h
  · rw [Nat.min_eq_left h]
  · rw [Nat.min_eq_right h, List.take_length, List.take_of_length_le h]
/-- key and mark, shown, one behind another -/
def told (r : List KF) : List Int := r.flatMap fun x => [(x.1 : Int), showF x.2]
theorem told_len (r : List KF) : (told r).length = 2 * r.length := by
  unfold told
  induction r with
  | nil => rfl
  | cons x r ih =>
    rw [List.flatMap_cons, List.length_append, ih]
    simp
    omega
theorem told_eq {u : Rh08.Tune} {l : List Rh08.Text} (hu : TuneOk u) (hl : TextsOk l) (n : Nat) : told ((rankF u l).take n) = ((Rh08.ranked u (Rh08.counts u l) l).take n).flatMap fun x => [(x.1 : Int), Rh08.shown x.2] := by
  rw [← rank_eq hu hl, ← List.map_take]
  unfold told
  have g : ∀ y ∈ (rankF u l).take n, Gd 241 y.2 := fun y hy => rank_gd hu hl (List.mem_of_mem_take hy)
  generalize (rankF u l).take n = r at g
  induction r with
  | nil => rfl
  | cons x r ih =>
    rw [List.map_cons, List.flatMap_cons, List.flatMap_cons, ih fun y hy => g y (.tail _ hy), show_eq (g x (.head _))]
    rfl
section
variable {P : Program} {w : World} {K : PySem.W.Frag} {mg : Str → Option Value} {base : Heap} {CT CD : Addr}
theorem sc_markc : FnScope ["desk", "key"] ["desk", "key"] (defScope s_mark) := ⟨rfl, rfl, rfl, by decide +kernel, rfl, by decide +kernel, by decide +kernel⟩
theorem ok_mark {f : Addr} {fd : FuncData} (F : Fun K "mark" "mark" s_mark f fd) (T : Txt K mg CT CD) (hN : ∃ t, mg "NO_SUCH_TEXT" = some (.int (-3) t)) (GS : Has P w K mg base 1 "shown" ["x"] spShown) (GM : Has P w K mg base 5 "mark_of" ["desk", "text"] (spMark CT CD)) :
    FnOk P w K mg base CX0 6 f fd ["desk", "key"] (spNum CT CD .mark) := by
  refine F.ok sc_markc (fun vs H Q E h => ?_) (fun cdv A outer s H vs Q E hr h => ?_)
  · obtain ⟨a, s, k, rfl, _⟩ := h
    rfl
  · obtain ⟨a, s0, k, rfl, D0, O, kk⟩ := h
    have hu := hu_of hr
    have hr1 : Room 1 _ := hr.mono (by decide)
    refine ⟨_, pss_cons (ps_if (pt_cmp (pc_dnotin hu (pv 1) (pe_fld (pv 0) rfl))) (pss_one (ps_ret (pe_lst (pa_cons (pe_const hN) pa_nil)))) pss_nil)
      (pss_one (ps_ret (pe_lst (pa_cons (pe_cl GS hr1 (pa_cons (pe_cl GM hr (pa_cons (pv 0) (pa_cons (pe_dget hu (pe_fld (pv 0) rfl) (pv 1) (fun _ _ => rfl)) pa_nil))) pa_nil)) pa_nil)))), ?_⟩
    obtain ⟨dx, d, q, es, as, DI⟩ := id D0
    refine ⟨_, rfl, _, rfl, a, CD, dx, _, _, rfl, DI.ob, T.cD, T.nTexts, dF_texts _ _ _, d, _, rfl, DGet.k (k := (Sum.inl (k : Int) : Key)) DI.dc, _, rfl, ?_⟩
    unfold Post at kk
    cases e : Rh08.get s0 k with
    | none =>
      rw [DI.getNone e]
      refine ifT rfl ?_
      have st : Rh08.step s0 (.mark k) = (s0, [-3]) := by
        unfold Rh08.step
        dsimp only
        rw [e]
      rw [st] at kk
      refine ⟨by show 1 ≤ sizeLine; decide, fun r nr => ?_⟩
      exact kk _ r (newList nr) (D0.same (same_upd nr)) nr upd_same
    | some t =>
      obtain ⟨x, hx, rfl, ht, hv⟩ := DI.getSome O e
      rw [hv]
      refine ifF (by simp) ?_
      have gm := Gd_mark O.u O.t ht
      have st : Rh08.step s0 (.mark k) = (s0, [showF (markF s0.tune s0.texts x.2)]) := by
        unfold Rh08.step
        dsimp only
        rw [e]
        dsimp only
        rw [show_eq gm, val_mark O.u O.t ht]
        rfl
      rw [st] at kk
      refine ⟨_, rfl, _, rfl, a, CD, dx, _, _, rfl, DI.ob, T.cD, T.nTexts, dF_texts _ _ _, _, rfl, d, .ref x.1, rfl, ?_, ?_⟩
      · have := DGet.k (H := H) (a := d) (k := (Sum.inl (k : Int) : Key)) DI.dc
        rw [hv] at this
        exact this
      refine ⟨a, x.1, s0, x.2, rfl, D0, O, DI.tx x hx, ht, fun H1 m1 e1 n1 f1 => ?_⟩
      refine ⟨m1, _, 241, rfl, f1, gm, by decide, ?_⟩
      refine ⟨by show 1 ≤ sizeLine; decide, fun r nr => ?_⟩
      exact kk _ r (keepL_of (e1.trans (same_upd nr))) (D0.same (e1.trans (same_upd nr))) (e1.free nr) upd_same
theorem sc_best : FnScope ["desk", "most", "first", "answer", "key", "exact_mark"] ["desk", "most"] (defScope s_best) := ⟨rfl, rfl, rfl, by decide +kernel, rfl, by decide +kernel, by decide +kernel⟩
theorem ok_best {f : Addr} {fd : FuncData} (F : Fun K "best" "best" s_best f fd) (T : Txt K mg CT CD) (GS : Has P w K mg base 1 "shown" ["x"] spShown) (GR : Has P w K mg base 6 "ranked" ["desk"] (spRanked CT CD)) :
    FnOk P w K mg base CX0 7 f fd ["desk", "most"] (spNum CT CD .best) := by
  refine F.ok sc_best (fun vs H Q E h => ?_) (fun cdv A outer s H vs Q E hr h => ?_)
  · obtain ⟨a, s, k, rfl, _⟩ := h
    rfl
  · obtain ⟨a, s0, k, rfl, D0, O, kk⟩ := h
    have hr1 : Room 1 _ := hr.mono (by decide)
    refine ⟨_, pss_cons (ps_set (i := 2) sc_best.nd rfl (Or.inl rfl) (pe_slice sl_list (pe_cl GR hr (pa_cons (pv 0) pa_nil)) po_none (po_some (pv 1))))
      (pss_cons (ps_set (i := 3) sc_best.nd rfl (Or.inl rfl) (pe_lst (pa_cons (pe_callB call_len_seq (by rfl) T.len PySem.boot_len (pa_cons (pv 2) pa_nil)) pa_nil)))
      (pss_cons (ps_for PassesOwn.never rfl (pi_list (pv 2)) (pg_tup rfl (pgs_cons (pg_name (i := 4) sc_best.nd rfl (Or.inl rfl)) (pgs_cons (pg_name (i := 5) sc_best.nd rfl (Or.inl rfl)) pgs_nil)))
        (pss_one (ps_expr (pe_bm PySem.F.plainAttrs_list PySem.F.slot_list_extend PySem.F.type_list_extend mt_extend (pv 3) (pa_cons (pe_lst (pa_cons (pv 4) (pa_cons (pe_cl GS hr1 (pa_cons (pv 5) pa_nil)) pa_nil))) pa_nil)))))
      (pss_one (ps_ret (pv 3))))), ?_⟩
    unfold Post at kk
    refine ⟨_, rfl, a, s0, rfl, D0, O, fun H1 l1 e1 n1 R1 => ?_⟩
    obtain ⟨bs, R, er⟩ := id R1
    have hlen := rank_len s0.tune s0.texts
    have hN := O.t.len
    have hbl : bs.length = (rankF s0.tune s0.texts).length := by rw [← er, List.length_map]
    have st : Rh08.step s0 (.best k) = (s0, ((((rankF s0.tune s0.texts).take k).length : Nat) : Int) :: told ((rankF s0.tune s0.texts).take k)) := by
      have e1 : (Rh08.rankedIn s0).length = (rankF s0.tune s0.texts).length := by
        show (Rh08.ranked s0.tune (Rh08.counts s0.tune s0.texts) s0.texts).length = _
        rw [← rank_eq O.u O.t, List.length_map]
      unfold Rh08.step
      dsimp only
      rw [told_eq O.u O.t, List.length_take, List.length_take, e1]
      rfl
    rw [st] at kk
    refine ⟨_, rfl, _, rfl, l1, _, rfl, SqL.of R.ls, fun l2 n2 => ?_⟩
    rw [cut_takeV, ← List.map_take]
    have e2 : Same H1 _ := same_upd (o := .lst ((bs.take k).map fun b => V.ref b.1)) n2
    have e12 := e1.trans e2
    refine ⟨_, rfl, l2, _, rfl, .inl (SqL.of upd_same), (by show 1 ≤ sizeLine; decide), fun l3 n3 => ?_⟩
    have e3 : Same (upd H1 l2 (.lst ((bs.take k).map fun b => V.ref b.1))) _ := same_upd (o := .lst [.int (((bs.take k).map fun b => V.ref b.1).length : Int)]) n3
    have e13 := e12.trans e3
    have n3' : H l3 = none := e12.free n3
    have l23 : l2 ≠ l3 := ne_of_none (show upd H1 l2 (.lst ((bs.take k).map fun b => V.ref b.1)) l2 = _ from upd_same) n3
    have R3 : RankIn (upd (upd H1 l2 (.lst ((bs.take k).map fun b => V.ref b.1))) l3 (.lst [.int (((bs.take k).map fun b => V.ref b.1).length : Int)])) l2 (bs.take k) :=
      ⟨e3 _ _ upd_same, fun b hb => e3 _ _ (e2 _ _ (R.pr b (List.mem_of_mem_take hb))), fun b hb => ((R.fr b (List.mem_of_mem_take hb)).same e2).same e3⟩
    have hcnt : ((bs.take k).map fun b => V.ref b.1).length = ((rankF s0.tune s0.texts).take k).length := by
      rw [List.length_map, List.length_take, List.length_take, hbl]
    refine ⟨_, rfl, l2, rfl, ⟨_, SqL.of R3.ls⟩, for_list (K := K) (a := l2) (xs := (bs.take k).map fun b => V.ref b.1)
      (fun i σ H' => ∃ v4 v5 : Option V, σ = [some (.ref a), some (.int (k : Int)), some (.ref l2), some (.ref l3), v4, v5] ∧ Same H H' ∧ RankIn H' l2 (bs.take k) ∧
        H' l3 = some (.lst ((((((rankF s0.tune s0.texts).take k).length : Nat) : Int) :: told (((rankF s0.tune s0.texts).take k).take i)).map V.int))) ?_ (fun i σ H' _ ⟨_, _, _, _, RR, _⟩ => SqL.of RR.ls) ?_ ?_⟩
    · refine ⟨none, none, rfl, e13, R3, ?_⟩
      rw [upd_same, hcnt]
      rfl
    · rintro i y σ H' hi ⟨v4, v5, rfl, s1, R4, hl3⟩
      obtain ⟨b, hb, rfl⟩ : ∃ b, (bs.take k)[i]? = some b ∧ y = V.ref b.1 := by
        rw [List.getElem?_map] at hi
        cases z : (bs.take k)[i]? with
        | none => rw [z] at hi; cases hi
        | some b => rw [z] at hi; exact ⟨b, rfl, (Option.some.inj hi).symm⟩
      have hm : b ∈ bs.take k := List.mem_of_getElem? hb
      have hy : ((rankF s0.tune s0.texts).take k)[i]? = some b.2.2 := by
        rw [← er, ← List.map_take, List.getElem?_map, hb]
        rfl
      have gb : Gd 241 b.2.2.2 := rank_gd O.u O.t (List.mem_of_mem_take (List.mem_of_getElem? hy))
      refine ⟨b.1, _, rfl, SqT.of (R4.pr b hm), rfl, _, _, rfl, _, _, rfl, rfl, ?_⟩
      refine ⟨_, rfl, .inl ⟨rfl, _, SqL.of hl3⟩, _, rfl, _, rfl, b.2.1, _, 241, rfl, R4.fr b hm, gb, by decide, (by show 2 ≤ sizeLine; decide), fun p nn => ?_⟩
      have e5 : Same H' _ := same_upd (o := .lst [.int (b.2.2.1 : Int), .int (showF b.2.2.2)]) nn
      have lp : l3 ≠ p := ne_of_none hl3 nn
      refine ⟨l3, p, _, _, rfl, rfl, e5 _ _ hl3, upd_same, ?_, ?_⟩
      · rw [List.length_map, List.length_cons, told_len, List.length_take, List.length_take]
        show _ + 2 ≤ sizeLine
        have : (1000 : Nat) < sizeLine := by decide
        omega
      · have off : ∀ {c : Addr} {o : HO}, upd H' p (.lst [.int (b.2.2.1 : Int), .int (showF b.2.2.2)]) c = some o → c ≠ l3 → ∀ zs, upd (upd H' p (.lst [.int (b.2.2.1 : Int), .int (showF b.2.2.2)])) l3 (.lst zs) c = some o := fun h h' zs => by
          rw [upd_ne h']
          exact h
        refine ⟨_, _, rfl, fun c o hc => ?_, ⟨?_, fun c hc => ?_, fun c hc => ?_⟩, ?_⟩
        · exact off (e5 _ _ (s1 _ _ hc)) (ne_of_none hc n3') _
        · exact off (e5 _ _ R4.ls) l23 _
        · exact off (e5 _ _ (R4.pr c hc)) (ne_of (R4.pr c hc) hl3 (fun z => by cases z)) _
        · exact off (e5 _ _ (R4.fr c hc)) (ne_of (R4.fr c hc) hl3 (fun z => by cases z)) _
        · rw [upd_same, take_more hy]
          unfold told
          rw [List.flatMap_append, List.map_cons, List.map_cons, List.map_append]
          rfl
    · rintro σ H' ⟨v4, v5, rfl, s1, R4, hl3⟩
      refine ⟨_, rfl, ?_⟩
      rw [hcnt, List.take_length] at hl3
      exact kk H' l3 (keepL_of s1) (D0.same s1) n3' hl3
end
end Mk
set_option Elab.async false
set_option maxRecDepth 100000
set_option maxHeartbeats 5000000
/-! ask. -/
namespace Mk
open PySem PySem.Spec PyProof.Rows L2
abbrev s_may_be_asked : Stmt := top 58
abbrev s_ask : Stmt := top 59
def weightsOk (l : List Nat) : Bool := l.all fun w => within (w : Int) 1 10
def intsN (l : List Nat) : List Int := l.map fun (n : Nat) => (n : Int)
def mayAsk (ws gs : List Nat) : Bool := if ws.length ≠ gs.length ∨ 4 < ws.length then false else if (!wordsOk ws || decide (unlike (intsN ws) < ws.length)) = true then false else weightsOk gs
theorem evens_nums : ∀ l : List Nat, evens (nums l) = nums (evens l)
  | [] => rfl
  | [_] => rfl
  | x :: y :: r => by
    show V.int (x : Int) :: evens (nums r) = V.int (x : Int) :: nums (evens r)
    rw [evens_nums r]
theorem pairs_eq : ∀ l : List Nat, Rh08.pairs l = if (evens l).length = (evens (l.drop 1)).length then some ((evens l).zip (evens (l.drop 1))) else none
  | [] => rfl
  | [_] => rfl
  | x :: y :: r => by
    have ih := pairs_eq r
    have e1 : (evens ((x :: y :: r).drop 1)) = y :: evens (r.drop 1) := by
      cases r with
      | nil => rfl
      | cons z r => rfl
    rw [e1]
    show (Rh08.pairs r).map _ = if (evens r).length + 1 = (evens (r.drop 1)).length + 1 then some ((x, y) :: (evens r).zip (evens (r.drop 1))) else none
    rw [ih]
    by_cases c : (evens r).length = (evens (r.drop 1)).length
    · rw [if_pos c, if_pos (by omega)]
      rfl
    · rw [if_neg c, if_neg (by omega)]
      rfl
theorem intsN_nodup (l : List Nat) : (intsN l).Nodup ↔ l.Nodup := by
  unfold intsN
  rw [List.Nodup, List.Nodup, List.pairwise_map]
  constructor
  · exact fun h => h.imp fun {a b} z e => z (by rw [e])
  · exact fun h => h.imp fun {a b} z e => z (by omega)
theorem mayAsk_iff {ws gs : List Nat} (h : ws.length = gs.length) : mayAsk ws gs = true ↔ Rh08.isAsk (ws.zip gs) = true := by
  rw [isAsk_iff]
  have z1 : (ws.zip gs).map (·.1) = ws := List.map_fst_zip (by omega)
  have z2 : (ws.zip gs).map (·.2) = gs := List.map_snd_zip (by omega)
  have zl : (ws.zip gs).length = ws.length := by rw [List.length_zip]; omega
  have hw := wordsOk_iff ws
  have hg : weightsOk gs = true ↔ ∀ w ∈ gs, 1 ≤ w ∧ w ≤ 10 := by
    unfold weightsOk within
    simp only [List.all_eq_true, Bool.and_eq_true, decide_eq_true_eq]
    constructor
    · intro h w hw
      have := h w hw
      omega
    · intro h w hw
      have := h w hw
      omega
  have hu := unlike_lt_iff (intsN ws)
  rw [intsN_nodup] at hu
  have hl : (intsN ws).length = ws.length := List.length_map _
  rw [hl] at hu
  have both : (∀ x ∈ ws.zip gs, 1 ≤ x.1 ∧ x.1 ≤ 30 ∧ 1 ≤ x.2 ∧ x.2 ≤ 10) ↔ (∀ w ∈ ws, 1 ≤ w ∧ w ≤ 30) ∧ ∀ w ∈ gs, 1 ≤ w ∧ w ≤ 10 := by
    constructor
    · intro q
      refine ⟨fun w hx => ?_, fun w hx => ?_⟩
      · rw [← z1] at hx
        obtain ⟨y, hy, rfl⟩ := List.mem_map.mp hx
        have := q y hy
        exact ⟨this.1, this.2.1⟩
      · rw [← z2] at hx
        obtain ⟨y, hy, rfl⟩ := List.mem_map.mp hx
        have := q y hy
        exact ⟨this.2.2.1, this.2.2.2⟩
    · rintro ⟨q1, q2⟩ x hx
      have a := q1 x.1 (by rw [← z1]; exact List.mem_map_of_mem hx)
      have b := q2 x.2 (by rw [← z2]; exact List.mem_map_of_mem hx)
      exact ⟨a.1, a.2, b.1, b.2⟩
  rw [z1, zl, both]
  unfold mayAsk
  split
  · rename_i c
    constructor
    · intro q; cases q
    · rintro ⟨q, _⟩
      rcases c with c | c
      · exact absurd h c
      · omega
  · rename_i c
    split
    · rename_i c2
      rw [Bool.or_eq_true, Bool.not_eq_true', decide_eq_true_eq] at c2
      constructor
      · intro q; cases q
      · rintro ⟨_, q1, q2, _⟩
        rcases c2 with c2 | c2
        · rw [hw.mpr q2] at c2; cases c2
        · exact absurd q1 (hu.mp c2)
    · rename_i c2
      rw [Bool.or_eq_true, Bool.not_eq_true', decide_eq_true_eq, not_or, Bool.not_eq_false] at c2
      rw [hg]
      constructor
      · intro q
        exact ⟨by omega, Classical.not_not.mp fun z => c2.2 (hu.mpr z), hw.mp c2.1, q⟩
      · exact fun q => q.2.2.2
def spMayAsk : Sp := fun vs H Q _ => ∃ (p q : Addr) (ws gs : List Nat), vs = [.ref p, .ref q] ∧ H p = some (.lst (nums ws)) ∧ H q = some (.lst (nums gs)) ∧ ws.length ≤ 100 ∧ gs.length ≤ 100 ∧ ∀ H', Same H H' → Q (.bl (mayAsk ws gs)) H'
def spAsk (CT CD : Addr) : Sp := fun vs H Q _ => ∃ (a row : Addr) (s : Rh08.Desk) (l : List Nat), vs = [.ref a, .ref row] ∧ DeskAt CT CD H a s ∧ Ok s ∧ H row = some (.lst (nums l)) ∧ l.length ≤ 100 ∧ Post CT CD a s (.ask l) Q H
section
variable {P : Program} {w : World} {K : PySem.W.Frag} {mg : Str → Option Value} {base : Heap} {CT CD : Addr}
theorem sc_mayask : FnScope ["words", "weights", "weight"] ["words", "weights"] (defScope s_may_be_asked) := ⟨rfl, rfl, rfl, by decide +kernel, rfl, by decide +kernel, by decide +kernel⟩
theorem ok_may_be_asked {f : Addr} {fd : FuncData} (F : Fun K "may_be_asked" "may_be_asked" s_may_be_asked f fd) (T : Txt K mg CT CD) (h4 : ∃ t, mg "MOST_ASKED" = some (.int 4 t)) (h10 : ∃ t, mg "MOST_WEIGHT" = some (.int 10 t))
    (GW : Has P w K mg base 1 "is_within" ["number", "least", "most"] spWithin) (GA : Has P w K mg base 2 "are_words" ["words"] spAreWords) : FnOk P w K mg base CX0 3 f fd ["words", "weights"] spMayAsk := by
  refine F.ok sc_mayask (fun vs H Q E h => ?_) (fun cdv A outer s H vs Q E hr h => ?_)
  · obtain ⟨p, q, ws, gs, rfl, _⟩ := h
    rfl
  · obtain ⟨p, q, ws, gs, rfl, hp, hq, hwl, hgl, kk⟩ := h
    have hr1 : Room 1 _ := hr.mono (by decide)
    refine ⟨_, pss_cons (ps_if (pw_or (pt_cmpR op_ne (pe_callB call_len_seq (by rfl) T.len PySem.boot_len (pa_cons (pv 0) pa_nil)) (pe_callB call_len_seq (by rfl) T.len PySem.boot_len (pa_cons (pv 1) pa_nil)) (nomark _))
        (pw_or1 (pt_cmpR op_gt (pe_callB call_len_seq (by rfl) T.len PySem.boot_len (pa_cons (pv 0) pa_nil)) (pe_const h4) (nomark _)))).pt (pss_one (ps_ret pe_bl)) pss_nil)
      (pss_cons (ps_if (pw_or (pt_not (pt_val (pe_cl GA hr (pa_cons (pv 0) pa_nil)))) (pw_or1 (pt_cmpR op_lt (pe_lenSet (by rfl) T.len (by rfl) T.set (pv 0)) (pe_callB call_len_seq (by rfl) T.len PySem.boot_len (pa_cons (pv 0) pa_nil)) (nomark _)))).pt (pss_one (ps_ret pe_bl)) pss_nil)
      (pss_one (ps_ret (pe_callB (cr_all (by rfl)) (by rfl) T.all (by decide +kernel) (pa_cons (pe_lc (own := [("weight", 2)]) (g := gName 2) (te := tCall spWithin [] E0 (tCons (tVar 2) (tCons (tC (.int 1)) (tCons (tC (.int 10)) tNil)))) (by rfl) sc_mayask.nd (pi_list (pv 1))
        (blkOk_by (own := [("weight", 2)]) (N := ["words", "weights", "weight"]) (sc := defScope s_may_be_asked) (by decide +kernel)) (fun _ _ _ _ _ => pg_name (i := 2) sc_mayask.nd rfl (Or.inl rfl)) (fun _ _ _ _ _ => pts_nil)
        (fun _ _ _ _ _ => by exact pe_cl GW hr1 (pa_cons (pv 2) (pa_cons pe_int (pa_cons (pe_const h10) pa_nil))))) pa_nil))))), ?_⟩
    have fin : ∀ b, mayAsk ws gs = b → ∀ H', Same H H' → Q (.bl b) H' := fun b e H' sm => by
      rw [← e]
      exact kk H' sm
    refine ⟨_, rfl, p, _, rfl, .inl (SqL.of hp), _, rfl, q, _, rfl, .inl (SqL.of hq), rfl, _, rfl, ?_⟩
    rw [nums_len, nums_len]
    by_cases c1 : ws.length = gs.length
    · refine ifF (by simp [c1]) ?_
      refine ⟨_, rfl, p, _, rfl, .inl (SqL.of hp), _, _, rfl, rfl, _, rfl, ?_⟩
      rw [nums_len]
      by_cases c2 : (ws.length : Int) > 4
      · exact ifT (decide_eq_true c2) (fin false (by unfold mayAsk; rw [if_pos (.inr (by omega))]) H (Same.refl H))
      · refine ifF (by rw [decide_eq_true_eq]; exact c2) ?_
        have n1 : ¬ (ws.length ≠ gs.length ∨ 4 < ws.length) := by omega
        refine ⟨_, rfl, p, ws, rfl, hp, hwl, fun H1 e1 => ⟨_, rfl, ?_⟩⟩
        by_cases c3 : wordsOk ws = true
        · refine ifF (by simp [c3]) ?_
          have hp1 : SqL K H1 p ((intsN ws).map V.int) := by
            have : (intsN ws).map V.int = nums ws := (nums_eq ws).symm
            rw [this]
            exact SqL.of (e1 _ _ hp)
          refine ⟨_, rfl, p, intsN ws, rfl, hp1, (by unfold intsN; rw [List.length_map]; omega), _, rfl, p, _, rfl, .inl (SqL.of (e1 _ _ hp)), _, _, rfl, rfl, _, rfl, ?_⟩
          rw [nums_len]
          by_cases c4 : unlike (intsN ws) < ws.length
          · refine ifT (decide_eq_true (by omega)) ?_
            refine fin false ?_ H1 e1
            unfold mayAsk
            rw [if_neg n1, if_pos (by simp [c4])]
          · refine ifF (by rw [decide_eq_true_eq]; omega) ?_
            have n2 : ¬ (!wordsOk ws || decide (unlike (intsN ws) < ws.length)) = true := by simp [c3, c4]
            refine ⟨_, rfl, q, rfl, ⟨_, SqL.of (e1 _ _ hq)⟩, fun D hD => ?_⟩
            have nqD : q ≠ D := ne_of_none (e1 _ _ hq) hD
            refine lc_it (walk_list (K := K) (a := q) (xs := nums gs)) (fun i H' => H' = upd H1 D (.lst (((gs.take i).map fun (w : Nat) => within (w : Int) 1 10).map V.bl))) rfl (fun i H' _ e => by rw [e]; exact SqL.of (by rw [upd_ne nqD]; exact e1 _ _ hq)) ?_ ?_
            · rintro i x H2 H3 hi rfl ⟨rfl, hx⟩
              obtain ⟨n, hn, rfl⟩ : ∃ n : Nat, gs[i]? = some n ∧ x = V.int (n : Int) := by
                unfold nums at hx
                rw [List.getElem?_map] at hx
                cases z : gs[i]? with
                | none => rw [z] at hx; cases hx
                | some n => rw [z] at hx; exact ⟨n, rfl, (Option.some.inj hx).symm⟩
              refine ⟨rfl, _, rfl, (n : Int), 1, 10, rfl, _, upd_same, ?_, ?_⟩
              · rw [List.length_map, List.length_map, List.length_take]
                exact small1000 (by omega)
              · rw [upd_upd, take_more hn, List.map_append, List.map_append]
                rfl
            · rintro H2 rfl
              refine ⟨D, _, rfl, SqL.of upd_same, ?_⟩
              rw [nums_len, List.take_length]
              refine fin _ ?_ _ (e1.trans (same_upd hD))
              unfold mayAsk weightsOk
              rw [if_neg n1, if_neg n2, List.all_map]
              rfl
        · refine ifT (by simp [c3]) ?_
          refine fin false ?_ H1 e1
          unfold mayAsk
          rw [if_neg n1, if_pos (by simp [c3])]
    · refine ifT (by simp only [Bool.not_eq_true', decide_eq_false_iff_not]; intro z; exact c1 (by have := V.int.inj z; omega)) ?_
      refine fin false ?_ H (Same.refl H)
      unfold mayAsk
      rw [if_pos (.inl c1)]
theorem sc_ask : FnScope ["desk", "by_turns", "words", "weights"] ["desk", "by_turns"] (defScope s_ask) := ⟨rfl, rfl, rfl, by decide +kernel, rfl, by decide +kernel, by decide +kernel⟩
theorem ok_ask {f : Addr} {fd : FuncData} (F : Fun K "ask" "ask" s_ask f fd) (T : Txt K mg CT CD) (hO : ∃ t, mg "OUT_OF_BOUNDS" = some (.int (-1) t)) (GM : Has P w K mg base 3 "may_be_asked" ["words", "weights"] spMayAsk) (GR : Has P w K mg base 6 "ranked" ["desk"] (spRanked CT CD)) :
    FnOk P w K mg base CX0 7 f fd ["desk", "by_turns"] (spAsk CT CD) := by
  refine F.ok sc_ask (fun vs H Q E h => ?_) (fun cdv A outer s H vs Q E hr h => ?_)
  · obtain ⟨a, row, s, l, rfl, _⟩ := h
    rfl
  · obtain ⟨a, row, s0, l, rfl, D0, O, hrow, hl, kk⟩ := h
    have hr3 : Room 3 _ := hr.mono (by decide)
    refine ⟨_, pss_cons (ps_set (i := 2) sc_ask.nd rfl (Or.inl rfl) (pe_slice3 (pv 1) po_none po_none (po_some pe_int)))
      (pss_cons (ps_set (i := 3) sc_ask.nd rfl (Or.inl rfl) (pe_slice3 (pv 1) (po_some pe_int) po_none (po_some pe_int)))
      (pss_cons (ps_if (pt_not (pt_val (pe_cl GM hr3 (pa_cons (pv 2) (pa_cons (pv 3) pa_nil))))) (pss_one (ps_ret (pe_lst (pa_cons (pe_const hO) pa_nil)))) pss_nil)
      (pss_cons (ps_fld (pv 0) (pe_listZip (by rfl) (pa_cons (pv 2) (pa_cons (pv 3) pa_nil)) (by rfl) T.list (by rfl) T.zip) rfl)
      (pss_one (ps_ret (pe_lst (pa_cons (pe_callB call_len_seq (by rfl) T.len PySem.boot_len (pa_cons (pe_cl GR hr (pa_cons (pv 0) pa_nil)) pa_nil)) pa_nil))))))), ?_⟩
    refine ⟨_, rfl, _, rfl, row, _, rfl, SqL.of hrow, rfl, rfl, .inl rfl, fun pw nw => ?_⟩
    rw [if_pos rfl, evens_nums]
    have e1 : Same H _ := same_upd (o := .lst (nums (evens l))) nw
    refine ⟨_, rfl, _, rfl, _, rfl, row, _, rfl, SqL.of (e1 _ _ hrow), rfl, rfl, .inr rfl, fun pg ng => ?_⟩
    rw [if_neg (by simp), show (nums l).drop 1 = nums (l.drop 1) by unfold nums; rw [List.map_drop], evens_nums]
    have e2 : Same (upd H pw (.lst (nums (evens l)))) _ := same_upd (o := .lst (nums (evens (l.drop 1)))) ng
    have e12 := e1.trans e2
    have wl := evens_len l
    have gl := evens_len (l.drop 1)
    rw [List.length_drop] at gl
    refine ⟨_, rfl, _, rfl, pw, pg, evens l, evens (l.drop 1), rfl, e2 _ _ upd_same, upd_same, by omega, by omega, fun H3 e3 => ⟨_, rfl, ?_⟩⟩
    have e13 := e12.trans e3
    unfold Post at kk
    have pe := pairs_eq l
    by_cases m : mayAsk (evens l) (evens (l.drop 1)) = true
    · refine ifF (by rw [m]; decide) ?_
      have c1 : (evens l).length = (evens (l.drop 1)).length := by
        unfold mayAsk at m
        split at m
        · cases m
        · rename_i c
          omega
      rw [if_pos c1] at pe
      have ia := (mayAsk_iff c1).mp m
      have st : Rh08.step s0 (.ask l) = ({ s0 with tune := { s0.tune with ask := (evens l).zip (evens (l.drop 1)) } }, Rh08.ints [(Rh08.rankedIn { s0 with tune := { s0.tune with ask := (evens l).zip (evens (l.drop 1)) } }).length]) := by
        unfold Rh08.step
        dsimp only
        rw [pe]
        dsimp only
        rw [if_neg (by rw [ia]; exact Bool.noConfusion)]
      have O2 : Ok { s0 with tune := { s0.tune with ask := (evens l).zip (evens (l.drop 1)) } } := by
        have := step_ok O (.ask l)
        rw [st] at this
        exact this
      rw [st] at kk
      obtain ⟨dx, d, q, es, as, DI⟩ := id (D0.same e13)
      refine ⟨_, rfl, _, rfl, pw, pg, nums (evens l), nums (evens (l.drop 1)), rfl, SqL.of (e3 _ _ (e2 _ _ upd_same)), SqL.of (e3 _ _ upd_same), (by rw [nums_len, nums_len]; exact c1), fun H4 pz ts e4 nz nts hz hlen hts => ?_⟩
      have DI4 := DI.same e4
      refine ⟨_, rfl, a, CD, dx, _, rfl, DI4.ob, T.cD, T.nAsked, (by show 6 < 1000; decide), ?_⟩
      rw [dF_setq d q pz s0.tune ((evens l).zip (evens (l.drop 1)))]
      rw [nums_len] at hlen
      have zl : ((evens l).zip (evens (l.drop 1))).length = (evens l).length := by rw [List.length_zip]; omega
      have offa : ∀ {b : Addr} {o o' : HO}, H4 b = some o → (∀ C dx d q u, o ≠ .ins C dx (dF d q u)) → upd H4 a o' b = some o := fun h h' => by
        rw [upd_ne (DI4.offD h h')]
        exact h
      have D5 : DeskIn CT CD (upd H4 a (.ins CD dx (dF d pz { s0.tune with ask := (evens l).zip (evens (l.drop 1)) }))) a dx d pz es (ts.zip ((evens l).zip (evens (l.drop 1)))) { s0 with tune := { s0.tune with ask := (evens l).zip (evens (l.drop 1)) } } := by
        refine ⟨upd_same, offa DI4.dc (fun _ _ _ _ _ z => by cases z), fun e he => (DI4.tx e he).off DI4.ob, DI4.pm, ?_, fun e he => ?_, ?_⟩
        · refine (offa hz (fun _ _ _ _ _ z => by cases z)).trans ?_
          have : (ts.zip ((evens l).zip (evens (l.drop 1)))).map (·.1) = ts := List.map_fst_zip (by omega)
          have e0 : (ts.zip ((evens l).zip (evens (l.drop 1)))).map (fun e => V.ref e.1) = ts.map V.ref := by
            rw [← this, List.map_map, this]
            rfl
          rw [e0]
        · obtain ⟨j, hj⟩ := List.mem_iff_getElem?.mp he
          have hz2 := List.getElem?_zip_eq_some.mp hj
          obtain ⟨x, y, hx, hy, ht⟩ := hts j e.1 hz2.1
          have hz3 := List.getElem?_zip_eq_some.mp hz2.2
          have ex : x = V.int (e.2.1 : Int) := by
            unfold nums at hx
            rw [List.getElem?_map, hz3.1] at hx
            exact (Option.some.inj hx).symm
          have ey : y = V.int (e.2.2 : Int) := by
            unfold nums at hy
            rw [List.getElem?_map, hz3.2] at hy
            exact (Option.some.inj hy).symm
          subst ex ey
          exact offa ht (fun _ _ _ _ _ z => by cases z)
        · exact List.map_snd_zip (by omega)
      refine ⟨_, rfl, a, _, rfl, ⟨dx, d, pz, es, _, D5⟩, O2, fun H6 l6 e6 n6 R6 => ?_⟩
      obtain ⟨bs, R, er⟩ := id R6
      refine ⟨l6, _, rfl, .inl (SqL.of R.ls), (by show 1 ≤ sizeLine; decide), fun r nr => ?_⟩
      have e7 : Same H6 _ := same_upd (o := .lst [.int ((bs.map fun b => V.ref b.1).length : Int)]) nr
      have e67 := e6.trans e7
      have nr5 := e6.free nr
      have nr4 : H4 r = none := by
        have : r ≠ a := fun z => by rw [z, upd_same] at nr5; cases nr5
        rw [upd_ne this] at nr5
        exact nr5
      refine kk _ r (fun b o hb hs => ?_) ⟨dx, d, pz, es, _, D5.same e67⟩ ((e13.trans e4).free nr4) ?_
      · refine e67 _ _ (offa (e4 _ _ (e13 _ _ hb)) fun _ _ _ _ _ z => ?_)
        rw [z] at hs
        exact hs
      · rw [upd_same]
        have e1 : (Rh08.rankedIn { s0 with tune := { s0.tune with ask := (evens l).zip (evens (l.drop 1)) } }).length = bs.length := by
          show (Rh08.ranked { s0.tune with ask := (evens l).zip (evens (l.drop 1)) } (Rh08.counts { s0.tune with ask := (evens l).zip (evens (l.drop 1)) } s0.texts) s0.texts).length = _
          rw [← rank_eq O2.u O2.t, List.length_map, ← er, List.length_map]
        rw [e1, List.length_map]
        rfl
    · refine ifT (by rw [Bool.not_eq_true _ |>.mp m]; rfl) ?_
      have st : Rh08.step s0 (.ask l) = (s0, [-1]) := by
        unfold Rh08.step
        dsimp only
        rw [pe]
        by_cases c1 : (evens l).length = (evens (l.drop 1)).length
        · rw [if_pos c1]
          dsimp only
          rw [if_pos (Bool.not_eq_true _ |>.mp fun z => m ((mayAsk_iff c1).mpr z))]
        · rw [if_neg c1]
      rw [st] at kk
      refine ⟨by show 1 ≤ sizeLine; decide, fun r nr => ?_⟩
      have e4 : Same H3 _ := same_upd (o := .lst [.int (-1)]) nr
      exact kk _ r (keepL_of (e13.trans e4)) (D0.same (e13.trans e4)) (e13.free nr) upd_same
end
end Mk
set_option Elab.async false
set_option maxRecDepth 100000
set_option maxHeartbeats 5000000
/-! end_of_call, answers. -/
namespace Mk
open PySem PySem.Spec PyProof.Rows L2
abbrev s_end_of_call : Stmt := top 69
abbrev s_answers : Stmt := top 70
theorem KeepL.seq {K : PySem.W.Frag} {H H' : Hp} {a : Addr} {xs : List V} (e : KeepL H H') (h : SqL K H a xs) : SqL K H' a xs := by
  rcases h with (h | ⟨o, h⟩) | h
  · exact .inl (.inl (e _ _ h trivial))
  · exact .inl (.inr ⟨o, e _ _ h trivial⟩)
  · exact .inr h
theorem pe_gref {X : Cx} {x : Str} {c : Addr} {pos : Pos} (h : X.mg x = some (.ref c)) (hg : Gl X x := by rfl) (hd : (x == ("__debug__" : Str)) = false := by decide) : PE X (.Name x pos) (tC (.ref c)) := pe_glob hg h rfl hd
def Plain : HO → Prop
  | .lst _ => True
  | .tup _ => True
  | .dK _ => True
  | .ins _ _ _ => True
  | _ => False
theorem DeskAt.plain {CT CD : Addr} {H H' : Hp} {a : Addr} {s : Rh08.Desk} (h : DeskAt CT CD H a s) (k : ∀ b o, H b = some o → Plain o → H' b = some o) : DeskAt CT CD H' a s := by
  obtain ⟨dx, d, q, es, as, D⟩ := h
  refine ⟨dx, d, q, es, as, k _ _ D.ob trivial, k _ _ D.dc trivial, fun e he => ?_, D.pm, k _ _ D.ql trivial, fun e he => k _ _ (D.qt e he) trivial, D.qa⟩
  obtain ⟨y1, y2, y3, z1, z2, z3⟩ := D.tx e he
  exact ⟨y1, y2, y3, k _ _ z1 trivial, k _ _ z2 trivial, k _ _ z3 trivial⟩
def spAnswerOf (CT CD : Addr) : Sp := fun vs H Q _ => ∃ (a pl rw : Addr) (s : Rh08.Desk) (p : Nat) (x row : List Nat), vs = [.ref a, .int (p : Int), .ref pl, .ref rw] ∧ DeskAt CT CD H a s ∧ Ok s ∧ p ≤ 10 ∧ H pl = some (.lst (nums x)) ∧ H rw = some (.lst (nums row)) ∧ x.length = cnt p ∧ row.length ≤ 30 ∧
  Post CT CD a s (callN p x row) Q H
/-- the whole numbers of each call, as the top has them -/
def countsV : List V := [.int 3, .int 1, .int 4, .int 0, .int 1, .int 1, .int 1, .int 2, .int 1, .int 2, .int 1]
theorem countsV_at {p : Nat} (h : p ≤ 10) : countsV[p]? = some (.int (cnt p : Int)) := by
  rcases le_cases h with e | e | e | e | e | e | e | e | e | e | e <;> subst e <;> rfl
def spEndOf (K : PySem.W.Frag) : Sp := fun vs H Q _ => ∃ (a : Addr) (ns : List Nat) (p e : Nat), vs = [.ref a, .int (p : Int), .int (e : Int)] ∧ SqL K H a (nums ns) ∧ (isRow p = true → e < ns.length) ∧ Q (.int ((if isRow p = true then e + 1 + ns.getD e 0 else e : Nat) : Int)) H
def spAns (K : PySem.W.Frag) : Sp := fun vs H Q _ => ∃ (a : Addr) (ns : List Nat), vs = [.ref a] ∧ SqL K H a (nums ns) ∧ ns.length ≤ 30000 ∧ (∀ n ∈ ns, n < 2 ^ 32) ∧ PyRh08.answers_asked (ofN ns) = true ∧
  ∀ (H' : Hp) (p : Addr), H' p = some (.lst ((PyRh08.answers (ofN ns)).map V.int)) → Q (.ref p) H'
theorem cut_mid (l : List Nat) (a b : Nat) (h : b ≤ l.length) : cutV (nums l) (some (a : Int)) (some (b : Int)) = nums ((l.drop a).take (b - a)) := by
  unfold cutV
  rw [HT.sIx_nat, HT.sIx_nat, nums_len, Nat.min_eq_left h]
  rcases Nat.le_total a l.length with q | q
  · rw [Nat.min_eq_left q]
    unfold nums
    rw [List.map_take, List.map_drop]
  · rw [Nat.min_eq_right q]
    have e1 : b - l.length = 0 := by omega
    have e2 : b - a = 0 := by omega
    rw [e1, e2]
    rfl
theorem nums_at {l : List Nat} {i n : Nat} (h : l[i]? = some n) : (nums l)[i]? = some (.int (n : Int)) := by
  unfold nums
  rw [List.getElem?_map, h]
  rfl
section
variable {P : Program} {w : World} {K : PySem.W.Frag} {mg : Str → Option Value} {base : Heap} {CT CD : Addr}
theorem sc_end : FnScope ["calls", "number", "plain_end"] ["calls", "number", "plain_end"] (defScope s_end_of_call) := ⟨rfl, rfl, rfl, by decide +kernel, rfl, by decide +kernel, by decide +kernel⟩
theorem ok_end_of_call {f : Addr} {fd : FuncData} (F : Fun K "end_of_call" "end_of_call" s_end_of_call f fd) (h0 : ∃ t, mg "PUT" = some (.int 0 t)) (h3 : ∃ t, mg "ASK" = some (.int 3 t)) : FnOk P w K mg base CX0 1 f fd ["calls", "number", "plain_end"] (spEndOf K) := by
  refine F.ok sc_end (fun vs H Q E h => ?_) (fun cdv A outer s H vs Q E hr h => ?_)
  · obtain ⟨a, ns, p, e, rfl, _⟩ := h
    rfl
  · obtain ⟨a, ns, p, e, rfl, hS, hlt, kk⟩ := h
    refine ⟨_, pss_cons (ps_if (pw_or (pt_cmpR op_eq (pv 1) (pe_const h0) (nomark _)) (pw_or1 (pt_cmpR op_eq (pv 1) (pe_const h3) (nomark _)))).pt
        (pss_one (ps_ret (pe_op op_add (pe_op op_add (pv 2) pe_int) (pe_ix ix_list (pv 0) (pv 2) (fun _ _ => rfl))))) pss_nil)
      (pss_one (ps_ret (pv 2))), ?_⟩
    have eqv : ∀ n : Nat, (V.int (p : Int) = V.int (n : Int)) ↔ p = n := fun n => by
      constructor
      · intro z
        have := V.int.inj z
        omega
      · intro z
        rw [z]
    have yes : isRow p = true → Q (.int ((e + 1 + ns.getD e 0 : Nat) : Int)) H := fun z => by
      rw [if_pos z] at kk
      exact kk
    have fin : isRow p = true → (tRet (tOp (rI0 fun i j => V.int (i + j)) (tOp (rI0 fun i j => V.int (i + j)) (tVar 2) (tC (.int 1))) (tOp (rIxL K) (tVar 0) (tVar 2)))) { nx := fun _ H' => Q .non H', rt := Q } (L2.start ["calls", "number", "plain_end"] [.ref a, .int (p : Int), .int (e : Int)]) H := fun z => by
      have hl := hlt z
      have hx : ns[e]? = some ns[e] := List.getElem?_eq_getElem hl
      refine ⟨_, rfl, _, _, rfl, rfl, _, rfl, _, rfl, a, _, _, _, rfl, rfl, hS, atI_nat (nums_at hx), _, _, rfl, rfl, ?_⟩
      have := yes z
      rw [List.getD_eq_getElem?_getD, hx] at this
      exact this
    refine ⟨_, rfl, rfl, _, rfl, ?_⟩
    by_cases c0 : p = 0
    · exact ifT (decide_eq_true ((eqv 0).mpr c0)) (fin (by rw [c0]; rfl))
    · refine ifF (by rw [decide_eq_true_eq]; exact fun z => c0 ((eqv 0).mp z)) ?_
      refine ⟨_, rfl, rfl, _, rfl, ?_⟩
      by_cases c3 : p = 3
      · exact ifT (decide_eq_true ((eqv 3).mpr c3)) (fin (by rw [c3]; rfl))
      · refine ifF (by rw [decide_eq_true_eq]; exact fun z => c3 ((eqv 3).mp z)) ?_
        have nr : ¬ isRow p = true := by
          unfold isRow
          simp [c0, c3]
        rw [if_neg nr] at kk
        exact ⟨_, rfl, kk⟩
theorem sc_answers : FnScope ["calls", "desk", "given", "at", "number", "plain_end", "end", "row", "answer"] ["calls"] (defScope s_answers) := ⟨rfl, rfl, rfl, by decide +kernel, rfl, by decide +kernel, by decide +kernel⟩
theorem ok_answers {f : Addr} {fd : FuncData} (F : Fun K "answers" "answers" s_answers f fd) (T : Txt K mg CT CD) (hPC : ∃ pc, mg "PLAIN_COUNTS" = some (.ref pc) ∧ ∀ H, SqT K H pc countsV) (GD : HasInit P w K mg base 1 CD ["self"] (spDeskInit CT CD))
    (GE : Has P w K mg base 1 "end_of_call" ["calls", "number", "plain_end"] (spEndOf K)) (k : Nat) (hk : 2 ≤ k) (GA : Has P w K mg base k "answer_of" ["desk", "number", "plain", "row"] (spAnswerOf CT CD)) : FnOk P w K mg base CX0 (k + 1) f fd ["calls"] (spAns K) := by
  refine F.ok sc_answers (fun vs H Q E h => ?_) (fun cdv A outer s H vs Q E hr h => ?_)
  · obtain ⟨a, ns, rfl, _⟩ := h
    rfl
  · obtain ⟨a, ns, rfl, hS, hlen, hb, hask, kk⟩ := h
    obtain ⟨pc, gPC, tPC⟩ := hPC
    have hr1 : Room 1 _ := hr.mono (by omega)
    have hr2 : Room 2 _ := hr.mono (by omega)
    refine ⟨_, pss_cons (ps_set (i := 1) sc_answers.nd rfl (Or.inl rfl) (pe_mk0 GD hr2 T.gD))
      (pss_cons (ps_set (i := 2) sc_answers.nd rfl (Or.inl rfl) (pe_lst pa_nil))
      (pss_cons (ps_set (i := 3) sc_answers.nd rfl (Or.inl rfl) pe_int)
      (pss_cons (ps_while PassesOwn.never (pt_cmpR op_lt (pv 3) (pe_callB call_len_seq (by rfl) T.len PySem.boot_len (pa_cons (pv 0) pa_nil)) (nomark _))
        (pss_cons (ps_set (i := 4) sc_answers.nd rfl (Or.inl rfl) (pe_ix ix_list (pv 0) (pv 3) (fun _ _ => rfl)))
        (pss_cons (ps_set (i := 5) sc_answers.nd rfl (Or.inl rfl) (pe_op op_add (pe_op op_add (pv 3) pe_int) (pe_ix ix_tup (pe_gref gPC) (pv 4) (fun _ _ => rfl))))
        (pss_cons (ps_set (i := 6) sc_answers.nd rfl (Or.inl rfl) (pe_cl GE hr1 (pa_cons (pv 0) (pa_cons (pv 4) (pa_cons (pv 5) pa_nil)))))
        (pss_cons (ps_set (i := 7) sc_answers.nd rfl (Or.inl rfl) (pe_slice sl_list (pv 0) (po_some (pe_op op_add (pv 5) pe_int)) (po_some (pv 6))))
        (pss_cons (ps_set (i := 8) sc_answers.nd rfl (Or.inl rfl) (pe_lock (pe_cl GA hr (pa_cons (pv 1) (pa_cons (pv 4) (pa_cons (pe_slice sl_list (pv 0) (po_some (pe_op op_add (pv 3) pe_int)) (po_some (pv 5))) (pa_cons (pv 7) pa_nil)))))))
        (pss_cons (ps_expr (pe_bm PySem.F.plainAttrs_list PySem.F.slot_list_append PySem.F.type_list_append mt_append (pv 2) (pa_cons (pe_callB call_len_seq (by rfl) T.len PySem.boot_len (pa_cons (pv 8) pa_nil)) pa_nil)))
        (pss_cons (ps_expr (pe_bm PySem.F.plainAttrs_list PySem.F.slot_list_extend PySem.F.type_list_extend mt_extend (pv 2) (pa_cons (pv 8) pa_nil)))
        (pss_one (ps_set (i := 3) sc_answers.nd rfl (Or.inl rfl) (pv 6)))))))))))
      (pss_one (ps_ret (pv 2)))))), ?_⟩
    intro x dx nx nd ne
    refine ⟨x, dx, rfl, upd_same, fun H1 D1 b1 => ⟨rfl, ?_⟩⟩
    have s1 : Same H H1 := Same.made nx nd b1
    refine ⟨Nat.zero_le _, fun g ng => ?_⟩
    have s2 : Same H1 _ := same_upd (o := .lst []) ng
    have big : (10000000 : Nat) < sizeLine := by decide
    -- between two calls
    refine ⟨fun m σ H' => ∃ (i : Nat) (s : Rh08.Desk) (gv : List Int) (v4 v5 v6 v7 v8 : Option V), m = ns.length - i ∧ σ = [some (.ref a), some (.ref x), some (.ref g), some (.int (i : Int)), v4, v5, v6, v7, v8] ∧ KeepL H H' ∧ (∀ o, DeskAt CT CD (upd H' g o) x s) ∧ H' g = some (.lst (gv.map V.int)) ∧ Between ns i s gv,
      ⟨_, 0, Rh08.init, [], none, none, none, none, none, rfl, rfl, keepL_of (s1.trans s2), fun o => by rw [upd_upd]; exact D1.same (same_upd ng), upd_same, between_start hask⟩, ?_⟩
    rintro m σ H' ⟨i, s, gv, v4, v5, v6, v7, v8, rfl, rfl, k3, D3, hg, B⟩
    have hS3 : SqL K H' a (nums ns) := k3.seq hS
    refine ⟨_, rfl, _, rfl, a, _, rfl, .inl hS3, _, _, rfl, rfl, _, rfl, ?_⟩
    rw [nums_len]
    by_cases c : i < ns.length
    · refine ifT (decide_eq_true (by omega)) ?_
      obtain ⟨p, plain, row, hp, e1, e2, e3, e4, e5, e6, B'⟩ := between_turn B c hb
      have hnx : i < nxt i p row := by
        unfold nxt
        split <;> omega
      refine ⟨fun σ' H2 => ∃ (v4 v5 v6 v7 v8 : Option V), σ' = [some (.ref a), some (.ref x), some (.ref g), some (.int ((nxt i p row : Nat) : Int)), v4, v5, v6, v7, v8] ∧ KeepL H H2 ∧ (∀ o, DeskAt CT CD (upd H2 g o) x (Rh08.step s (callN p plain row)).1) ∧
        H2 g = some (.lst ((gv ++ (((Rh08.step s (callN p plain row)).2.length : Int) :: (Rh08.step s (callN p plain row)).2)).map V.int)), fun σ' H2 ⟨w4, w5, w6, w7, w8, q1, q2, q3, q4⟩ => ⟨ns.length - nxt i p row, by omega, nxt i p row, _, _, w4, w5, w6, w7, w8, rfl, q1, q2, q3, q4, B'⟩, ?_⟩
      refine ⟨_, rfl, _, rfl, a, _, _, _, rfl, rfl, hS3, atI_nat (nums_at e1), ?_⟩
      refine ⟨_, rfl, _, _, rfl, rfl, _, rfl, pc, _, _, _, rfl, rfl, tPC _, atI_nat (countsV_at hp), _, _, rfl, rfl, ?_⟩
      have hle : i + 1 + cnt p ≤ ns.length := by
        have := e6
        unfold nxt at this
        split at this <;> omega
      have en : (if isRow p = true then i + 1 + cnt p + 1 + ns.getD (i + 1 + cnt p) 0 else i + 1 + cnt p) = nxt i p row := by
        unfold nxt
        by_cases r : isRow p = true
        · rw [if_pos r, if_pos r, List.getD_eq_getElem?_getD, (e4 r).1]
          rfl
        · rw [if_neg r, if_neg r]
      refine ⟨_, rfl, _, rfl, _, rfl, a, ns, p, i + 1 + cnt p, rfl, hS3, fun r => ?_, ?_⟩
      · have := e6
        unfold nxt at this
        rw [if_pos r] at this
        omega
      rw [en]
      refine ⟨_, rfl, _, rfl, _, _, rfl, rfl, ((i + 1 + cnt p + 1 : Nat) : Int), rfl, _, rfl, ((nxt i p row : Nat) : Int), rfl, a, _, rfl, hS3, fun rw7 n7 => ?_⟩
      rw [cut_mid _ _ _ e6]
      have erow : (ns.drop (i + 1 + cnt p + 1)).take (nxt i p row - (i + 1 + cnt p + 1)) = row := by
        by_cases r : isRow p = true
        · have : nxt i p row - (i + 1 + cnt p + 1) = row.length := by
            unfold nxt
            rw [if_pos r]
            omega
          rw [this]
          exact (e4 r).2.1.symm
        · have : nxt i p row - (i + 1 + cnt p + 1) = 0 := by
            unfold nxt
            rw [if_neg r]
            omega
          rw [this, e5 (Bool.not_eq_true _ |>.mp r)]
          rfl
      rw [erow]
      have hrl : row.length ≤ 30 := by
        by_cases r : isRow p = true
        · exact (e4 r).2.2
        · rw [e5 (Bool.not_eq_true _ |>.mp r)]
          exact Nat.zero_le _
      have s7 : Same H' _ := same_upd (o := .lst (nums row)) n7
      have ng0 : H g = none := s1.free ng
      have hg7 : upd H' rw7 (.lst (nums row)) g = some (.lst (gv.map V.int)) := s7 _ _ hg
      have gr7 : g ≠ rw7 := ne_of_none hg n7
      have agh : ∀ b o, H b = some o → b ≠ g := fun b o h z => by
        rw [z, ng0] at h
        cases h
      refine ⟨g, _, hg7, trivial, fun od => ?_⟩
      have kL : KeepL H (upd (upd H' rw7 (.lst (nums row))) g (.frz od (.lst (gv.map V.int)))) := fun b o h hs => by
        rw [upd_ne (agh b o h)]
        exact s7 _ _ (k3 b o h hs)
      refine ⟨_, rfl, _, rfl, _, rfl, _, rfl, _, _, rfl, rfl, ((i + 1 : Nat) : Int), rfl, _, rfl, ((i + 1 + cnt p : Nat) : Int), rfl, a, _, rfl, kL.seq hS, fun pl8 n8 => ?_⟩
      rw [cut_mid _ _ _ hle]
      have eplain : (ns.drop (i + 1)).take (i + 1 + cnt p - (i + 1)) = plain := by
        rw [e2]
        congr 1
        omega
      rw [eplain]
      have s8 : Same (upd (upd H' rw7 (.lst (nums row))) g (.frz od (.lst (gv.map V.int)))) _ := same_upd (o := .lst (nums plain)) n8
      have D8 : DeskAt CT CD (upd (upd H' rw7 (.lst (nums row))) g (.frz od (.lst (gv.map V.int)))) x s := by
        refine (D3 (.rng 0 0)).plain fun b o h hs => ?_
        have hbg : b ≠ g := fun z => by
          rw [z, upd_same] at h
          cases h
          exact hs
        rw [upd_ne hbg] at h ⊢
        exact s7 _ _ h
      refine ⟨_, rfl, x, pl8, rw7, s, p, plain, row, rfl, D8.same s8, B.ok, hp, upd_same, s8 _ _ (by rw [upd_ne gr7.symm, upd_same]), e3, hrl, fun H9 r9 k9 D9 n9 h9 => ?_⟩
      have hg9 : H9 g = some (.frz od (.lst (gv.map V.int))) := k9 _ _ (s8 _ _ upd_same) trivial
      refine ⟨hg9, ?_⟩
      have lB := between_len B' hask
      rw [List.length_append, List.length_cons] at lB
      have hgr : r9 ≠ g := fun z => by
        rw [z, s8 _ _ upd_same] at n9
        cases n9
      have D9' : ∀ o, DeskAt CT CD (upd H9 g o) x (Rh08.step s (callN p plain row)).1 := fun o => D9.plain fun b o' h hs => by
        have hbg : b ≠ g := fun z => by
          rw [z, hg9] at h
          cases h
          exact hs
        rw [upd_ne hbg]
        exact h
      refine ⟨_, rfl, .inl ⟨rfl, _, SqL.of upd_same⟩, _, rfl, r9, _, rfl, .inl (SqL.of (by rw [upd_ne hgr]; exact h9)), g, _, _, rfl, rfl, upd_same, (by rw [List.length_map]; omega), ?_⟩
      rw [upd_upd]
      refine ⟨_, rfl, .inl ⟨rfl, _, SqL.of upd_same⟩, _, rfl, g, r9, _, _, rfl, rfl, upd_same, (by rw [upd_ne hgr]; exact h9), ?_, ?_⟩
      · rw [List.length_append, List.length_map, List.length_map, List.length_singleton]
        omega
      · rw [upd_upd]
        refine ⟨_, rfl, _, _, _, _, _, rfl, fun b o h hs => ?_, fun o => by rw [upd_upd]; exact D9' o, ?_⟩
        · rw [upd_ne (agh b o h)]
          exact k9 _ _ (s8 _ _ (kL b o h hs)) hs
        · rw [upd_same, List.map_append, List.map_cons, List.length_map, List.append_assoc]
          rfl
    · refine ifF (by rw [decide_eq_true_eq]; omega) ?_
      have ei : i = ns.length := by
        have := B.le
        omega
      subst ei
      refine ⟨_, rfl, kk H' g ?_⟩
      rw [between_end B]
      exact hg
end
end Mk
set_option Elab.async false
set_option maxRecDepth 100000
set_option maxHeartbeats 5000000
/-! lowest terms; what is asked; the first of the ranked. -/
namespace Mk
open PySem PySem.Spec PyProof.Rows L2
abbrev s_greatest_divisor : Stmt := top 8
abbrev s_lowest : Stmt := top 9
abbrev s_is_first : Stmt := top 23
abbrev s_is_asked : Stmt := top 24
abbrev s_not_asked_in : Stmt := top 25
def spGcd : Sp := fun vs H Q _ => ∃ x y : Int, vs = [.int x, .int y] ∧ 0 ≤ x ∧ 0 ≤ y ∧ Q (.int (Int.gcd x y : Nat)) H
def spLowest : Sp := fun vs H Q _ => ∃ (p : Addr) (x : Fr) (k : Nat), vs = [.ref p] ∧ FrA H p x ∧ Gd k x ∧ k ≤ 1000 ∧ ∀ (H' : Hp) (r : Addr), Same H H' → H r = none → H' r = some (.lst ((lowest x).map V.int)) → Q (.ref r) H'
section
variable {P : Program} {w : World} {K : PySem.W.Frag} {mg : Str → Option Value} {base : Heap} {CT CD : Addr}
theorem sc_gcd : FnScope ["x", "y", "rest"] ["x", "y"] (defScope s_greatest_divisor) := ⟨rfl, rfl, rfl, by decide +kernel, rfl, by decide +kernel, by decide +kernel⟩
theorem ok_greatest_divisor {f : Addr} {fd : FuncData} (F : Fun K "greatest_divisor" "greatest_divisor" s_greatest_divisor f fd) : FnOk P w K mg base CX0 1 f fd ["x", "y"] spGcd := by
  refine F.ok sc_gcd (fun vs H Q E h => ?_) (fun cdv A outer s H vs Q E hr h => ?_)
  · obtain ⟨x, y, rfl, _⟩ := h
    rfl
  · obtain ⟨x, y, rfl, hx, hy, kk⟩ := h
    refine ⟨_, pss_cons (ps_while PassesOwn.never (pt_cmpR op_gt (pv 1) pe_int (nomark _))
        (pss_cons (ps_set (i := 2) sc_gcd.nd rfl (Or.inl rfl) (pe_op op_mod (pv 0) (pv 1)))
        (pss_cons (ps_set (i := 0) sc_gcd.nd rfl (Or.inl rfl) (pv 1))
        (pss_one (ps_set (i := 1) sc_gcd.nd rfl (Or.inl rfl) (pv 2))))))
      (pss_one (ps_ret (pv 0))), ?_⟩
    refine ⟨fun m σ H' => ∃ (a b : Int) (v : Option V), m = b.toNat ∧ σ = [some (.int a), some (.int b), v] ∧ H' = H ∧ 0 ≤ a ∧ 0 ≤ b ∧ Int.gcd a b = Int.gcd x y, ⟨_, x, y, none, rfl, rfl, rfl, hx, hy, rfl⟩, ?_⟩
    rintro m σ H' ⟨a, b, v, rfl, rfl, rfl, ha, hb, hg⟩
    refine ⟨_, rfl, _, _, rfl, rfl, _, rfl, ?_⟩
    by_cases c : b > 0
    · refine ifT (decide_eq_true c) ?_
      have m0 := Int.emod_nonneg a (show b ≠ 0 by omega)
      have m1 := Int.emod_lt_of_pos a c
      refine ⟨fun σ' H2 => σ' = [some (.int b), some (.int (a % b)), some (.int (a % b))] ∧ H2 = H', fun σ' H2 ⟨e1, e2⟩ => ⟨(a % b).toNat, by omega, b, a % b, _, rfl, e1, e2, hb, m0, (gcd_turn ha c).trans hg⟩, ?_⟩
      exact ⟨_, rfl, _, rfl, _, _, rfl, rfl, c, _, rfl, _, rfl, rfl, rfl⟩
    · refine ifF (by rw [decide_eq_true_eq]; exact c) ?_
      have b0 : b = 0 := by omega
      subst b0
      refine ⟨_, rfl, ?_⟩
      rw [← hg, gcd_end ha] at kk
      exact kk
theorem sc_lowest : FnScope ["x", "divisor"] ["x"] (defScope s_lowest) := ⟨rfl, rfl, rfl, by decide +kernel, rfl, by decide +kernel, by decide +kernel⟩
theorem ok_lowest {f : Addr} {fd : FuncData} (F : Fun K "lowest" "lowest" s_lowest f fd) (G : Has P w K mg base 1 "greatest_divisor" ["x", "y"] spGcd) : FnOk P w K mg base CX0 2 f fd ["x"] spLowest := by
  refine F.ok sc_lowest (fun vs H Q E h => ?_) (fun cdv A outer s H vs Q E hr h => ?_)
  · obtain ⟨p, x, k, rfl, _⟩ := h
    rfl
  · obtain ⟨p, x, k, rfl, hx, gx, hk, kk⟩ := h
    refine ⟨_, pss_cons (ps_set (i := 1) sc_lowest.nd rfl (Or.inl rfl) (pe_cl G hr (pa_cons (pe_ix ix_tup (pv 0) pe_int (fun _ _ => rfl)) (pa_cons (pe_ix ix_tup (pv 0) pe_int (fun _ _ => rfl)) pa_nil))))
      (pss_one (ps_ret (pe_lst (pa_cons (pe_op op_fdivW (pe_ix ix_tup (pv 0) pe_int (fun _ _ => rfl)) (pv 1)) (pa_cons (pe_op op_fdivW (pe_ix ix_tup (pv 0) pe_int (fun _ _ => rfl)) (pv 1)) pa_nil))))), ?_⟩
    obtain ⟨g0, g1⟩ := low_div gx
    have cd : ∀ i : Int, CDivW i (Int.gcd x.1 x.2 : Nat) := fun i => wide_div g0 g1 gx.pos (by omega)
    refine ⟨_, rfl, p, _, _, _, rfl, rfl, SqT.of hx, at0, _, rfl, p, _, _, _, rfl, rfl, SqT.of hx, at1, x.1, x.2, rfl, gx.n0, Int.le_of_lt gx.d0, ?_⟩
    refine ⟨_, rfl, p, _, _, _, rfl, rfl, SqT.of hx, at0, _, rfl, _, _, rfl, rfl, cd _, ?_⟩
    refine ⟨_, rfl, p, _, _, _, rfl, rfl, SqT.of hx, at1, _, rfl, _, _, rfl, rfl, cd _, ?_⟩
    refine ⟨by show 2 ≤ sizeLine; decide, fun r hn => ?_⟩
    exact kk _ r (same_upd hn) hn upd_same
end
def spIsFirst (CT CD : Addr) : Sp := fun vs H Q _ => ∃ (a : Addr) (s : Rh08.Desk) (k : Nat), vs = [.ref a, .int (k : Int)] ∧ DeskAt CT CD H a s ∧ Ok s ∧ ∀ H', Same H H' → Q (.bl (isFirst s.tune s.texts k)) H'
def spIsAsked (CT CD : Addr) : Sp := fun vs H Q _ => ∃ (a : Addr) (s : Rh08.Desk) (w : Nat), vs = [.ref a, .int (w : Int)] ∧ DeskAt CT CD H a s ∧ Ok s ∧ ∀ H', Same H H' → Q (.bl (asks s.tune w)) H'
def spNotAsked (CT CD : Addr) : Sp := fun vs H Q _ => ∃ (a b : Addr) (s : Rh08.Desk) (l : List Nat), vs = [.ref a, .ref b] ∧ DeskAt CT CD H a s ∧ Ok s ∧ H b = some (.lst (nums l)) ∧ l.length ≤ 12 ∧ ∀ H', Same H H' → Q (.int (unasked s.tune l : Nat)) H'
/-- a store at a place that was free -/
theorem same_put {H H1 : Hp} {y : Addr} {o : HO} (s : Same H H1) (n : H y = none) : Same H (upd H1 y o) := fun b u e => by
  rw [upd_ne (ne_of_none e n)]
  exact s _ _ e
section
variable {P : Program} {w : World} {K : PySem.W.Frag} {mg : Str → Option Value} {base : Heap} {CT CD : Addr}
theorem sc_isfirst : FnScope ["desk", "key", "better_first"] ["desk", "key"] (defScope s_is_first) := ⟨rfl, rfl, rfl, by decide +kernel, rfl, by decide +kernel, by decide +kernel⟩
theorem ok_is_first {f : Addr} {fd : FuncData} (F : Fun K "is_first" "is_first" s_is_first f fd) (T : Txt K mg CT CD) (GR : Has P w K mg base 6 "ranked" ["desk"] (spRanked CT CD)) : FnOk P w K mg base CX0 7 f fd ["desk", "key"] (spIsFirst CT CD) := by
  refine F.ok sc_isfirst (fun vs H Q E h => ?_) (fun cdv A outer s H vs Q E hr h => ?_)
  · obtain ⟨a, s, k, rfl, _⟩ := h
    rfl
  · obtain ⟨a, s0, k, rfl, D0, O, kk⟩ := h
    refine ⟨_, pss_cons (ps_set (i := 2) sc_isfirst.nd rfl (Or.inl rfl) (pe_cl GR hr (pa_cons (pv 0) pa_nil)))
      (pss_one (ps_ret (pe_and (pe_cmpR op_gt (pe_callB call_len_seq (by rfl) T.len PySem.boot_len (pa_cons (pv 2) pa_nil)) pe_int (nomark _))
        (pe_one (pe_cmpR op_eq (pe_ix ix_tup (pe_ix ix_list (pv 2) pe_int (fun _ _ => rfl)) pe_int (fun _ _ => rfl)) (pv 1) (nomark _)))))), ?_⟩
    refine ⟨_, rfl, a, s0, rfl, D0, O, fun H1 l1 e1 n1 R1 => ?_⟩
    obtain ⟨bs, R, er⟩ := id R1
    refine ⟨_, rfl, l1, _, rfl, .inl (SqL.of R.ls), _, _, rfl, rfl, _, rfl, ?_⟩
    cases bs with
    | nil =>
      refine ifF (by simp) ?_
      have := kk H1 e1
      rw [isFirst_nil er.symm] at this
      exact this
    | cons b bs =>
      refine ifT (by simp) ?_
      have hb := R.pr b (.head _)
      refine ⟨_, rfl, l1, _, _, _, rfl, rfl, SqL.of R.ls, atI_nat (j := 0) rfl, b.1, _, _, _, rfl, rfl, SqT.of hb, at0, _, rfl, rfl, ?_⟩
      have := kk H1 e1
      rw [isFirst_cons er.symm] at this
      have e : decide (V.int (b.2.2.1 : Int) = V.int (k : Int)) = decide ((b.2.2.1 : Int) = (k : Int)) := by
        rw [Bool.eq_iff_iff, decide_eq_true_eq, decide_eq_true_eq]
        exact ⟨fun z => V.int.inj z, fun z => by rw [z]⟩
      rw [e]
      exact this
theorem sc_isasked : FnScope ["desk", "word", "asked_word", "weight"] ["desk", "word"] (defScope s_is_asked) := ⟨rfl, rfl, rfl, by decide +kernel, rfl, by decide +kernel, by decide +kernel⟩
theorem ok_is_asked {f : Addr} {fd : FuncData} (F : Fun K "is_asked" "is_asked" s_is_asked f fd) (T : Txt K mg CT CD) : FnOk P w K mg base CX0 1 f fd ["desk", "word"] (spIsAsked CT CD) := by
  refine F.ok sc_isasked (fun vs H Q E h => ?_) (fun cdv A outer s H vs Q E hr h => ?_)
  · obtain ⟨a, s, w, rfl, _⟩ := h
    rfl
  · obtain ⟨a, s0, w, rfl, D0, O, kk⟩ := h
    refine ⟨_, pss_one (ps_ret (pe_cmpR op_in_seq (pv 1) (pe_lc (own := [("asked_word", 2), ("weight", 3)]) (g := gTup K 2 (gCons (gName 2) (gCons (gName 3) gNil))) (te := tVar 2) (by rfl) sc_isasked.nd (pi_list (pe_fld (pv 0) rfl))
      (blkOk_by (own := [("asked_word", 2), ("weight", 3)]) (N := ["desk", "word", "asked_word", "weight"]) (sc := defScope s_is_asked) (by decide +kernel))
      (fun _ _ _ _ _ => by exact pg_tup rfl (pgs_cons (pg_name (i := 2) sc_isasked.nd rfl (Or.inl rfl)) (pgs_cons (pg_name (i := 3) sc_isasked.nd rfl (Or.inl rfl)) pgs_nil))) (fun _ _ _ _ _ => pts_nil)
      (fun _ _ _ _ _ => by exact pv 2)) rfl)), ?_⟩
    obtain ⟨dx, d, q, es, as, DI⟩ := id D0
    have hask : as.length = s0.tune.ask.length := by rw [← DI.qa, List.length_map]
    have hq4 := O.u.q
    refine ⟨_, rfl, _, rfl, a, CD, dx, _, _, rfl, DI.ob, T.cD, T.nAsked, dF_asked _ _ _, q, rfl, ⟨_, SqL.of DI.ql⟩, fun D hD => ?_⟩
    have nq : q ≠ D := ne_of_none DI.ql hD
    refine lc_it (walk_list (K := K) (a := q) (xs := as.map fun e => V.ref e.1)) (fun i H' => H' = upd H D (.lst (nums ((as.take i).map fun e => e.2.1)))) rfl (fun i H' _ e => by rw [e]; exact SqL.of (by rw [upd_ne nq]; exact DI.ql)) ?_ ?_
    · rintro i x H1 H2 hi rfl ⟨rfl, hx⟩
      obtain ⟨e, he, rfl⟩ : ∃ e, as[i]? = some e ∧ x = V.ref e.1 := by
        rw [List.getElem?_map] at hx
        cases z : as[i]? with
        | none => rw [z] at hx; cases hx
        | some e => rw [z] at hx; exact ⟨e, rfl, (Option.some.inj hx).symm⟩
      have hm : e ∈ as := List.mem_of_getElem? he
      have sm : Same H (upd H D (.lst (nums ((as.take i).map fun e => e.2.1)))) := same_upd hD
      refine ⟨e.1, _, rfl, SqT.of (sm _ _ (DI.qt e hm)), rfl, _, _, rfl, _, _, rfl, rfl, rfl, ?_⟩
      refine ⟨_, rfl, _, upd_same, ?_, ?_⟩
      · rw [nums_len, List.length_map, List.length_take]
        exact small1000 (by omega)
      · rw [upd_upd, take_more he, List.map_append]
        unfold nums
        rw [List.map_append]
        rfl
    · rintro H1 rfl
      refine ⟨D, _, rfl, .inl (SqL.of upd_same), rfl, nums_flat _, ?_⟩
      rw [if_neg Bool.false_ne_true, nums_in, List.length_map, List.take_length]
      have e1 : (as.map fun e => e.2.1) = s0.tune.ask.map (·.1) := by rw [← DI.qa, List.map_map]; rfl
      rw [e1, asks_words]
      exact kk _ (same_upd hD)
theorem sc_notasked : FnScope ["desk", "body", "word"] ["desk", "body"] (defScope s_not_asked_in) := ⟨rfl, rfl, rfl, by decide +kernel, rfl, by decide +kernel, by decide +kernel⟩
theorem ok_not_asked_in {f : Addr} {fd : FuncData} (F : Fun K "not_asked_in" "not_asked_in" s_not_asked_in f fd) (T : Txt K mg CT CD) (G : Has P w K mg base 1 "is_asked" ["desk", "word"] (spIsAsked CT CD)) : FnOk P w K mg base CX0 2 f fd ["desk", "body"] (spNotAsked CT CD) := by
  refine F.ok sc_notasked (fun vs H Q E h => ?_) (fun cdv A outer s H vs Q E hr h => ?_)
  · obtain ⟨a, b, s, l, rfl, _⟩ := h
    rfl
  · obtain ⟨a, b, s0, l, rfl, D0, O, hb, hl, kk⟩ := h
    refine ⟨_, pss_one (ps_ret (pe_callB call_len_seq (by rfl) T.len PySem.boot_len (pa_cons (pe_lc (own := [("word", 2)]) (g := gName 2) (tt := tNot (tB (tCall (spIsAsked CT CD) [] E0 (tCons (tVar 0) (tCons (tVar 2) tNil))))) (te := tVar 2) (by rfl) sc_notasked.nd (pi_list (pv 1))
      (blkOk_by (own := [("word", 2)]) (N := ["desk", "body", "word"]) (sc := defScope s_not_asked_in) (by decide +kernel)) (fun _ _ _ _ _ => by exact pg_name (i := 2) sc_notasked.nd rfl (Or.inl rfl))
      (fun _ _ _ _ _ => by exact pts_one (pt_not (pt_val (pe_cl G hr (pa_cons (pv 0) (pa_cons (pv 2) pa_nil))))))
      (fun _ _ _ _ _ => by exact pv 2)) pa_nil))), ?_⟩
    refine ⟨_, rfl, b, rfl, ⟨_, SqL.of hb⟩, fun D hD => ?_⟩
    refine lc_it (walk_list (K := K) (a := b) (xs := nums l)) (fun i H' => Same H H' ∧ H' D = some (.lst (nums ((l.take i).filter fun x => !asks s0.tune x)))) ⟨same_upd hD, upd_same⟩ (fun i H' _ ⟨e, _⟩ => SqL.of (e _ _ hb)) ?_ ?_
    · rintro i x H1 H2 hi ⟨s1, h1⟩ ⟨rfl, hx⟩
      obtain ⟨n, hn, rfl⟩ : ∃ n : Nat, l[i]? = some n ∧ x = V.int (n : Int) := by
        unfold nums at hx
        rw [List.getElem?_map] at hx
        cases z : l[i]? with
        | none => rw [z] at hx; cases hx
        | some n => rw [z] at hx; exact ⟨n, rfl, (Option.some.inj hx).symm⟩
      have tk := take_more hn
      refine ⟨rfl, _, rfl, _, rfl, a, s0, n, rfl, D0.same s1, O, fun H3 s3 => ⟨_, rfl, ?_⟩⟩
      by_cases c : asks s0.tune n = true
      · refine ifF (by simp [c]) ⟨s1.trans s3, ?_⟩
        rw [s3 _ _ h1, tk, List.filter_append]
        simp [c]
      · refine ifT (by simp [c]) ?_
        refine ⟨_, rfl, _, s3 _ _ h1, ?_, same_put (s1.trans s3) hD, ?_⟩
        · rw [nums_len]
          have : ((l.take i).filter fun x => !asks s0.tune x).length ≤ l.length := Nat.le_trans (List.length_filter_le _ _) (by rw [List.length_take]; omega)
          exact small1000 (by omega)
        · rw [upd_same, tk, List.filter_append]
          unfold nums
          rw [List.map_append]
          simp [c]
    · rintro H1 ⟨s1, h1⟩
      refine ⟨D, _, rfl, .inl (SqL.of h1), ?_⟩
      rw [nums_len, nums_len, List.take_length]
      exact kk _ s1
end
end Mk
set_option Elab.async false
set_option maxRecDepth 100000
set_option maxHeartbeats 5000000
/-! A text with some words changed; a desk that has it; whether it is the first then. -/
namespace Mk
open PySem PySem.Spec PyProof.Rows L2
abbrev s_body_changed : Stmt := top 26
abbrev s_desk_with : Stmt := top 27
abbrev s_is_first_if_changed : Stmt := top 28
def spChanged (CT CD : Addr) : Sp := fun vs H Q _ => ∃ (a b : Addr) (s : Rh08.Desk) (l : List Nat) (w n : Nat), vs = [.ref a, .ref b, .int (w : Int), .int (n : Int)] ∧ DeskAt CT CD H a s ∧ Ok s ∧ H b = some (.lst (nums l)) ∧ l.length ≤ 12 ∧
  ∀ (H' : Hp) (r : Addr), Same H H' → H r = none → H' r = some (.lst (nums (Rh08.changed s.tune w n l))) → Q (.ref r) H'
def spDeskWith (CT CD : Addr) : Sp := fun vs H Q _ => ∃ (a ta : Addr) (s : Rh08.Desk) (t t' : Rh08.Text), vs = [.ref a, .int (t.key : Int), .ref ta] ∧ DeskAt CT CD H a s ∧ Ok s ∧ TextAt CT H ta t ∧ t' ∈ s.texts ∧ t'.key = t.key ∧
  ∀ (H' : Hp) (r : Addr), Same H H' → H r = none → DeskAt CT CD H' r { s with texts := Rh08.swapped s.texts t } → Q (.ref r) H'
def spIfChanged (CT CD : Addr) : Sp := fun vs H Q _ => ∃ (a : Addr) (s : Rh08.Desk) (k w n : Nat) (t : Rh08.Text), vs = [.ref a, .int (k : Int), .int (w : Int), .int (n : Int)] ∧ DeskAt CT CD H a s ∧ Ok s ∧ Rh08.get s k = some t ∧ asks s.tune w = true ∧
  ∀ H', Same H H' → Q (.bl (firstWith s t w n)) H'
theorem dF_sett (d d' q : Addr) (u : Rh08.Tune) : putF "texts" (.ref d') (dF d q u) = dF d' q u := put_here
theorem nums_snoc (l : List Nat) (n : Nat) : nums (l ++ [n]) = nums l ++ [.int (n : Int)] := by
  unfold nums
  rw [List.map_append]
  rfl
theorem drop_one {l : List Nat} {i n : Nat} (h : l[i]? = some n) : l.drop i = n :: l.drop (i + 1) := by
  obtain ⟨hi, e⟩ := List.getElem?_eq_some_iff.mp h
  rw [List.drop_eq_getElem_cons hi, e]
/-- the dict with the text of that key put, where there is one -/
theorem putE_swapped {es : List (Addr × Rh08.Text)} {l : List Rh08.Text} {x : Addr} {t : Rh08.Text} (pm : (es.map (·.2)).Perm l) (h : ∃ t' ∈ l, t'.key = t.key) : ((putE es x t).map (·.2)).Perm (Rh08.swapped l t) := by
  have e : (es.any fun e => decide (e.2.key = t.key)) = true := by
    obtain ⟨t', h1, h2⟩ := h
    obtain ⟨e, he, rfl⟩ := List.mem_map.mp (pm.mem_iff.mpr h1)
    exact List.any_eq_true.mpr ⟨e, he, decide_eq_true h2⟩
  unfold putE
  rw [if_pos e, List.map_map]
  have e2 : (es.map ((fun x : Addr × Rh08.Text => x.2) ∘ fun e => if e.2.key = t.key then (x, t) else e)) = (es.map (·.2)).map fun y => if y.key = t.key then t else y := by
    rw [List.map_map]
    refine List.map_congr_left fun y _ => ?_
    show (if y.2.key = t.key then (x, t) else y).2 = if y.2.key = t.key then t else y.2
    split <;> rfl
  rw [e2]
  exact pm.map _
section
variable {P : Program} {w : World} {K : PySem.W.Frag} {mg : Str → Option Value} {base : Heap} {CT CD : Addr}
theorem sc_changed : FnScope ["desk", "body", "word", "how_many", "changed", "left", "old"] ["desk", "body", "word", "how_many"] (defScope s_body_changed) := ⟨rfl, rfl, rfl, by decide +kernel, rfl, by decide +kernel, by decide +kernel⟩
theorem ok_body_changed {f : Addr} {fd : FuncData} (F : Fun K "body_changed" "body_changed" s_body_changed f fd) (G : Has P w K mg base 1 "is_asked" ["desk", "word"] (spIsAsked CT CD)) : FnOk P w K mg base CX0 2 f fd ["desk", "body", "word", "how_many"] (spChanged CT CD) := by
  refine F.ok sc_changed (fun vs H Q E h => ?_) (fun cdv A outer s H vs Q E hr h => ?_)
  · obtain ⟨a, b, s, l, w, n, rfl, _⟩ := h
    rfl
  · obtain ⟨a, b, s0, l, w, n, rfl, D0, O, hb, hl, kk⟩ := h
    refine ⟨_, pss_cons (ps_set (i := 4) sc_changed.nd rfl (Or.inl rfl) (pe_lst pa_nil))
      (pss_cons (ps_set (i := 5) sc_changed.nd rfl (Or.inl rfl) (pv 3))
      (pss_cons (ps_for PassesOwn.never rfl (pi_list (pv 1)) (pg_name (i := 6) sc_changed.nd rfl (Or.inl rfl))
        (pss_one (ps_if (pw_and (pt_cmpR op_gt (pv 5) pe_int (nomark _)) (pw_and1 (pt_not (pt_val (pe_cl G hr (pa_cons (pv 0) (pa_cons (pv 6) pa_nil))))))).pt
          (pss_cons (ps_expr (pe_bm PySem.F.plainAttrs_list PySem.F.slot_list_append PySem.F.type_list_append mt_append (pv 4) (pa_cons (pv 2) pa_nil)))
            (pss_one (ps_set (i := 5) sc_changed.nd rfl (Or.inl rfl) (pe_op op_sub (pv 5) pe_int))))
          (pss_one (ps_expr (pe_bm PySem.F.plainAttrs_list PySem.F.slot_list_append PySem.F.type_list_append mt_append (pv 4) (pa_cons (pv 6) pa_nil)))))))
      (pss_one (ps_ret (pv 4))))), ?_⟩
    refine ⟨Nat.zero_le _, fun p np => ?_⟩
    have e0 : Same H _ := same_upd (o := .lst []) np
    refine ⟨_, rfl, _, rfl, b, rfl, ⟨_, SqL.of (e0 _ _ hb)⟩, for_list (K := K) (a := b) (xs := nums l)
      (fun i σ H' => ∃ (left : Nat) (out : List Nat) (v6 : Option V), σ = [some (.ref a), some (.ref b), some (.int (w : Int)), some (.int (n : Int)), some (.ref p), some (.int (left : Int)), v6] ∧ Same H H' ∧ H' p = some (.lst (nums out)) ∧ out.length = i ∧
        Rh08.changed s0.tune w n l = out ++ Rh08.changed s0.tune w left (l.drop i)) ?_ (fun i σ H' _ ⟨_, _, _, _, e, _⟩ => SqL.of (e _ _ hb)) ?_ ?_⟩
    · exact ⟨n, [], none, rfl, e0, upd_same, rfl, rfl⟩
    · rintro i y σ H' hi ⟨left, out, v6, rfl, s1, hp, ho, hc⟩
      obtain ⟨x, hx, rfl⟩ : ∃ x : Nat, l[i]? = some x ∧ y = V.int (x : Int) := by
        unfold nums at hi
        rw [List.getElem?_map] at hi
        cases z : l[i]? with
        | none => rw [z] at hi; cases hi
        | some x => rw [z] at hi; exact ⟨x, rfl, (Option.some.inj hi).symm⟩
      have hil : i < l.length := (List.getElem?_eq_some_iff.mp hx).1
      rw [drop_one hx] at hc
      have sz : (nums out).length < sizeLine := by rw [nums_len]; exact small1000 (by omega)
      refine ⟨_, rfl, _, _, rfl, rfl, _, rfl, ?_⟩
      by_cases c : 0 < left
      · refine ifT (decide_eq_true (by omega)) ?_
        obtain ⟨j, rfl⟩ : ∃ j, left = j + 1 := ⟨left - 1, by omega⟩
        refine ⟨_, rfl, _, rfl, a, s0, x, rfl, D0.same s1, O, fun H2 s2 => ⟨_, rfl, ?_⟩⟩
        have hp2 := s2 _ _ hp
        by_cases g : asks s0.tune x = true
        · refine ifF (by simp [g]) ?_
          refine ⟨_, rfl, .inl ⟨rfl, _, SqL.of hp2⟩, _, rfl, p, _, _, rfl, rfl, hp2, sz, ?_⟩
          refine ⟨j + 1, out ++ [x], _, rfl, same_put (s1.trans s2) np, ?_, ?_, ?_⟩
          · rw [upd_same, nums_snoc]
          · rw [List.length_append, ho]; rfl
          · rw [hc, changed_asked _ _ g, List.append_assoc]; rfl
        · refine ifT (by simp [g]) ?_
          refine ⟨_, rfl, .inl ⟨rfl, _, SqL.of hp2⟩, _, rfl, p, _, _, rfl, rfl, hp2, sz, ?_⟩
          have ez : ((j + 1 : Nat) : Int) - 1 = (j : Int) := by omega
          refine ⟨_, rfl, _, _, rfl, rfl, j, out ++ [w], some (V.int (x : Int)), ?_, same_put (s1.trans s2) np, ?_, ?_, ?_⟩
          · show [some (V.ref a), some (V.ref b), some (V.int (w : Int)), some (V.int (n : Int)), some (V.ref p), some (V.int (((j + 1 : Nat) : Int) - 1)), some (V.int (x : Int))] = _
            rw [ez]
          · rw [upd_same, nums_snoc]
          · rw [List.length_append, ho]; rfl
          · rw [hc, changed_other _ _ g, List.append_assoc]; rfl
      · refine ifF (by rw [decide_eq_true_eq]; omega) ?_
        have l0 : left = 0 := by omega
        subst l0
        refine ⟨_, rfl, .inl ⟨rfl, _, SqL.of hp⟩, _, rfl, p, _, _, rfl, rfl, hp, sz, ?_⟩
        refine ⟨0, out ++ [x], _, rfl, same_put s1 np, ?_, ?_, ?_⟩
        · rw [upd_same, nums_snoc]
        · rw [List.length_append, ho]; rfl
        · rw [hc, changed_none, changed_none, List.append_assoc]; rfl
    · rintro σ H' ⟨left, out, v6, rfl, s1, hp, ho, hc⟩
      rw [nums_len, List.drop_length, changed_nil, List.append_nil] at hc
      rw [← hc] at hp
      exact ⟨_, rfl, kk H' p s1 np hp⟩
theorem sc_with : FnScope ["desk", "key", "text", "other"] ["desk", "key", "text"] (defScope s_desk_with) := ⟨rfl, rfl, rfl, by decide +kernel, rfl, by decide +kernel, by decide +kernel⟩
theorem ok_desk_with {f : Addr} {fd : FuncData} (F : Fun K "desk_with" "desk_with" s_desk_with f fd) (T : Txt K mg CT CD) (GD : HasInit P w K mg base 1 CD ["self"] (spDeskInit CT CD)) : FnOk P w K mg base CX0 3 f fd ["desk", "key", "text"] (spDeskWith CT CD) := by
  refine F.ok sc_with (fun vs H Q E h => ?_) (fun cdv A outer s H vs Q E hr h => ?_)
  · obtain ⟨a, ta, s, t, t', rfl, _⟩ := h
    rfl
  · obtain ⟨a, ta, s0, t, t', rfl, D0, O, X0, mt, ek, kk⟩ := h
    have hu := hu_of hr
    refine ⟨_, pss_cons (ps_set (i := 3) sc_with.nd rfl (Or.inl rfl) (pe_mk0 GD hr T.gD))
      (pss_cons (ps_fld (pv 3) (pe_callTy call_dictD (by rfl) T.dict (by decide +kernel) (pa_cons (pe_fld (pv 0) rfl) pa_nil)) rfl)
      (pss_cons (ps_dput hu (pe_fld (pv 3) rfl) (pv 1) (pv 2) rfl)
      (pss_cons (ps_fld (pv 3) (pe_callTy call_list_of (by rfl) T.list (by decide +kernel) (pa_cons (pe_fld (pv 0) rfl) pa_nil)) rfl)
      (pss_cons (ps_fld (pv 3) (pe_fld (pv 0) rfl) rfl) (pss_cons (ps_fld (pv 3) (pe_fld (pv 0) rfl) rfl) (pss_cons (ps_fld (pv 3) (pe_fld (pv 0) rfl) rfl) (pss_cons (ps_fld (pv 3) (pe_fld (pv 0) rfl) rfl)
      (pss_one (ps_ret (pv 3)))))))))), ?_⟩
    intro x dx nx nd ne
    refine ⟨x, dx, rfl, upd_same, fun H1 D1 b1 => ⟨rfl, ?_⟩⟩
    have s1 : Same H H1 := Same.made nx nd b1
    obtain ⟨dy, d1, q1, es1, as1, DX⟩ := D1
    obtain ⟨dz, d, q, es, as, DI⟩ := id D0
    have hN := O.t.len
    have hL := DI.len
    refine ⟨_, rfl, a, CD, dz, _, _, rfl, s1 _ _ DI.ob, T.cD, T.nTexts, dF_texts _ _ _, d, kvT es, rfl, .inl (s1 _ _ DI.dc), fun d2 n2 => ?_⟩
    have xd : x ≠ d2 := ne_of_none DX.ob n2
    have nd2 : H d2 = none := s1.free n2
    refine ⟨_, rfl, x, CD, dy, _, rfl, (by rw [upd_ne xd]; exact DX.ob), T.cD, T.nTexts, (by show 6 < 1000; decide), ?_⟩
    rw [dF_sett]
    have s3 : Same H (upd (upd H1 d2 (.dK (kvT es))) x (.ins CD dy (dF d2 q1 Rh08.init.tune))) := same_put (same_put s1 nd2) nx
    have h3 : upd (upd H1 d2 (.dK (kvT es))) x (.ins CD dy (dF d2 q1 Rh08.init.tune)) d2 = some (.dK (kvT es)) := by rw [upd_ne xd.symm, upd_same]
    have x3 : upd (upd H1 d2 (.dK (kvT es))) x (.ins CD dy (dF d2 q1 Rh08.init.tune)) x = some (.ins CD dy (dF d2 q1 Rh08.init.tune)) := upd_same
    revert s3 h3 x3
    generalize upd (upd H1 d2 (.dK (kvT es))) x (.ins CD dy (dF d2 q1 Rh08.init.tune)) = H3
    intro s3 h3 x3
    refine ⟨_, rfl, _, rfl, x, CD, dy, _, _, rfl, x3, T.cD, T.nTexts, dF_texts _ _ _, _, rfl, d2, _, rfl, DPut.k (k := (Sum.inl (t.key : Int) : Key)) h3 (by rw [kvT_len]; exact small1000 (by omega)), ?_⟩
    rw [kvT_putE]
    have s4 : Same H (upd H3 d2 (.dK (kvT (putE es ta t)))) := same_put s3 nd2
    have x4 : upd H3 d2 (.dK (kvT (putE es ta t))) x = some (.ins CD dy (dF d2 q1 Rh08.init.tune)) := by rw [upd_ne xd]; exact x3
    have h4 : upd H3 d2 (.dK (kvT (putE es ta t))) d2 = some (.dK (kvT (putE es ta t))) := upd_same
    revert s4 x4 h4
    generalize upd H3 d2 (.dK (kvT (putE es ta t))) = H4
    intro s4 x4 h4
    refine ⟨_, rfl, a, CD, dz, _, _, rfl, s4 _ _ DI.ob, T.cD, T.nAsked, dF_asked _ _ _, q, _, rfl, .inl (SqL.of (s4 _ _ DI.ql)), fun q5 n5 => ?_⟩
    have xq : x ≠ q5 := ne_of_none x4 n5
    have dq : d2 ≠ q5 := ne_of_none h4 n5
    have nq5 : H q5 = none := s4.free n5
    refine ⟨_, rfl, x, CD, dy, _, rfl, (by rw [upd_ne xq]; exact x4), T.cD, T.nAsked, (by show 6 < 1000; decide), ?_⟩
    rw [dF_setq (a := s0.tune.ask)]
    have s6 : ∀ o, Same H (upd (upd H4 q5 (.lst (as.map fun e => V.ref e.1))) x o) := fun o => same_put (same_put s4 nq5) nx
    refine ⟨_, rfl, a, CD, dz, _, _, rfl, s6 _ _ _ DI.ob, T.cD, T.nA, dF_a _ _ _, _, rfl, x, CD, dy, _, rfl, upd_same, T.cD, T.nA, (by show 6 < 1000; decide), ?_⟩
    rw [upd_upd, dF_seta]
    refine ⟨_, rfl, a, CD, dz, _, _, rfl, s6 _ _ _ DI.ob, T.cD, T.nB, dF_b _ _ _, _, rfl, x, CD, dy, _, rfl, upd_same, T.cD, T.nB, (by show 6 < 1000; decide), ?_⟩
    rw [upd_upd, dF_setb]
    refine ⟨_, rfl, a, CD, dz, _, _, rfl, s6 _ _ _ DI.ob, T.cD, T.nC, dF_c _ _ _, _, rfl, x, CD, dy, _, rfl, upd_same, T.cD, T.nC, (by show 6 < 1000; decide), ?_⟩
    rw [upd_upd, dF_setc]
    refine ⟨_, rfl, a, CD, dz, _, _, rfl, s6 _ _ _ DI.ob, T.cD, T.nD, dF_d _ _ _, _, rfl, x, CD, dy, _, rfl, upd_same, T.cD, T.nD, (by show 6 < 1000; decide), ?_⟩
    rw [upd_upd, dF_setd]
    refine ⟨_, rfl, kk _ x (s6 _) nx ⟨dy, d2, q5, putE es ta t, as, upd_same, ?_, fun e he => ?_, putE_swapped DI.pm ⟨t', mt, ek⟩, ?_, fun e he => s6 _ _ _ (DI.qt e he), DI.qa⟩⟩
    · rw [upd_ne xd.symm, upd_ne dq]
      exact h4
    · rcases putE_mem he with z | z
      · subst z
        exact X0.same (s6 _)
      · exact (DI.tx e z).same (s6 _)
    · rw [upd_ne xq.symm, upd_same]
theorem sc_ifch : FnScope ["desk", "key", "word", "how_many", "text", "changed"] ["desk", "key", "word", "how_many"] (defScope s_is_first_if_changed) := ⟨rfl, rfl, rfl, by decide +kernel, rfl, by decide +kernel, by decide +kernel⟩
theorem ok_is_first_if_changed {f : Addr} {fd : FuncData} (F : Fun K "is_first_if_changed" "is_first_if_changed" s_is_first_if_changed f fd) (T : Txt K mg CT CD) (GT : HasInit P w K mg base 1 CT ["self", "prior", "head", "body"] (spTextInit CT))
    (GB : Has P w K mg base 2 "body_changed" ["desk", "body", "word", "how_many"] (spChanged CT CD)) (GF : Has P w K mg base 7 "is_first" ["desk", "key"] (spIsFirst CT CD)) (GW : Has P w K mg base 3 "desk_with" ["desk", "key", "text"] (spDeskWith CT CD)) :
    FnOk P w K mg base CX0 8 f fd ["desk", "key", "word", "how_many"] (spIfChanged CT CD) := by
  refine F.ok sc_ifch (fun vs H Q E h => ?_) (fun cdv A outer s H vs Q E hr h => ?_)
  · obtain ⟨a, s, k, w, n, t, rfl, _⟩ := h
    rfl
  · obtain ⟨a, s0, k, w, n, t, rfl, D0, O, hg, ha, kk⟩ := h
    have hu := hu_of hr
    have hr2 : Room 2 _ := hr.mono (by decide)
    have hr3 : Room 3 _ := hr.mono (by decide)
    refine ⟨_, pss_cons (ps_set (i := 4) sc_ifch.nd rfl (Or.inl rfl) (pe_dget hu (pe_fld (pv 0) rfl) (pv 1) (fun _ _ => rfl)))
      (pss_cons (ps_set (i := 5) sc_ifch.nd rfl (Or.inl rfl) (pe_mk GT hr2 T.gT (pa_cons (pe_fld (pv 4) rfl) (pa_cons (pe_fld (pv 4) rfl) (pa_cons (pe_cl GB hr2 (pa_cons (pv 0) (pa_cons (pe_fld (pv 4) rfl) (pa_cons (pv 2) (pa_cons (pv 3) pa_nil))))) pa_nil)))))
      (pss_one (ps_ret (pe_cl GF hr (pa_cons (pe_cl GW hr3 (pa_cons (pv 0) (pa_cons (pv 1) (pa_cons (pv 5) pa_nil)))) (pa_cons (pv 1) pa_nil)))))), ?_⟩
    obtain ⟨dx, d, q, es, as, DI⟩ := id D0
    obtain ⟨e, he, rfl, ht, hv⟩ := DI.getSome O hg
    obtain ⟨_, hk⟩ := get_some hg
    obtain ⟨dt, ph, pb, h1, h2, h3⟩ := id (DI.tx e he)
    refine ⟨_, rfl, a, CD, dx, _, _, rfl, DI.ob, T.cD, T.nTexts, dF_texts _ _ _, _, rfl, d, .ref e.1, rfl, ?_, ?_⟩
    · have := DGet.k (H := H) (a := d) (k := (Sum.inl (k : Int) : Key)) DI.dc
      rw [hv] at this
      exact this
    refine ⟨_, rfl, e.1, CT, dt, _, _, rfl, h1, T.cT, T.nPrior, tF_prior _ _ _, _, rfl, e.1, CT, dt, _, _, rfl, h1, T.cT, T.nHead, tF_head _ _ _, _, rfl, _, rfl, e.1, CT, dt, _, _, rfl, h1, T.cT, T.nBody, tF_body _ _ _, _, rfl, _, rfl, ?_⟩
    refine ⟨a, pb, s0, e.2.body, w, n, rfl, D0, O, h3, (O.t.ok _ ht).b, fun H1 r1 e1 n1 f1 => ?_⟩
    intro x dy nx nd ne
    refine ⟨x, dy, ph, r1, e.2.prior, rfl, upd_same, fun H2 h4 b2 => ⟨rfl, ?_⟩⟩
    have e2 : Same H1 H2 := Same.made nx nd b2
    have e12 := e1.trans e2
    have X2 : TextAt CT H2 x { e.2 with body := Rh08.changed s0.tune w n e.2.body } := ⟨dy, ph, r1, h4, e12 _ _ h2, e2 _ _ f1⟩
    refine ⟨_, rfl, _, rfl, _, rfl, a, x, s0, { e.2 with body := Rh08.changed s0.tune w n e.2.body }, e.2, ?_, D0.same e12, O, X2, ht, rfl, fun H3 r3 e3 n3 D3 => ?_⟩
    · show _ = [V.ref a, V.int (e.2.key : Int), V.ref x]
      rw [hk]
      rfl
    refine ⟨_, rfl, r3, _, k, rfl, D3, with_ok O ht ha n, fun H4 e4 => ?_⟩
    have := kk H4 (e12.trans (e3.trans e4))
    unfold firstWith at this
    rw [hk] at this
    exact this
end
end Mk
set_option Elab.async false
set_option maxRecDepth 100000
set_option maxHeartbeats 5000000
/-! why, parts, versus. -/
namespace Mk
open PySem PySem.Spec PyProof.Rows L2
abbrev s_reasons : Stmt := top 62
abbrev s_why : Stmt := top 63
abbrev s_versus : Stmt := top 64
abbrev s_parts : Stmt := top 67
/-- why an asked word gives a text what it gives -/
def reasonsL (s : Rh08.Desk) (t : Rh08.Text) (w : Nat) : List Int :=
  [(Rh08.often w t.head : Int), (Rh08.often w t.body : Int), (having s.texts w : Int)] ++ (lowest (rareF s.texts w) ++ (lowest (densityF s.tune s.texts w t) ++ lowest (fullF s.tune (densityF s.tune s.texts w t))))
theorem reasons_len (s : Rh08.Desk) (t : Rh08.Text) (w : Nat) : (reasonsL s t w).length = 9 := rfl
def whyL (s : Rh08.Desk) (t : Rh08.Text) (a : List (Nat × Nat)) : List Int := a.flatMap fun x => reasonsL s t x.1
theorem why_len (s : Rh08.Desk) (t : Rh08.Text) : ∀ a : List (Nat × Nat), (whyL s t a).length = 9 * a.length
  | [] => rfl
  | x :: a => by
    unfold whyL
    rw [List.flatMap_cons, List.length_append, reasons_len]
    have := why_len s t a
    unfold whyL at this
    rw [this, List.length_cons]
    omega
theorem why_snoc (s : Rh08.Desk) (t : Rh08.Text) (a : List (Nat × Nat)) (x : Nat × Nat) : whyL s t (a ++ [x]) = whyL s t a ++ reasonsL s t x.1 := by
  unfold whyL
  rw [List.flatMap_append, List.flatMap_cons, List.flatMap_nil, List.append_nil]
def spReasons (CT CD : Addr) : Sp := fun vs H Q _ => ∃ (a ta : Addr) (s : Rh08.Desk) (w : Nat) (t : Rh08.Text), vs = [.ref a, .int (w : Int), .ref ta] ∧ DeskAt CT CD H a s ∧ Ok s ∧ TextAt CT H ta t ∧ t ∈ s.texts ∧
  ∀ (H' : Hp) (r : Addr), Same H H' → H r = none → H' r = some (.lst ((reasonsL s t w).map V.int)) → Q (.ref r) H'
def spTwo (CT CD : Addr) (c : Nat → Nat → Rh08.Call) : Sp := fun vs H Q _ => ∃ (a : Addr) (s : Rh08.Desk) (i j : Nat), vs = [.ref a, .int (i : Int), .int (j : Int)] ∧ DeskAt CT CD H a s ∧ Ok s ∧ Post CT CD a s (c i j) Q H
section
variable {P : Program} {w : World} {K : PySem.W.Frag} {mg : Str → Option Value} {base : Heap} {CT CD : Addr}
theorem sc_reasons : FnScope ["desk", "word", "text", "dense", "counts"] ["desk", "word", "text"] (defScope s_reasons) := ⟨rfl, rfl, rfl, by decide +kernel, rfl, by decide +kernel, by decide +kernel⟩
theorem ok_reasons {f : Addr} {fd : FuncData} (F : Fun K "reasons" "reasons" s_reasons f fd) (T : Txt K mg CT CD) (GD : Has P w K mg base 2 "density" ["desk", "word", "text"] (spDensity CT CD)) (GH : Has P w K mg base 2 "how_many_have" ["desk", "word"] (spHave CT CD))
    (GL : Has P w K mg base 2 "lowest" ["x"] spLowest) (GR : Has P w K mg base 3 "how_rare" ["desk", "word"] (spRare CT CD)) (GF : Has P w K mg base 1 "how_full" ["desk", "x"] (spFull CT CD)) : FnOk P w K mg base CX0 4 f fd ["desk", "word", "text"] (spReasons CT CD) := by
  refine F.ok sc_reasons (fun vs H Q E h => ?_) (fun cdv A outer s H vs Q E hr h => ?_)
  · obtain ⟨a, ta, s, w, t, rfl, _⟩ := h
    rfl
  · obtain ⟨a, ta, s0, w, t, rfl, D0, O, X0, mt, kk⟩ := h
    have hr1 : Room 1 _ := hr.mono (by decide)
    have hr2 : Room 2 _ := hr.mono (by decide)
    refine ⟨_, pss_cons (ps_set (i := 3) sc_reasons.nd rfl (Or.inl rfl) (pe_cl GD hr2 (pa_cons (pv 0) (pa_cons (pv 1) (pa_cons (pv 2) pa_nil)))))
      (pss_cons (ps_set (i := 4) sc_reasons.nd rfl (Or.inl rfl) (pe_lst (pa_cons (pe_bm PySem.F.plainAttrs_list PySem.F.slot_list_count PySem.F.type_list_count mt_lcount (pe_fld (pv 2) rfl) (pa_cons (pv 1) pa_nil))
        (pa_cons (pe_bm PySem.F.plainAttrs_list PySem.F.slot_list_count PySem.F.type_list_count mt_lcount (pe_fld (pv 2) rfl) (pa_cons (pv 1) pa_nil)) (pa_cons (pe_cl GH hr2 (pa_cons (pv 0) (pa_cons (pv 1) pa_nil))) pa_nil)))))
      (pss_one (ps_ret (pe_op op_cat (pe_op op_cat (pe_op op_cat (pv 4) (pe_cl GL hr2 (pa_cons (pe_cl GR hr (pa_cons (pv 0) (pa_cons (pv 1) pa_nil))) pa_nil))) (pe_cl GL hr2 (pa_cons (pv 3) pa_nil)))
        (pe_cl GL hr2 (pa_cons (pe_cl GF hr1 (pa_cons (pv 0) (pa_cons (pv 3) pa_nil))) pa_nil)))))), ?_⟩
    have gD := Gd_density O.u O.t mt w
    have gF := Gd_full O.u gD
    have gR := Gd_rare O.t w
    refine ⟨_, rfl, _, rfl, _, rfl, a, ta, s0, w, t, rfl, D0, O, X0, mt, fun H1 r1 e1 n1 f1 => ?_⟩
    obtain ⟨dt, ph, pb, h1, h2, h3⟩ := id (X0.same e1)
    have l2 : SqL K H1 ph ((t.head.map fun (n : Nat) => (n : Int)).map V.int) := by rw [← nums_eq]; exact SqL.of h2
    have l3 : SqL K H1 pb ((t.body.map fun (n : Nat) => (n : Int)).map V.int) := by rw [← nums_eq]; exact SqL.of h3
    refine ⟨_, rfl, ta, CT, dt, _, _, rfl, h1, T.cT, T.nHead, tF_head _ _ _, .inl ⟨rfl, _, l2⟩, _, rfl, ph, _, _, rfl, rfl, l2, ?_⟩
    rw [often_count]
    refine ⟨_, rfl, ta, CT, dt, _, _, rfl, h1, T.cT, T.nBody, tF_body _ _ _, .inl ⟨rfl, _, l3⟩, _, rfl, pb, _, _, rfl, rfl, l3, ?_⟩
    rw [often_count]
    refine ⟨_, rfl, _, rfl, a, s0, w, rfl, D0.same e1, O, fun H2 e2 => ⟨(by show 3 ≤ sizeLine; decide), fun p3 n3 => ?_⟩⟩
    have e3 : Same H2 _ := same_upd (o := .lst [.int (Rh08.often w t.head : Nat), .int (Rh08.often w t.body : Nat), .int (having s0.texts w : Nat)]) n3
    have e13 := e1.trans (e2.trans e3)
    refine ⟨_, rfl, _, rfl, _, rfl, a, s0, w, rfl, D0.same e13, O, fun H4 r4 e4 n4 f4 => ?_⟩
    refine ⟨r4, _, 5, rfl, f4, gR, by decide, fun H5 r5 e5 n5 f5 => ?_⟩
    have c5 : H5 p3 = some (.lst [.int (Rh08.often w t.head : Nat), .int (Rh08.often w t.body : Nat), .int (having s0.texts w : Nat)]) := e5 _ _ (e4 _ _ upd_same)
    refine ⟨p3, r5, _, _, rfl, rfl, c5, f5, (by show 3 + 2 ≤ sizeLine; decide), fun p6 n6 => ?_⟩
    have e6 : Same H5 _ := same_upd (o := .lst ([.int (Rh08.often w t.head : Nat), .int (Rh08.often w t.body : Nat), .int (having s0.texts w : Nat)] ++ (lowest (rareF s0.texts w)).map V.int)) n6
    have e26 := e2.trans (e3.trans (e4.trans (e5.trans e6)))
    refine ⟨_, rfl, r1, _, 41, rfl, f1.same e26, gD, by decide, fun H7 r7 e7 n7 f7 => ?_⟩
    refine ⟨p6, r7, _, _, rfl, rfl, e7 _ _ upd_same, f7, (by show 5 + 2 ≤ sizeLine; decide), fun p8 n8 => ?_⟩
    have e8 : Same H7 _ := same_upd (o := .lst ([.int (Rh08.often w t.head : Nat), .int (Rh08.often w t.body : Nat), .int (having s0.texts w : Nat)] ++ (lowest (rareF s0.texts w)).map V.int ++ (lowest (densityF s0.tune s0.texts w t)).map V.int)) n8
    have e28 := e26.trans (e7.trans e8)
    have e18 := e1.trans e28
    refine ⟨_, rfl, _, rfl, a, r1, s0, _, 41, rfl, D0.same e18, O, f1.same e28, gD, by decide, fun H9 r9 e9 n9 f9 => ?_⟩
    refine ⟨r9, _, 48, rfl, f9, gF, by decide, fun H10 r10 e10 n10 f10 => ?_⟩
    refine ⟨p8, r10, _, _, rfl, rfl, e10 _ _ (e9 _ _ upd_same), f10, (by show 7 + 2 ≤ sizeLine; decide), fun p11 n11 => ?_⟩
    have e110 := e18.trans (e9.trans e10)
    refine kk _ p11 (e110.trans (same_upd n11)) (e110.free n11) ?_
    rw [upd_same]
    rfl
theorem sc_why : FnScope ["desk", "key", "answer", "word", "weight"] ["desk", "key"] (defScope s_why) := ⟨rfl, rfl, rfl, by decide +kernel, rfl, by decide +kernel, by decide +kernel⟩
theorem ok_why {f : Addr} {fd : FuncData} (F : Fun K "why" "why" s_why f fd) (T : Txt K mg CT CD) (hN : ∃ t, mg "NO_SUCH_TEXT" = some (.int (-3) t)) (G : Has P w K mg base 4 "reasons" ["desk", "word", "text"] (spReasons CT CD)) :
    FnOk P w K mg base CX0 5 f fd ["desk", "key"] (spNum CT CD .why) := by
  refine F.ok sc_why (fun vs H Q E h => ?_) (fun cdv A outer s H vs Q E hr h => ?_)
  · obtain ⟨a, s, k, rfl, _⟩ := h
    rfl
  · obtain ⟨a, s0, k, rfl, D0, O, kk⟩ := h
    have hu := hu_of hr
    refine ⟨_, pss_cons (ps_if (pt_cmp (pc_dnotin hu (pv 1) (pe_fld (pv 0) rfl))) (pss_one (ps_ret (pe_lst (pa_cons (pe_const hN) pa_nil)))) pss_nil)
      (pss_cons (ps_set (i := 2) sc_why.nd rfl (Or.inl rfl) (pe_lst pa_nil))
      (pss_cons (ps_for PassesOwn.never rfl (pi_list (pe_fld (pv 0) rfl)) (pg_tup rfl (pgs_cons (pg_name (i := 3) sc_why.nd rfl (Or.inl rfl)) (pgs_cons (pg_name (i := 4) sc_why.nd rfl (Or.inl rfl)) pgs_nil)))
        (pss_one (ps_expr (pe_bm PySem.F.plainAttrs_list PySem.F.slot_list_extend PySem.F.type_list_extend mt_extend (pv 2) (pa_cons (pe_cl G hr (pa_cons (pv 0) (pa_cons (pv 3) (pa_cons (pe_dget hu (pe_fld (pv 0) rfl) (pv 1) (fun _ _ => rfl)) pa_nil)))) pa_nil)))))
      (pss_one (ps_ret (pv 2))))), ?_⟩
    obtain ⟨dx, d, q, es, as, DI⟩ := id D0
    refine ⟨_, rfl, _, rfl, a, CD, dx, _, _, rfl, DI.ob, T.cD, T.nTexts, dF_texts _ _ _, d, _, rfl, DGet.k (k := (Sum.inl (k : Int) : Key)) DI.dc, _, rfl, ?_⟩
    unfold Post at kk
    cases e : Rh08.get s0 k with
    | none =>
      rw [DI.getNone e]
      refine ifT rfl ?_
      rw [step_why_no e] at kk
      refine ⟨by show 1 ≤ sizeLine; decide, fun r nr => ?_⟩
      exact kk _ r (newList nr) (D0.same (same_upd nr)) nr upd_same
    | some t =>
      obtain ⟨x, hx, rfl, ht, hv⟩ := DI.getSome O e
      rw [hv]
      refine ifF (by simp) ?_
      rw [step_why O e] at kk
      have hask : as.length = s0.tune.ask.length := by rw [← DI.qa, List.length_map]
      have hq4 := O.u.q
      refine ⟨Nat.zero_le _, fun p np => ?_⟩
      have e0 : Same H _ := same_upd (o := .lst []) np
      refine ⟨_, rfl, a, CD, dx, _, _, rfl, e0 _ _ DI.ob, T.cD, T.nAsked, dF_asked _ _ _, q, rfl, ⟨_, SqL.of (e0 _ _ DI.ql)⟩, for_list (K := K) (a := q) (xs := as.map fun e => V.ref e.1)
        (fun i σ H' => ∃ v3 v4 : Option V, σ = [some (.ref a), some (.int (k : Int)), some (.ref p), v3, v4] ∧ Same H H' ∧ H' p = some (.lst ((whyL s0 x.2 ((as.take i).map (·.2))).map V.int))) ?_ (fun i σ H' _ ⟨_, _, _, e, _⟩ => SqL.of (e _ _ DI.ql)) ?_ ?_⟩
      · exact ⟨none, none, rfl, e0, upd_same⟩
      · rintro i y σ H' hi ⟨v3, v4, rfl, s1, hp⟩
        obtain ⟨b, hb, rfl⟩ : ∃ b, as[i]? = some b ∧ y = V.ref b.1 := by
          rw [List.getElem?_map] at hi
          cases z : as[i]? with
          | none => rw [z] at hi; cases hi
          | some b => rw [z] at hi; exact ⟨b, rfl, (Option.some.inj hi).symm⟩
        have hm : b ∈ as := List.mem_of_getElem? hb
        have hil : i < as.length := (List.getElem?_eq_some_iff.mp hb).1
        have DI1 := DI.same s1
        refine ⟨b.1, _, rfl, SqT.of (DI1.qt b hm), rfl, _, _, rfl, _, _, rfl, rfl, ?_⟩
        refine ⟨_, rfl, .inl ⟨rfl, _, SqL.of hp⟩, _, rfl, _, rfl, _, rfl, a, CD, dx, _, _, rfl, DI1.ob, T.cD, T.nTexts, dF_texts _ _ _, _, rfl, d, .ref x.1, rfl, ?_, ?_⟩
        · have := DGet.k (H := H') (a := d) (k := (Sum.inl (k : Int) : Key)) DI1.dc
          rw [hv] at this
          exact this
        refine ⟨a, x.1, s0, b.2.1, x.2, rfl, D0.same s1, O, DI1.tx x hx, ht, fun H2 r2 e2 n2 f2 => ?_⟩
        have hp2 := e2 _ _ hp
        refine ⟨p, r2, _, _, rfl, rfl, hp2, f2, ?_, ?_⟩
        · rw [List.length_map, List.length_map, why_len, reasons_len, List.length_map, List.length_take]
          have : (1000 : Nat) < sizeLine := by decide
          omega
        · refine ⟨_, _, rfl, same_put (s1.trans e2) np, ?_⟩
          rw [upd_same, take_more hb, List.map_append, List.map_cons, List.map_nil, why_snoc, List.map_append]
      · rintro σ H' ⟨v3, v4, rfl, s1, hp⟩
        refine ⟨_, rfl, kk H' p (keepL_of s1) (D0.same s1) np ?_⟩
        rw [List.length_map, List.take_length, DI.qa] at hp
        exact hp
theorem sc_parts : FnScope ["desk", "key", "answer", "word", "weight"] ["desk", "key"] (defScope s_parts) := ⟨rfl, rfl, rfl, by decide +kernel, rfl, by decide +kernel, by decide +kernel⟩
theorem ok_parts {f : Addr} {fd : FuncData} (F : Fun K "parts" "parts" s_parts f fd) (T : Txt K mg CT CD) (hN : ∃ t, mg "NO_SUCH_TEXT" = some (.int (-3) t)) (GS : Has P w K mg base 1 "shown" ["x"] spShown) (GG : Has P w K mg base 4 "what_it_gives" ["desk", "word", "weight", "text"] (spGives CT CD)) :
    FnOk P w K mg base CX0 5 f fd ["desk", "key"] (spNum CT CD .parts) := by
  refine F.ok sc_parts (fun vs H Q E h => ?_) (fun cdv A outer s H vs Q E hr h => ?_)
  · obtain ⟨a, s, k, rfl, _⟩ := h
    rfl
  · obtain ⟨a, s0, k, rfl, D0, O, kk⟩ := h
    have hu := hu_of hr
    have hr1 : Room 1 _ := hr.mono (by decide)
    refine ⟨_, pss_cons (ps_if (pt_cmp (pc_dnotin hu (pv 1) (pe_fld (pv 0) rfl))) (pss_one (ps_ret (pe_lst (pa_cons (pe_const hN) pa_nil)))) pss_nil)
      (pss_cons (ps_set (i := 2) sc_parts.nd rfl (Or.inl rfl) (pe_lst (pa_cons (pe_callB call_len_seq (by rfl) T.len PySem.boot_len (pa_cons (pe_fld (pv 0) rfl) pa_nil)) pa_nil)))
      (pss_cons (ps_for PassesOwn.never rfl (pi_list (pe_fld (pv 0) rfl)) (pg_tup rfl (pgs_cons (pg_name (i := 3) sc_parts.nd rfl (Or.inl rfl)) (pgs_cons (pg_name (i := 4) sc_parts.nd rfl (Or.inl rfl)) pgs_nil)))
        (pss_one (ps_expr (pe_bm PySem.F.plainAttrs_list PySem.F.slot_list_append PySem.F.type_list_append mt_append (pv 2) (pa_cons (pe_cl GS hr1 (pa_cons (pe_cl GG hr (pa_cons (pv 0) (pa_cons (pv 3) (pa_cons (pv 4) (pa_cons (pe_dget hu (pe_fld (pv 0) rfl) (pv 1) (fun _ _ => rfl)) pa_nil))))) pa_nil)) pa_nil)))))
      (pss_one (ps_ret (pv 2))))), ?_⟩
    obtain ⟨dx, d, q, es, as, DI⟩ := id D0
    refine ⟨_, rfl, _, rfl, a, CD, dx, _, _, rfl, DI.ob, T.cD, T.nTexts, dF_texts _ _ _, d, _, rfl, DGet.k (k := (Sum.inl (k : Int) : Key)) DI.dc, _, rfl, ?_⟩
    unfold Post at kk
    cases e : Rh08.get s0 k with
    | none =>
      rw [DI.getNone e]
      refine ifT rfl ?_
      rw [step_parts_no e] at kk
      refine ⟨by show 1 ≤ sizeLine; decide, fun r nr => ?_⟩
      exact kk _ r (newList nr) (D0.same (same_upd nr)) nr upd_same
    | some t =>
      obtain ⟨x, hx, rfl, ht, hv⟩ := DI.getSome O e
      rw [hv]
      refine ifF (by simp) ?_
      rw [step_parts O e] at kk
      have hask : as.length = s0.tune.ask.length := by rw [← DI.qa, List.length_map]
      have hq4 := O.u.q
      refine ⟨_, rfl, a, CD, dx, _, _, rfl, DI.ob, T.cD, T.nAsked, dF_asked _ _ _, q, _, rfl, .inl (SqL.of DI.ql), (by show 1 ≤ sizeLine; decide), fun p np => ?_⟩
      have e0 : Same H _ := same_upd (o := .lst [.int ((as.map fun e => V.ref e.1).length : Int)]) np
      refine ⟨_, rfl, a, CD, dx, _, _, rfl, e0 _ _ DI.ob, T.cD, T.nAsked, dF_asked _ _ _, q, rfl, ⟨_, SqL.of (e0 _ _ DI.ql)⟩, for_list (K := K) (a := q) (xs := as.map fun e => V.ref e.1)
        (fun i σ H' => ∃ v3 v4 : Option V, σ = [some (.ref a), some (.int (k : Int)), some (.ref p), v3, v4] ∧ Same H H' ∧ H' p = some (.lst (((s0.tune.ask.length : Int) :: ((as.take i).map (·.2)).map fun y => showF (givesF s0.tune s0.texts y x.2)).map V.int))) ?_ (fun i σ H' _ ⟨_, _, _, e, _⟩ => SqL.of (e _ _ DI.ql)) ?_ ?_⟩
      · refine ⟨none, none, rfl, e0, ?_⟩
        rw [upd_same, List.length_map, hask]
        rfl
      · rintro i y σ H' hi ⟨v3, v4, rfl, s1, hp⟩
        obtain ⟨b, hb, rfl⟩ : ∃ b, as[i]? = some b ∧ y = V.ref b.1 := by
          rw [List.getElem?_map] at hi
          cases z : as[i]? with
          | none => rw [z] at hi; cases hi
          | some b => rw [z] at hi; exact ⟨b, rfl, (Option.some.inj hi).symm⟩
        have hm : b ∈ as := List.mem_of_getElem? hb
        have hil : i < as.length := (List.getElem?_eq_some_iff.mp hb).1
        have hxa : b.2 ∈ s0.tune.ask := by rw [← DI.qa]; exact List.mem_map_of_mem hm
        have DI1 := DI.same s1
        refine ⟨b.1, _, rfl, SqT.of (DI1.qt b hm), rfl, _, _, rfl, _, _, rfl, rfl, ?_⟩
        refine ⟨_, rfl, .inl ⟨rfl, _, SqL.of hp⟩, _, rfl, _, rfl, _, rfl, _, rfl, a, CD, dx, _, _, rfl, DI1.ob, T.cD, T.nTexts, dF_texts _ _ _, _, rfl, d, .ref x.1, rfl, ?_, ?_⟩
        · have := DGet.k (H := H') (a := d) (k := (Sum.inl (k : Int) : Key)) DI1.dc
          rw [hv] at this
          exact this
        refine ⟨a, x.1, s0, b.2, x.2, rfl, D0.same s1, O, DI1.tx x hx, ht, hxa, fun H2 r2 e2 n2 f2 => ?_⟩
        refine ⟨r2, _, 57, rfl, f2, Gd_gives O.u O.t ht hxa, by decide, ?_⟩
        have hp2 := e2 _ _ hp
        refine ⟨p, _, _, rfl, rfl, hp2, ?_, ?_⟩
        · rw [List.length_map, List.length_cons, List.length_map, List.length_map, List.length_take]
          exact small1000 (by omega)
        · refine ⟨_, _, rfl, same_put (s1.trans e2) np, ?_⟩
          rw [upd_same, take_more hb, List.map_append, List.map_append, List.map_cons, List.map_cons, List.map_append]
          rfl
      · rintro σ H' ⟨v3, v4, rfl, s1, hp⟩
        refine ⟨_, rfl, kk H' p (keepL_of s1) (D0.same s1) np ?_⟩
        rw [List.length_map, List.take_length, DI.qa] at hp
        exact hp
theorem sc_versus : FnScope ["desk", "one", "other", "mark_of_one", "mark_of_other"] ["desk", "one", "other"] (defScope s_versus) := ⟨rfl, rfl, rfl, by decide +kernel, rfl, by decide +kernel, by decide +kernel⟩
theorem ok_versus {f : Addr} {fd : FuncData} (F : Fun K "versus" "versus" s_versus f fd) (T : Txt K mg CT CD) (hN : ∃ t, mg "NO_SUCH_TEXT" = some (.int (-3) t)) (GM : Has P w K mg base 5 "mark_of" ["desk", "text"] (spMark CT CD)) (GG : Has P w K mg base 1 "is_greater" ["x", "y"] spGreater) :
    FnOk P w K mg base CX0 6 f fd ["desk", "one", "other"] (spTwo CT CD .versus) := by
  refine F.ok sc_versus (fun vs H Q E h => ?_) (fun cdv A outer s H vs Q E hr h => ?_)
  · obtain ⟨a, s, i, j, rfl, _⟩ := h
    rfl
  · obtain ⟨a, s0, i, j, rfl, D0, O, kk⟩ := h
    have hu := hu_of hr
    have hr1 : Room 1 _ := hr.mono (by decide)
    refine ⟨_, pss_cons (ps_if (pw_or (pt_cmp (pc_dnotin hu (pv 1) (pe_fld (pv 0) rfl))) (pw_or1 (pt_cmp (pc_dnotin hu (pv 2) (pe_fld (pv 0) rfl))))).pt (pss_one (ps_ret (pe_lst (pa_cons (pe_const hN) pa_nil)))) pss_nil)
      (pss_cons (ps_set (i := 3) sc_versus.nd rfl (Or.inl rfl) (pe_cl GM hr (pa_cons (pv 0) (pa_cons (pe_dget hu (pe_fld (pv 0) rfl) (pv 1) (fun _ _ => rfl)) pa_nil))))
      (pss_cons (ps_set (i := 4) sc_versus.nd rfl (Or.inl rfl) (pe_cl GM hr (pa_cons (pv 0) (pa_cons (pe_dget hu (pe_fld (pv 0) rfl) (pv 2) (fun _ _ => rfl)) pa_nil))))
      (pss_cons (ps_if (pt_val (pe_cl GG hr1 (pa_cons (pv 3) (pa_cons (pv 4) pa_nil)))) (pss_one (ps_ret (pe_lst (pa_cons pe_int pa_nil)))) pss_nil)
      (pss_cons (ps_if (pt_val (pe_cl GG hr1 (pa_cons (pv 4) (pa_cons (pv 3) pa_nil)))) (pss_one (ps_ret (pe_lst (pa_cons pe_int pa_nil)))) pss_nil)
      (pss_one (ps_ret (pe_lst (pa_cons pe_int pa_nil)))))))), ?_⟩
    obtain ⟨dx, d, q, es, as, DI⟩ := id D0
    unfold Post at kk
    have no : Rh08.get s0 i = none ∨ Rh08.get s0 j = none → ∀ r, H r = none → Q (.ref r) (upd H r (.lst [.int (-3)])) := fun h r nr => by
      rw [step_versus_no h] at kk
      exact kk _ r (newList nr) (D0.same (same_upd nr)) nr upd_same
    refine ⟨_, rfl, _, rfl, a, CD, dx, _, _, rfl, DI.ob, T.cD, T.nTexts, dF_texts _ _ _, d, _, rfl, DGet.k (k := (Sum.inl (i : Int) : Key)) DI.dc, _, rfl, ?_⟩
    cases e : Rh08.get s0 i with
    | none =>
      rw [DI.getNone e]
      exact ifT rfl ⟨by show 1 ≤ sizeLine; decide, no (.inl e)⟩
    | some t =>
      obtain ⟨x, hx, rfl, ht, hv⟩ := DI.getSome O e
      rw [hv]
      refine ifF (by simp) ?_
      refine ⟨_, rfl, _, rfl, a, CD, dx, _, _, rfl, DI.ob, T.cD, T.nTexts, dF_texts _ _ _, d, _, rfl, DGet.k (k := (Sum.inl (j : Int) : Key)) DI.dc, _, rfl, ?_⟩
      cases e' : Rh08.get s0 j with
      | none =>
        rw [DI.getNone e']
        exact ifT rfl ⟨by show 1 ≤ sizeLine; decide, no (.inr e')⟩
      | some t2 =>
        obtain ⟨y, hy, rfl, ht2, hv2⟩ := DI.getSome O e'
        rw [hv2]
        refine ifF (by simp) ?_
        rw [step_versus O e e'] at kk
        have g1 := Gd_mark O.u O.t ht
        have g2 := Gd_mark O.u O.t ht2
        refine ⟨_, rfl, _, rfl, a, CD, dx, _, _, rfl, DI.ob, T.cD, T.nTexts, dF_texts _ _ _, _, rfl, d, .ref x.1, rfl, ?_, ?_⟩
        · have := DGet.k (H := H) (a := d) (k := (Sum.inl (i : Int) : Key)) DI.dc
          rw [hv] at this
          exact this
        refine ⟨a, x.1, s0, x.2, rfl, D0, O, DI.tx x hx, ht, fun H1 m1 e1 n1 f1 => ?_⟩
        have DI1 := DI.same e1
        refine ⟨_, rfl, _, rfl, a, CD, dx, _, _, rfl, DI1.ob, T.cD, T.nTexts, dF_texts _ _ _, _, rfl, d, .ref y.1, rfl, ?_, ?_⟩
        · have := DGet.k (H := H1) (a := d) (k := (Sum.inl (j : Int) : Key)) DI1.dc
          rw [hv2] at this
          exact this
        refine ⟨a, y.1, s0, y.2, rfl, D0.same e1, O, DI1.tx y hy, ht2, fun H2 m2 e2 n2 f2 => ?_⟩
        have e12 := e1.trans e2
        have f1' := f1.same e2
        have fin : ∀ z : Int, (if greater (markF s0.tune s0.texts x.2) (markF s0.tune s0.texts y.2) = true then 1 else if greater (markF s0.tune s0.texts y.2) (markF s0.tune s0.texts x.2) = true then 2 else 0) = z → ∀ r, H2 r = none → Q (.ref r) (upd H2 r (.lst [.int z])) := fun z hz r nr => by
          rw [hz] at kk
          exact kk _ r (keepL_of (e12.trans (same_upd nr))) (D0.same (e12.trans (same_upd nr))) (e12.free nr) upd_same
        refine ⟨_, rfl, _, rfl, m1, m2, _, _, 241, 241, rfl, f1', f2, g1, g2, by decide, by decide, _, rfl, ?_⟩
        by_cases c1 : greater (markF s0.tune s0.texts x.2) (markF s0.tune s0.texts y.2) = true
        · exact ifT c1 ⟨by show 1 ≤ sizeLine; decide, fin 1 (if_pos c1)⟩
        · refine ifF c1 ?_
          refine ⟨_, rfl, _, rfl, m2, m1, _, _, 241, 241, rfl, f2, f1', g2, g1, by decide, by decide, _, rfl, ?_⟩
          by_cases c2 : greater (markF s0.tune s0.texts y.2) (markF s0.tune s0.texts x.2) = true
          · exact ifT c2 ⟨by show 1 ≤ sizeLine; decide, fin 2 (by rw [if_neg c1, if_pos c2])⟩
          · exact ifF c2 ⟨by show 1 ≤ sizeLine; decide, fin 0 (by rw [if_neg c1, if_neg c2])⟩
end
end Mk
set_option Elab.async false
set_option maxRecDepth 100000
set_option maxHeartbeats 5000000
/-! place, lift. -/
namespace Mk
open PySem PySem.Spec PyProof.Rows L2
abbrev s_place : Stmt := top 65
abbrev s_lift : Stmt := top 66
theorem any_contains (r : List KF) (k : Nat) : (r.map (·.1)).contains k = r.any fun x => x.1 == k := by
  induction r with
  | nil => rfl
  | cons x r ih =>
    rw [List.map_cons, List.contains_cons, List.any_cons, ih]
    congr 1
    rw [Bool.eq_iff_iff, beq_iff_eq, beq_iff_eq]
    exact eq_comm
theorem eqV_int {a b : Nat} : eqV (.int (a : Int)) (.int (b : Int)) = decide (a = b) := by
  show ((a : Int) == (b : Int)) = _
  rw [Bool.eq_iff_iff, beq_iff_eq, decide_eq_true_eq]
  omega
section
variable {P : Program} {w : World} {K : PySem.W.Frag} {mg : Str → Option Value} {base : Heap} {CT CD : Addr}
theorem sc_placec : FnScope ["desk", "key", "keys", "ranked_key", "exact_mark"] ["desk", "key"] (defScope s_place) := ⟨rfl, rfl, rfl, by decide +kernel, rfl, by decide +kernel, by decide +kernel⟩
theorem ok_place {f : Addr} {fd : FuncData} (F : Fun K "place" "place" s_place f fd) (hN : ∃ t, mg "NO_SUCH_TEXT" = some (.int (-3) t)) (GR : Has P w K mg base 6 "ranked" ["desk"] (spRanked CT CD)) :
    FnOk P w K mg base CX0 7 f fd ["desk", "key"] (spNum CT CD .place) := by
  refine F.ok sc_placec (fun vs H Q E h => ?_) (fun cdv A outer s H vs Q E hr h => ?_)
  · obtain ⟨a, s, k, rfl, _⟩ := h
    rfl
  · obtain ⟨a, s0, k, rfl, D0, O, kk⟩ := h
    refine ⟨_, pss_cons (ps_setLc (i := 2) (own := [("ranked_key", 3), ("exact_mark", 4)]) (g := gTup K 2 (gCons (gName 3) (gCons (gName 4) gNil))) (te := tVar 3) (by rfl) sc_placec.nd rfl rfl (sw_true rfl rfl rfl (by decide +kernel)) (pi_list (pe_cl GR hr (pa_cons (pv 0) pa_nil)))
      (blkOk_by (own := [("ranked_key", 3), ("exact_mark", 4)]) (N := ["desk", "key", "keys", "ranked_key", "exact_mark"]) (sc := defScope s_place) (by decide +kernel))
      (fun _ _ _ _ _ => by exact pg_tup rfl (pgs_cons (pg_name (i := 3) sc_placec.nd rfl (Or.inl rfl)) (pgs_cons (pg_name (i := 4) sc_placec.nd rfl (Or.inl rfl)) pgs_nil))) (fun _ _ _ _ _ => pts_nil)
      (fun _ _ _ _ _ => by exact pv 3))
      (pss_cons (ps_if (pt_cmpR op_notIn_seq (pv 1) (pv 2) rfl) (pss_one (ps_ret (pe_lst (pa_cons (pe_const hN) pa_nil)))) pss_nil)
      (pss_one (ps_ret (pe_lst (pa_cons (pe_op op_add (pe_bm PySem.F.plainAttrs_list PySem.F.slot_list_index PySem.F.type_list_index mt_index (pv 2) (pa_cons (pv 1) pa_nil)) pe_int) pa_nil))))), ?_⟩
    unfold Post at kk
    rw [step_place O] at kk
    refine ⟨_, rfl, a, s0, rfl, D0, O, fun H1 l1 e1 n1 R1 => ?_⟩
    obtain ⟨bs, R, er⟩ := id R1
    have hlen := rank_len s0.tune s0.texts
    have hN := O.t.len
    have hbl : bs.length = (rankF s0.tune s0.texts).length := by rw [← er, List.length_map]
    refine ⟨l1, rfl, ⟨_, SqL.of R.ls⟩, fun D hD => ?_⟩
    have lD : l1 ≠ D := ne_of_none R.ls hD
    refine lc_it (walk_list (K := K) (a := l1) (xs := bs.map fun b => V.ref b.1)) (fun i H' => H' = upd H1 D (.lst (nums ((bs.take i).map fun b => b.2.2.1)))) rfl (fun i H' _ e => by rw [e]; exact SqL.of (by rw [upd_ne lD]; exact R.ls)) ?_ ?_
    · rintro i x H2 H3 hi rfl ⟨rfl, hx⟩
      obtain ⟨b, hb, rfl⟩ : ∃ b, bs[i]? = some b ∧ x = V.ref b.1 := by
        rw [List.getElem?_map] at hx
        cases z : bs[i]? with
        | none => rw [z] at hx; cases hx
        | some b => rw [z] at hx; exact ⟨b, rfl, (Option.some.inj hx).symm⟩
      have hm : b ∈ bs := List.mem_of_getElem? hb
      have sm : Same H1 (upd H1 D (.lst (nums ((bs.take i).map fun b => b.2.2.1)))) := same_upd hD
      refine ⟨b.1, _, rfl, SqT.of (sm _ _ (R.pr b hm)), rfl, _, _, rfl, _, _, rfl, rfl, rfl, ?_⟩
      refine ⟨_, rfl, _, upd_same, ?_, ?_⟩
      · rw [nums_len, List.length_map, List.length_take]
        exact small1000 (by omega)
      · rw [upd_upd, take_more hb, List.map_append, List.map_cons, List.map_nil, nums_snoc]
    · rintro H2 rfl
      rw [List.length_map, List.take_length]
      have ek : (bs.map fun b => b.2.2.1) = (rankF s0.tune s0.texts).map (·.1) := by rw [← er, List.map_map]; rfl
      rw [ek]
      have e2 : Same H1 (upd H1 D (.lst (nums ((rankF s0.tune s0.texts).map (·.1))))) := same_upd hD
      have e12 := e1.trans e2
      have hl : upd H1 D (.lst (nums ((rankF s0.tune s0.texts).map (·.1)))) D = some (.lst (nums ((rankF s0.tune s0.texts).map (·.1)))) := upd_same
      refine ⟨_, rfl, _, rfl, D, _, rfl, .inl (SqL.of hl), rfl, nums_flat _, _, rfl, ?_⟩
      rw [if_pos rfl, nums_in, any_contains]
      by_cases c : ((rankF s0.tune s0.texts).any fun x => x.1 == k) = true
      · rw [if_neg (by rw [c]; simp)] at kk
        refine ifF (by rw [c]; simp) ?_
        obtain ⟨y, h1, h2, h3⟩ := place_at c
        refine ⟨_, rfl, .inl ⟨rfl, _, SqL.of hl⟩, _, rfl, D, _, _, ((rankF s0.tune s0.texts).takeWhile fun x => x.1 != k).length, .int (k : Int), rfl, rfl, SqL.of hl, rfl, nums_flat _, ?_, ?_, ?_, _, _, rfl, rfl, (by show 1 ≤ sizeLine; decide), fun r nr => ?_⟩
        · refine nums_at ?_
          rw [List.getElem?_map, h1]
          exact congrArg some h2
        · rw [eqV_int]
          exact decide_eq_true rfl
        · intro m z hm hz
          unfold nums at hz
          rw [List.getElem?_map, List.getElem?_map] at hz
          cases q : (rankF s0.tune s0.texts)[m]? with
          | none => rw [q] at hz; cases hz
          | some v =>
            rw [q] at hz
            have ez := (Option.some.inj hz).symm
            subst ez
            rw [eqV_int]
            exact decide_eq_false (h3 m hm v q)
        · exact kk _ r (keepL_of (e12.trans (same_upd nr))) (D0.same (e12.trans (same_upd nr))) (e12.free nr) upd_same
      · have c' : ((rankF s0.tune s0.texts).any fun x => x.1 == k) = false := Bool.not_eq_true _ |>.mp c
        rw [if_pos c'] at kk
        refine ifT (by rw [c']; rfl) ?_
        refine ⟨by show 1 ≤ sizeLine; decide, fun r nr => ?_⟩
        exact kk _ r (keepL_of (e12.trans (same_upd nr))) (D0.same (e12.trans (same_upd nr))) (e12.free nr) upd_same
theorem sc_lift : FnScope ["desk", "key", "word", "most", "how_many"] ["desk", "key", "word"] (defScope s_lift) := ⟨rfl, rfl, rfl, by decide +kernel, rfl, by decide +kernel, by decide +kernel⟩
theorem ok_lift {f : Addr} {fd : FuncData} (F : Fun K "lift" "lift" s_lift f fd) (T : Txt K mg CT CD) (hN : ∃ t, mg "NO_SUCH_TEXT" = some (.int (-3) t)) (hA : ∃ t, mg "NOT_ASKED" = some (.int (-2) t)) (hF : ∃ t, mg "NEVER_FIRST" = some (.int (-6) t))
    (GA : Has P w K mg base 1 "is_asked" ["desk", "word"] (spIsAsked CT CD)) (GN : Has P w K mg base 2 "not_asked_in" ["desk", "body"] (spNotAsked CT CD)) (GC : Has P w K mg base 8 "is_first_if_changed" ["desk", "key", "word", "how_many"] (spIfChanged CT CD)) :
    FnOk P w K mg base CX0 9 f fd ["desk", "key", "word"] (spTwo CT CD .lift) := by
  refine F.ok sc_lift (fun vs H Q E h => ?_) (fun cdv A outer s H vs Q E hr h => ?_)
  · obtain ⟨a, s, i, j, rfl, _⟩ := h
    rfl
  · obtain ⟨a, s0, k, w, rfl, D0, O, kk⟩ := h
    have hu := hu_of hr
    have hr1 : Room 1 _ := hr.mono (by decide)
    have hr2 : Room 2 _ := hr.mono (by decide)
    refine ⟨_, pss_cons (ps_if (pt_cmp (pc_dnotin hu (pv 1) (pe_fld (pv 0) rfl))) (pss_one (ps_ret (pe_lst (pa_cons (pe_const hN) pa_nil)))) pss_nil)
      (pss_cons (ps_if (pt_not (pt_val (pe_cl GA hr1 (pa_cons (pv 0) (pa_cons (pv 2) pa_nil))))) (pss_one (ps_ret (pe_lst (pa_cons (pe_const hA) pa_nil)))) pss_nil)
      (pss_cons (ps_set (i := 3) sc_lift.nd rfl (Or.inl rfl) (pe_cl GN hr2 (pa_cons (pv 0) (pa_cons (pe_fld (pe_dget hu (pe_fld (pv 0) rfl) (pv 1) (fun _ _ => rfl)) rfl) pa_nil))))
      (pss_cons (ps_for PassesOwn.never rfl (pi_range1 rfl T.range (pa_cons (pe_op op_add (pv 3) pe_int) pa_nil)) (pg_name (i := 4) sc_lift.nd rfl (Or.inl rfl))
        (pss_one (ps_if (pt_val (pe_cl GC hr (pa_cons (pv 0) (pa_cons (pv 1) (pa_cons (pv 2) (pa_cons (pv 4) pa_nil)))))) (pss_one (ps_ret (pe_lst (pa_cons (pv 4) pa_nil)))) pss_nil)))
      (pss_one (ps_ret (pe_lst (pa_cons (pe_const hF) pa_nil))))))), ?_⟩
    obtain ⟨dx, d, q, es, as, DI⟩ := id D0
    refine ⟨_, rfl, _, rfl, a, CD, dx, _, _, rfl, DI.ob, T.cD, T.nTexts, dF_texts _ _ _, d, _, rfl, DGet.k (k := (Sum.inl (k : Int) : Key)) DI.dc, _, rfl, ?_⟩
    unfold Post at kk
    have fin : ∀ z : Int, Rh08.step s0 (.lift k w) = (s0, [z]) → ∀ H1, Same H H1 → ∀ r, H1 r = none → Q (.ref r) (upd H1 r (.lst [.int z])) := fun z st H1 e1 r nr => by
      rw [st] at kk
      exact kk _ r (keepL_of (e1.trans (same_upd nr))) (D0.same (e1.trans (same_upd nr))) (e1.free nr) upd_same
    cases e : Rh08.get s0 k with
    | none =>
      rw [DI.getNone e]
      refine ifT rfl ?_
      exact ⟨by show 1 ≤ sizeLine; decide, fin (-3) (step_lift_no e) H (Same.refl H)⟩
    | some t =>
      obtain ⟨x, hx, rfl, ht, hv⟩ := DI.getSome O e
      rw [hv]
      refine ifF (by simp) ?_
      refine ⟨_, rfl, _, rfl, a, s0, w, rfl, D0, O, fun H1 e1 => ⟨_, rfl, ?_⟩⟩
      by_cases c : asks s0.tune w = true
      · refine ifF (by simp [c]) ?_
        have DI1 := DI.same e1
        obtain ⟨dt, ph, pb, h1, h2, h3⟩ := id (DI1.tx x hx)
        refine ⟨_, rfl, _, rfl, a, CD, dx, _, _, rfl, DI1.ob, T.cD, T.nTexts, dF_texts _ _ _, _, rfl, d, .ref x.1, rfl, ?_, ?_⟩
        · have := DGet.k (H := H1) (a := d) (k := (Sum.inl (k : Int) : Key)) DI1.dc
          rw [hv] at this
          exact this
        have hb12 := (O.t.ok _ ht).b
        have hun : unasked s0.tune x.2.body ≤ x.2.body.length := List.length_filter_le _ _
        refine ⟨x.1, CT, dt, _, _, rfl, h1, T.cT, T.nBody, tF_body _ _ _, a, pb, s0, x.2.body, rfl, D0.same e1, O, h3, hb12, fun H2 e2 => ?_⟩
        have e12 := e1.trans e2
        refine ⟨_, rfl, _, _, rfl, rfl, ((unasked s0.tune x.2.body + 1 : Nat) : Int), rfl, by omega, by omega, for_range (lo := 0) (n := unasked s0.tune x.2.body + 1)
          (fun i σ H' => ∃ v4 : Option V, σ = [some (.ref a), some (.int (k : Int)), some (.int (w : Int)), some (.int (unasked s0.tune x.2.body : Nat)), v4] ∧ Same H H' ∧ ∀ m, m < i → firstWith s0 x.2 w m = false) ?_ ?_ ?_⟩
        · exact ⟨none, rfl, e12, fun m hm => absurd hm (Nat.not_lt_zero m)⟩
        · rintro i σ H' hi ⟨v4, rfl, s1, h0⟩
          rw [Int.zero_add]
          refine ⟨_, rfl, _, rfl, _, rfl, _, rfl, a, s0, k, w, i, x.2, rfl, D0.same s1, O, e, c, fun H3 e3 => ⟨_, rfl, ?_⟩⟩
          by_cases g : firstWith s0 x.2 w i = true
          · refine ifT g ?_
            exact ⟨_, rfl, by show 1 ≤ sizeLine; decide, fin (i : Int) (step_lift_some O e c hi h0 g) H3 (s1.trans e3)⟩
          · refine ifF g ?_
            refine ⟨_, rfl, s1.trans e3, fun m hm => ?_⟩
            by_cases z : m = i
            · rw [z]
              exact Bool.not_eq_true _ |>.mp g
            · exact h0 m (by omega)
        · rintro σ H' ⟨v4, rfl, s1, h0⟩
          exact ⟨by show 1 ≤ sizeLine; decide, fin (-6) (step_lift_none O e c h0) H' s1⟩
      · refine ifT (by simp [c]) ?_
        exact ⟨by show 1 ≤ sizeLine; decide, fin (-2) (step_lift_unasked e c) H1 e1⟩
end
end Mk
set_option Elab.async false
set_option maxRecDepth 100000
set_option maxHeartbeats 5000000
/-! answer_of. -/
namespace Mk
open PySem PySem.Spec PyProof.Rows L2
abbrev s_answer_of : Stmt := top 68
theorem no_num {p n : Nat} (h : p ≠ n) : ¬ decide (V.int (p : Int) = V.int (n : Int)) = true := by
  rw [decide_eq_true_eq]
  intro z
  have := V.int.inj z
  omega
theorem ln1 {x : List Nat} (h : x.length = 1) : ∃ a, x = [a] := by
  match x, h with
  | [a], _ => exact ⟨a, rfl⟩
theorem ln2 {x : List Nat} (h : x.length = 2) : ∃ a b, x = [a, b] := by
  match x, h with
  | [a, b], _ => exact ⟨a, b, rfl⟩
theorem ln3 {x : List Nat} (h : x.length = 3) : ∃ a b c, x = [a, b, c] := by
  match x, h with
  | [a, b, c], _ => exact ⟨a, b, c, rfl⟩
theorem ln4 {x : List Nat} (h : x.length = 4) : ∃ a b c d, x = [a, b, c, d] := by
  match x, h with
  | [a, b, c, d], _ => exact ⟨a, b, c, d, rfl⟩
section
variable {P : Program} {w : World} {K : PySem.W.Frag} {mg : Str → Option Value} {base : Heap} {CT CD : Addr}
theorem sc_answerof : FnScope ["desk", "number", "plain", "row"] ["desk", "number", "plain", "row"] (defScope s_answer_of) := ⟨rfl, rfl, rfl, by decide +kernel, rfl, by decide +kernel, by decide +kernel⟩
/-- the numbers of the calls, as the top has them -/
structure Nums (mg : Str → Option Value) : Prop where
  c0 : ∃ t, mg "PUT" = some (.int 0 t)
  c1 : ∃ t, mg "DROP" = some (.int 1 t)
  c2 : ∃ t, mg "TUNE" = some (.int 2 t)
  c3 : ∃ t, mg "ASK" = some (.int 3 t)
  c4 : ∃ t, mg "MARK" = some (.int 4 t)
  c5 : ∃ t, mg "BEST" = some (.int 5 t)
  c6 : ∃ t, mg "WHY" = some (.int 6 t)
  c7 : ∃ t, mg "VERSUS" = some (.int 7 t)
  c8 : ∃ t, mg "PLACE" = some (.int 8 t)
  c9 : ∃ t, mg "LIFT" = some (.int 9 t)
theorem ok_answer_of {f : Addr} {fd : FuncData} (F : Fun K "answer_of" "answer_of" s_answer_of f fd) (N : Nums mg)
    (G0 : Has P w K mg base 4 "put" ["desk", "key", "prior", "head_length", "words"] (spPut CT CD)) (G1 : Has P w K mg base 1 "drop" ["desk", "key"] (spNum CT CD .drop)) (G2 : Has P w K mg base 3 "tune" ["desk", "a", "b", "c", "d"] (spTune CT CD))
    (G3 : Has P w K mg base 7 "ask" ["desk", "by_turns"] (spAsk CT CD)) (G4 : Has P w K mg base 6 "mark" ["desk", "key"] (spNum CT CD .mark)) (G5 : Has P w K mg base 7 "best" ["desk", "most"] (spNum CT CD .best))
    (G6 : Has P w K mg base 5 "why" ["desk", "key"] (spNum CT CD .why)) (G7 : Has P w K mg base 6 "versus" ["desk", "one", "other"] (spTwo CT CD .versus)) (G8 : Has P w K mg base 7 "place" ["desk", "key"] (spNum CT CD .place))
    (G9 : Has P w K mg base 9 "lift" ["desk", "key", "word"] (spTwo CT CD .lift)) (G10 : Has P w K mg base 5 "parts" ["desk", "key"] (spNum CT CD .parts)) :
    FnOk P w K mg base CX0 10 f fd ["desk", "number", "plain", "row"] (spAnswerOf CT CD) := by
  refine F.ok sc_answerof (fun vs H Q E h => ?_) (fun cdv A outer s H vs Q E hr h => ?_)
  · obtain ⟨a, pl, rw, s, p, x, row, rfl, _⟩ := h
    rfl
  · obtain ⟨a, pl, ro, s0, p, x, row, rfl, D0, O, hp, hpl, hro, hx, hrl, kk⟩ := h
    have hr1 : Room 1 _ := hr.mono (by decide)
    have hr3 : Room 3 _ := hr.mono (by decide)
    have hr4 : Room 4 _ := hr.mono (by decide)
    have hr5 : Room 5 _ := hr.mono (by decide)
    have hr6 : Room 6 _ := hr.mono (by decide)
    have hr7 : Room 7 _ := hr.mono (by decide)
    refine ⟨_, pss_cons (ps_if (pt_cmpR op_eq (pv 1) (pe_const N.c0) (nomark _)) (pss_one (ps_ret (pe_cl G0 hr4 (pa_cons (pv 0) (pa_cons (pe_ix ix_list (pv 2) pe_int (fun _ _ => rfl)) (pa_cons (pe_ix ix_list (pv 2) pe_int (fun _ _ => rfl)) (pa_cons (pe_ix ix_list (pv 2) pe_int (fun _ _ => rfl)) (pa_cons (pv 3) pa_nil)))))))) pss_nil)
      (pss_cons (ps_if (pt_cmpR op_eq (pv 1) (pe_const N.c1) (nomark _)) (pss_one (ps_ret (pe_cl G1 hr1 (pa_cons (pv 0) (pa_cons (pe_ix ix_list (pv 2) pe_int (fun _ _ => rfl)) pa_nil))))) pss_nil)
      (pss_cons (ps_if (pt_cmpR op_eq (pv 1) (pe_const N.c2) (nomark _)) (pss_one (ps_ret (pe_cl G2 hr3 (pa_cons (pv 0) (pa_cons (pe_ix ix_list (pv 2) pe_int (fun _ _ => rfl)) (pa_cons (pe_ix ix_list (pv 2) pe_int (fun _ _ => rfl)) (pa_cons (pe_ix ix_list (pv 2) pe_int (fun _ _ => rfl)) (pa_cons (pe_ix ix_list (pv 2) pe_int (fun _ _ => rfl)) pa_nil)))))))) pss_nil)
      (pss_cons (ps_if (pt_cmpR op_eq (pv 1) (pe_const N.c3) (nomark _)) (pss_one (ps_ret (pe_cl G3 hr7 (pa_cons (pv 0) (pa_cons (pv 3) pa_nil))))) pss_nil)
      (pss_cons (ps_if (pt_cmpR op_eq (pv 1) (pe_const N.c4) (nomark _)) (pss_one (ps_ret (pe_cl G4 hr6 (pa_cons (pv 0) (pa_cons (pe_ix ix_list (pv 2) pe_int (fun _ _ => rfl)) pa_nil))))) pss_nil)
      (pss_cons (ps_if (pt_cmpR op_eq (pv 1) (pe_const N.c5) (nomark _)) (pss_one (ps_ret (pe_cl G5 hr7 (pa_cons (pv 0) (pa_cons (pe_ix ix_list (pv 2) pe_int (fun _ _ => rfl)) pa_nil))))) pss_nil)
      (pss_cons (ps_if (pt_cmpR op_eq (pv 1) (pe_const N.c6) (nomark _)) (pss_one (ps_ret (pe_cl G6 hr5 (pa_cons (pv 0) (pa_cons (pe_ix ix_list (pv 2) pe_int (fun _ _ => rfl)) pa_nil))))) pss_nil)
      (pss_cons (ps_if (pt_cmpR op_eq (pv 1) (pe_const N.c7) (nomark _)) (pss_one (ps_ret (pe_cl G7 hr6 (pa_cons (pv 0) (pa_cons (pe_ix ix_list (pv 2) pe_int (fun _ _ => rfl)) (pa_cons (pe_ix ix_list (pv 2) pe_int (fun _ _ => rfl)) pa_nil)))))) pss_nil)
      (pss_cons (ps_if (pt_cmpR op_eq (pv 1) (pe_const N.c8) (nomark _)) (pss_one (ps_ret (pe_cl G8 hr7 (pa_cons (pv 0) (pa_cons (pe_ix ix_list (pv 2) pe_int (fun _ _ => rfl)) pa_nil))))) pss_nil)
      (pss_cons (ps_if (pt_cmpR op_eq (pv 1) (pe_const N.c9) (nomark _)) (pss_one (ps_ret (pe_cl G9 hr (pa_cons (pv 0) (pa_cons (pe_ix ix_list (pv 2) pe_int (fun _ _ => rfl)) (pa_cons (pe_ix ix_list (pv 2) pe_int (fun _ _ => rfl)) pa_nil)))))) pss_nil)
      (pss_one (ps_ret (pe_cl G10 hr5 (pa_cons (pv 0) (pa_cons (pe_ix ix_list (pv 2) pe_int (fun _ _ => rfl)) pa_nil)))))))))))))), ?_⟩
    have i0 : ∀ {b : Nat} {r : List Nat}, atI (nums (b :: r)) 0 = some (.int (b : Int)) := fun {b r} => atI_nat (xs := nums (b :: r)) (j := 0) rfl
    have i1 : ∀ {b c : Nat} {r : List Nat}, atI (nums (b :: c :: r)) 1 = some (.int (c : Int)) := fun {b c r} => atI_nat (xs := nums (b :: c :: r)) (j := 1) rfl
    have i2 : ∀ {b c d : Nat} {r : List Nat}, atI (nums (b :: c :: d :: r)) 2 = some (.int (d : Int)) := fun {b c d r} => atI_nat (xs := nums (b :: c :: d :: r)) (j := 2) rfl
    have i3 : ∀ {b c d e : Nat} {r : List Nat}, atI (nums (b :: c :: d :: e :: r)) 3 = some (.int (e : Int)) := fun {b c d e r} => atI_nat (xs := nums (b :: c :: d :: e :: r)) (j := 3) rfl
    have pl' : SqL K H pl (nums x) := SqL.of hpl
    refine ⟨_, rfl, rfl, _, rfl, ?_⟩
    by_cases c0 : p = 0
    · subst c0
      refine ifT (decide_eq_true rfl) ?_
      obtain ⟨b, c, d, rfl⟩ := ln3 hx
      exact ⟨_, rfl, _, rfl, pl, _, _, _, rfl, rfl, pl', i0, _, rfl, pl, _, _, _, rfl, rfl, pl', i1, _, rfl, pl, _, _, _, rfl, rfl, pl', i2, _, rfl, a, ro, s0, b, c, d, row, rfl, D0, O, hro, by omega, kk⟩
    refine ifF (no_num c0) ⟨_, rfl, rfl, _, rfl, ?_⟩
    by_cases c1 : p = 1
    · subst c1
      refine ifT (decide_eq_true rfl) ?_
      obtain ⟨b, rfl⟩ := ln1 hx
      exact ⟨_, rfl, _, rfl, pl, _, _, _, rfl, rfl, pl', i0, a, s0, b, rfl, D0, O, kk⟩
    refine ifF (no_num c1) ⟨_, rfl, rfl, _, rfl, ?_⟩
    by_cases c2 : p = 2
    · subst c2
      refine ifT (decide_eq_true rfl) ?_
      obtain ⟨b, c, d, e, rfl⟩ := ln4 hx
      exact ⟨_, rfl, _, rfl, pl, _, _, _, rfl, rfl, pl', i0, _, rfl, pl, _, _, _, rfl, rfl, pl', i1, _, rfl, pl, _, _, _, rfl, rfl, pl', i2, _, rfl, pl, _, _, _, rfl, rfl, pl', i3, a, s0, b, c, d, e, rfl, D0, O, kk⟩
    refine ifF (no_num c2) ⟨_, rfl, rfl, _, rfl, ?_⟩
    by_cases c3 : p = 3
    · subst c3
      refine ifT (decide_eq_true rfl) ?_
      exact ⟨_, rfl, _, rfl, a, ro, s0, row, rfl, D0, O, hro, by omega, kk⟩
    refine ifF (no_num c3) ⟨_, rfl, rfl, _, rfl, ?_⟩
    by_cases c4 : p = 4
    · subst c4
      refine ifT (decide_eq_true rfl) ?_
      obtain ⟨b, rfl⟩ := ln1 hx
      exact ⟨_, rfl, _, rfl, pl, _, _, _, rfl, rfl, pl', i0, a, s0, b, rfl, D0, O, kk⟩
    refine ifF (no_num c4) ⟨_, rfl, rfl, _, rfl, ?_⟩
    by_cases c5 : p = 5
    · subst c5
      refine ifT (decide_eq_true rfl) ?_
      obtain ⟨b, rfl⟩ := ln1 hx
      exact ⟨_, rfl, _, rfl, pl, _, _, _, rfl, rfl, pl', i0, a, s0, b, rfl, D0, O, kk⟩
    refine ifF (no_num c5) ⟨_, rfl, rfl, _, rfl, ?_⟩
    by_cases c6 : p = 6
    · subst c6
      refine ifT (decide_eq_true rfl) ?_
      obtain ⟨b, rfl⟩ := ln1 hx
      exact ⟨_, rfl, _, rfl, pl, _, _, _, rfl, rfl, pl', i0, a, s0, b, rfl, D0, O, kk⟩
    refine ifF (no_num c6) ⟨_, rfl, rfl, _, rfl, ?_⟩
    by_cases c7 : p = 7
    · subst c7
      refine ifT (decide_eq_true rfl) ?_
      obtain ⟨b, c, rfl⟩ := ln2 hx
      exact ⟨_, rfl, _, rfl, pl, _, _, _, rfl, rfl, pl', i0, _, rfl, pl, _, _, _, rfl, rfl, pl', i1, a, s0, b, c, rfl, D0, O, kk⟩
    refine ifF (no_num c7) ⟨_, rfl, rfl, _, rfl, ?_⟩
    by_cases c8 : p = 8
    · subst c8
      refine ifT (decide_eq_true rfl) ?_
      obtain ⟨b, rfl⟩ := ln1 hx
      exact ⟨_, rfl, _, rfl, pl, _, _, _, rfl, rfl, pl', i0, a, s0, b, rfl, D0, O, kk⟩
    refine ifF (no_num c8) ⟨_, rfl, rfl, _, rfl, ?_⟩
    by_cases c9 : p = 9
    · subst c9
      refine ifT (decide_eq_true rfl) ?_
      obtain ⟨b, c, rfl⟩ := ln2 hx
      exact ⟨_, rfl, _, rfl, pl, _, _, _, rfl, rfl, pl', i0, _, rfl, pl, _, _, _, rfl, rfl, pl', i1, a, s0, b, c, rfl, D0, O, kk⟩
    refine ifF (no_num c9) ?_
    have c10 : p = 10 := by omega
    subst c10
    obtain ⟨b, rfl⟩ := ln1 hx
    exact ⟨_, rfl, _, rfl, pl, _, _, _, rfl, rfl, pl', i0, a, s0, b, rfl, D0, O, kk⟩
end
end Mk
set_option Elab.async false
set_option maxRecDepth 100000
set_option maxHeartbeats 5000000
/-! The request's reading, and how a def's facts are found. -/
namespace Mk
open PySem PySem.Spec PyProof.Rows L2
open PySem.W (Codec)
/-- the def is there, by its name -/
structure DefAt (K : PySem.W.Frag) (mg : Str → Option Value) (x : Str) (st : Stmt) : Prop where
  ex : ∃ f fd, Fun K x x st f fd ∧ mg x = some (.ref f)
theorem defAt_mk {K : PySem.W.Frag} {h : Heap} {mg : Str → Option Value} {x : Str} {st : Stmt} {f : Addr} {oc : Value} {od an : Option Addr} {osl : Array (Option Value)} {kV doc pm cdv ct : Value} (X : K.In h) (G : h.Ns mainGlobals mg)
    (a : PySem.W.nsIn K mainGlobals x = some (some (.ref f))) (l : K.lookup f = some ⟨oc, od, .func (PySem.W.fnOf x x (defArgs st) (defBody st) (defScope st) .none kV doc pm an cdv ct), osl⟩)
    (c : PySem.W.codeIn K cdv x = true) (k : PySem.W.keepIn K (.ref f) = true) : DefAt K mg x st := ⟨f, _, fun_mk l c k, PySem.W.mg_of X G a⟩
theorem nat_list {l : List Int} (h : ∀ n ∈ l, 0 ≤ n ∧ n ≤ 4294967295) : l = ofN (l.map Int.toNat) ∧ ∀ n ∈ l.map Int.toNat, n < 2 ^ 32 := by
  constructor
  · unfold ofN
    rw [List.map_map]
    have : l.map ((fun (n : Nat) => (n : Int)) ∘ Int.toNat) = l.map id := List.map_congr_left fun n hn => by
      have := h n hn
      show ((n.toNat : Nat) : Int) = n
      omega
    rw [this, List.map_id]
  · intro n hn
    obtain ⟨z, hz, rfl⟩ := List.mem_map.mp hn
    have := h z hz
    omega
theorem asked_reading {K : PySem.W.Frag} {H : Hp} {xs : List V} {l : List Int} {Q : VK} {E : XK} {p : Addr} (e : xs = [.ref p]) (hs : SqL K H p (l.map V.int)) (hl : l.length ≤ 30000) (hb : ∀ n ∈ l, 0 ≤ n ∧ n ≤ 4294967295) (ha : PyRh08.answers_asked l = true)
    (k : ∀ (H' : Hp) (r : Addr), H' r = some (.lst ((PyRh08.answers l).map V.int)) → Q (.ref r) H') : spAns K xs H Q E := by
  obtain ⟨e1, e2⟩ := nat_list hb
  refine ⟨p, l.map Int.toNat, e, ?_, by rw [List.length_map]; exact hl, e2, by rw [← e1]; exact ha, by rw [← e1]; exact k⟩
  have : nums (l.map Int.toNat) = l.map V.int := by
    rw [nums_eq]
    exact congrArg (List.map V.int) e1.symm
  rw [this]
  exact hs
end Mk
set_option Elab.async false
set_option maxRecDepth 100000
set_option maxHeartbeats 5000000
/-! From what the top has left to the promise of answers. -/
namespace Mk
open PySem PySem.Spec PyProof.Rows L2
/-- the class's __init__ is there -/
structure InitAt (K : PySem.W.Frag) (C : Addr) (qual : Str) (st : Stmt) : Prop where
  ex : ∃ f fd, L2.Mk K C f ∧ Fun K "__init__" qual st f fd
theorem initAt_mk {K : PySem.W.Frag} {C f : Addr} {qual : Str} {st : Stmt} {oc : Value} {od an : Option Addr} {osl : Array (Option Value)} {kV doc pm cdv ct : Value} (a : PySem.W.findIn K (.ref C) "__init__" = some (some (.ref f))) (i : PySem.W.isFn K (.ref f) = true)
    (l : K.lookup f = some ⟨oc, od, .func (PySem.W.fnOf "__init__" qual (defArgs st) (defBody st) (defScope st) .none kV doc pm an cdv ct), osl⟩) (c : PySem.W.codeIn K cdv qual = true) (k : PySem.W.keepIn K (.ref f) = true) (mk : PySem.W.makesIn K C = true) (kc : PySem.W.keepIn K (.ref C) = true) :
    InitAt K C qual st := ⟨f, _, ⟨mk, a, i, kc⟩, fun_mk l c k⟩
theorem noAttr_mk {K : PySem.W.Frag} {C : Addr} {f : Str} (a : PySem.W.findIn K (.ref C) f = some none) : NoAttr K C f := a
theorem const_mk {K : PySem.W.Frag} {h : Heap} {mg : Str → Option Value} {x : Str} {n : Int} {t : Tok} (X : K.In h) (G : h.Ns mainGlobals mg) (a : PySem.W.nsIn K mainGlobals x = some (some (.int n t))) : ∃ t, mg x = some (.int n t) := ⟨t, PySem.W.mg_of X G a⟩
theorem tuple_mk {K : PySem.W.Frag} {h : Heap} {mg : Str → Option Value} {x : Str} {p : Addr} {o : Obj} {its : Array Value} {n : Nat} {xs : List V} (X : K.In h) (G : h.Ns mainGlobals mg) (a : PySem.W.nsIn K mainGlobals x = some (some (.ref p))) (l : K.lookup p = some o) (c : o.cls = .type "tuple") (d : o.data = .seq its n)
    (z : its.size ≤ sizeLine) (v : Vals xs its.toList) : ∃ pc, mg x = some (.ref pc) ∧ ∀ H, SqT K H pc xs := ⟨p, PySem.W.mg_of X G a, fun _ => .inr ⟨o, its, n, l, c, d, z, v⟩⟩
/-- the whole numbers of the top -/
structure Consts (mg : Str → Option Value) : Prop where
  million : ∃ t, mg "MILLION" = some (.int 1000000 t)
  words : ∃ t, mg "MOST_WORDS" = some (.int 30 t)
  keys : ∃ t, mg "MOST_KEYS" = some (.int 30 t)
  prior : ∃ t, mg "MOST_PRIOR" = some (.int 100 t)
  inPart : ∃ t, mg "MOST_IN_PART" = some (.int 12 t)
  asked : ∃ t, mg "MOST_ASKED" = some (.int 4 t)
  weight : ∃ t, mg "MOST_WEIGHT" = some (.int 10 t)
  oob : ∃ t, mg "OUT_OF_BOUNDS" = some (.int (-1) t)
  nst : ∃ t, mg "NO_SUCH_TEXT" = some (.int (-3) t)
  notAsked : ∃ t, mg "NOT_ASKED" = some (.int (-2) t)
  never : ∃ t, mg "NEVER_FIRST" = some (.int (-6) t)
theorem all_mk {P : Program} {w : World} {K : PySem.W.Frag} {mg : Str → Option Value} {fa CT CD : Addr} (hfa : mg "answers" = some (.ref fa)) (T : Txt K mg CT CD) (C : Consts mg) (N : Nums mg) (hPC : ∃ pc, mg "PLAIN_COUNTS" = some (.ref pc) ∧ ∀ H, SqT K H pc countsV)
    (eT : InitAt K CT "Text.__init__" sText_init) (eD : InitAt K CD "Desk.__init__" sDesk_init)
    (d_plus : DefAt K mg "plus" s_plus)
    (d_times : DefAt K mg "times" s_times)
    (d_is_greater : DefAt K mg "is_greater" s_is_greater)
    (d_shown : DefAt K mg "shown" s_shown)
    (d_greatest_divisor : DefAt K mg "greatest_divisor" s_greatest_divisor)
    (d_lowest : DefAt K mg "lowest" s_lowest)
    (d_has_word : DefAt K mg "has_word" s_has_word)
    (d_how_many_have : DefAt K mg "how_many_have" s_how_many_have)
    (d_words_in_heads : DefAt K mg "words_in_heads" s_words_in_heads)
    (d_words_in_bodies : DefAt K mg "words_in_bodies" s_words_in_bodies)
    (d_how_dense : DefAt K mg "how_dense" s_how_dense)
    (d_density : DefAt K mg "density" s_density)
    (d_how_full : DefAt K mg "how_full" s_how_full)
    (d_how_rare : DefAt K mg "how_rare" s_how_rare)
    (d_what_it_gives : DefAt K mg "what_it_gives" s_what_it_gives)
    (d_mark_of : DefAt K mg "mark_of" s_mark_of)
    (d_has_asked_word : DefAt K mg "has_asked_word" s_has_asked_word)
    (d_place_among : DefAt K mg "place_among" s_place_among)
    (d_ranked : DefAt K mg "ranked" s_ranked)
    (d_is_first : DefAt K mg "is_first" s_is_first)
    (d_is_asked : DefAt K mg "is_asked" s_is_asked)
    (d_not_asked_in : DefAt K mg "not_asked_in" s_not_asked_in)
    (d_body_changed : DefAt K mg "body_changed" s_body_changed)
    (d_desk_with : DefAt K mg "desk_with" s_desk_with)
    (d_is_first_if_changed : DefAt K mg "is_first_if_changed" s_is_first_if_changed)
    (d_is_within : DefAt K mg "is_within" s_is_within)
    (d_are_words : DefAt K mg "are_words" s_are_words)
    (d_may_be_put : DefAt K mg "may_be_put" s_may_be_put)
    (d_put : DefAt K mg "put" s_put)
    (d_drop : DefAt K mg "drop" s_drop)
    (d_may_be_tuned : DefAt K mg "may_be_tuned" s_may_be_tuned)
    (d_tune : DefAt K mg "tune" s_tune)
    (d_may_be_asked : DefAt K mg "may_be_asked" s_may_be_asked)
    (d_ask : DefAt K mg "ask" s_ask)
    (d_mark : DefAt K mg "mark" s_mark)
    (d_best : DefAt K mg "best" s_best)
    (d_reasons : DefAt K mg "reasons" s_reasons)
    (d_why : DefAt K mg "why" s_why)
    (d_versus : DefAt K mg "versus" s_versus)
    (d_place : DefAt K mg "place" s_place)
    (d_lift : DefAt K mg "lift" s_lift)
    (d_parts : DefAt K mg "parts" s_parts)
    (d_answer_of : DefAt K mg "answer_of" s_answer_of)
    (d_end_of_call : DefAt K mg "end_of_call" s_end_of_call)
    (d_answers : DefAt K mg "answers" s_answers) :
    ∃ fd : FuncData, (∀ (s : Shared) (us : List Value), us.length = (["calls"] : List Str).length → BindsTo s fd ⟨us, []⟩ ((["calls"] : List Str).zip us)) ∧ ∀ base : Heap, K.In base → base.Ns mainGlobals mg → FnOk P w K mg base CX0 11 fa fd ["calls"] (spAns K) := by
  obtain ⟨f, fd, F, hm⟩ := d_answers.ex
  have e : fa = f := Value.ref.inj (Option.some.inj (hfa.symm.trans hm))
  subst e
  obtain ⟨oc, od, kV, doc, pm, an, cdv, ct, osl, e0, lk, hcd⟩ := F.ex
  subst e0
  refine ⟨PySem.W.fnOf "answers" "answers" (defArgs s_answers) (defBody s_answers) (defScope s_answers) .none kV doc pm an cdv ct, fun s us hu => match us, hu with | [_], _ => .of_eq rfl, fun base _ _ => ?_⟩
  have iT : HasInit P w K mg base 1 CT ["self", "prior", "head", "body"] (spTextInit CT) := by
    obtain ⟨f, fd, M, F⟩ := eT.ex
    exact ⟨f, fd, M, F.binds (ps := ["self", "prior", "head", "body"]) fun _ _ _ _ _ _ us hl => match us, hl with | [_, _, _, _], _ => rfl, ok_text_init F T⟩
  have iD : HasInit P w K mg base 1 CD ["self"] (spDeskInit CT CD) := by
    obtain ⟨f, fd, M, F⟩ := eD.ex
    exact ⟨f, fd, M, F.binds (ps := ["self"]) fun _ _ _ _ _ _ us hl => match us, hl with | [_], _ => rfl, ok_desk_init F T⟩
  have h_plus : Has P w K mg base 1 "plus" ["x", "y"] (sp2 plus) := by
    obtain ⟨f, fd, F, hm⟩ := d_plus.ex
    exact Has.mk' F hm (F.binds (ps := ["x", "y"]) fun _ _ _ _ _ _ us hl => match us, hl with | [_, _], _ => rfl) (ok_plus F)
  have h_times : Has P w K mg base 1 "times" ["x", "y"] (sp2 times) := by
    obtain ⟨f, fd, F, hm⟩ := d_times.ex
    exact Has.mk' F hm (F.binds (ps := ["x", "y"]) fun _ _ _ _ _ _ us hl => match us, hl with | [_, _], _ => rfl) (ok_times F)
  have h_is_greater : Has P w K mg base 1 "is_greater" ["x", "y"] spGreater := by
    obtain ⟨f, fd, F, hm⟩ := d_is_greater.ex
    exact Has.mk' F hm (F.binds (ps := ["x", "y"]) fun _ _ _ _ _ _ us hl => match us, hl with | [_, _], _ => rfl) (ok_is_greater F)
  have h_shown : Has P w K mg base 1 "shown" ["x"] spShown := by
    obtain ⟨f, fd, F, hm⟩ := d_shown.ex
    exact Has.mk' F hm (F.binds (ps := ["x"]) fun _ _ _ _ _ _ us hl => match us, hl with | [_], _ => rfl) (ok_shown F C.million)
  have h_greatest_divisor : Has P w K mg base 1 "greatest_divisor" ["x", "y"] spGcd := by
    obtain ⟨f, fd, F, hm⟩ := d_greatest_divisor.ex
    exact Has.mk' F hm (F.binds (ps := ["x", "y"]) fun _ _ _ _ _ _ us hl => match us, hl with | [_, _], _ => rfl) (ok_greatest_divisor F)
  have h_lowest : Has P w K mg base 2 "lowest" ["x"] spLowest := by
    obtain ⟨f, fd, F, hm⟩ := d_lowest.ex
    exact Has.mk' F hm (F.binds (ps := ["x"]) fun _ _ _ _ _ _ us hl => match us, hl with | [_], _ => rfl) (ok_lowest F h_greatest_divisor)
  have h_has_word : Has P w K mg base 1 "has_word" ["text", "word"] (spHasWord CT) := by
    obtain ⟨f, fd, F, hm⟩ := d_has_word.ex
    exact Has.mk' F hm (F.binds (ps := ["text", "word"]) fun _ _ _ _ _ _ us hl => match us, hl with | [_, _], _ => rfl) (ok_has_word F T)
  have h_how_many_have : Has P w K mg base 2 "how_many_have" ["desk", "word"] (spHave CT CD) := by
    obtain ⟨f, fd, F, hm⟩ := d_how_many_have.ex
    exact Has.mk' F hm (F.binds (ps := ["desk", "word"]) fun _ _ _ _ _ _ us hl => match us, hl with | [_, _], _ => rfl) (ok_how_many_have F T h_has_word)
  have h_words_in_heads : Has P w K mg base 1 "words_in_heads" ["desk"] (spTotal CT CD heads) := by
    obtain ⟨f, fd, F, hm⟩ := d_words_in_heads.ex
    exact Has.mk' F hm (F.binds (ps := ["desk"]) fun _ _ _ _ _ _ us hl => match us, hl with | [_], _ => rfl) (ok_words_in_heads F T)
  have h_words_in_bodies : Has P w K mg base 1 "words_in_bodies" ["desk"] (spTotal CT CD bodies) := by
    obtain ⟨f, fd, F, hm⟩ := d_words_in_bodies.ex
    exact Has.mk' F hm (F.binds (ps := ["desk"]) fun _ _ _ _ _ _ us hl => match us, hl with | [_], _ => rfl) (ok_words_in_bodies F T)
  have h_how_dense : Has P w K mg base 1 "how_dense" ["desk", "word", "part", "words_in_all"] (spDense CT CD) := by
    obtain ⟨f, fd, F, hm⟩ := d_how_dense.ex
    exact Has.mk' F hm (F.binds (ps := ["desk", "word", "part", "words_in_all"]) fun _ _ _ _ _ _ us hl => match us, hl with | [_, _, _, _], _ => rfl) (ok_how_dense F T)
  have h_density : Has P w K mg base 2 "density" ["desk", "word", "text"] (spDensity CT CD) := by
    obtain ⟨f, fd, F, hm⟩ := d_density.ex
    exact Has.mk' F hm (F.binds (ps := ["desk", "word", "text"]) fun _ _ _ _ _ _ us hl => match us, hl with | [_, _, _], _ => rfl) (ok_density F T h_how_dense h_words_in_heads h_words_in_bodies h_plus h_times)
  have h_how_full : Has P w K mg base 1 "how_full" ["desk", "x"] (spFull CT CD) := by
    obtain ⟨f, fd, F, hm⟩ := d_how_full.ex
    exact Has.mk' F hm (F.binds (ps := ["desk", "x"]) fun _ _ _ _ _ _ us hl => match us, hl with | [_, _], _ => rfl) (ok_how_full F T)
  have h_how_rare : Has P w K mg base 3 "how_rare" ["desk", "word"] (spRare CT CD) := by
    obtain ⟨f, fd, F, hm⟩ := d_how_rare.ex
    exact Has.mk' F hm (F.binds (ps := ["desk", "word"]) fun _ _ _ _ _ _ us hl => match us, hl with | [_, _], _ => rfl) (ok_how_rare F T h_how_many_have)
  have h_what_it_gives : Has P w K mg base 4 "what_it_gives" ["desk", "word", "weight", "text"] (spGives CT CD) := by
    obtain ⟨f, fd, F, hm⟩ := d_what_it_gives.ex
    exact Has.mk' F hm (F.binds (ps := ["desk", "word", "weight", "text"]) fun _ _ _ _ _ _ us hl => match us, hl with | [_, _, _, _], _ => rfl) (ok_what_it_gives F h_how_full h_density h_how_rare h_times)
  have h_mark_of : Has P w K mg base 5 "mark_of" ["desk", "text"] (spMark CT CD) := by
    obtain ⟨f, fd, F, hm⟩ := d_mark_of.ex
    exact Has.mk' F hm (F.binds (ps := ["desk", "text"]) fun _ _ _ _ _ _ us hl => match us, hl with | [_, _], _ => rfl) (ok_mark_of F T h_what_it_gives h_plus h_times)
  have h_has_asked_word : Has P w K mg base 2 "has_asked_word" ["desk", "text"] (spHasAsked CT CD) := by
    obtain ⟨f, fd, F, hm⟩ := d_has_asked_word.ex
    exact Has.mk' F hm (F.binds (ps := ["desk", "text"]) fun _ _ _ _ _ _ us hl => match us, hl with | [_, _], _ => rfl) (ok_has_asked_word F T h_has_word)
  have h_place_among : Has P w K mg base 2 "place_among" ["better_first", "mark"] spPlace := by
    obtain ⟨f, fd, F, hm⟩ := d_place_among.ex
    exact Has.mk' F hm (F.binds (ps := ["better_first", "mark"]) fun _ _ _ _ _ _ us hl => match us, hl with | [_, _], _ => rfl) (ok_place_among F T h_is_greater)
  have h_ranked : Has P w K mg base 6 "ranked" ["desk"] (spRanked CT CD) := by
    obtain ⟨f, fd, F, hm⟩ := d_ranked.ex
    exact Has.mk' F hm (F.binds (ps := ["desk"]) fun _ _ _ _ _ _ us hl => match us, hl with | [_], _ => rfl) (ok_ranked F T h_has_asked_word h_mark_of h_place_among)
  have h_is_first : Has P w K mg base 7 "is_first" ["desk", "key"] (spIsFirst CT CD) := by
    obtain ⟨f, fd, F, hm⟩ := d_is_first.ex
    exact Has.mk' F hm (F.binds (ps := ["desk", "key"]) fun _ _ _ _ _ _ us hl => match us, hl with | [_, _], _ => rfl) (ok_is_first F T h_ranked)
  have h_is_asked : Has P w K mg base 1 "is_asked" ["desk", "word"] (spIsAsked CT CD) := by
    obtain ⟨f, fd, F, hm⟩ := d_is_asked.ex
    exact Has.mk' F hm (F.binds (ps := ["desk", "word"]) fun _ _ _ _ _ _ us hl => match us, hl with | [_, _], _ => rfl) (ok_is_asked F T)
  have h_not_asked_in : Has P w K mg base 2 "not_asked_in" ["desk", "body"] (spNotAsked CT CD) := by
    obtain ⟨f, fd, F, hm⟩ := d_not_asked_in.ex
    exact Has.mk' F hm (F.binds (ps := ["desk", "body"]) fun _ _ _ _ _ _ us hl => match us, hl with | [_, _], _ => rfl) (ok_not_asked_in F T h_is_asked)
  have h_body_changed : Has P w K mg base 2 "body_changed" ["desk", "body", "word", "how_many"] (spChanged CT CD) := by
    obtain ⟨f, fd, F, hm⟩ := d_body_changed.ex
    exact Has.mk' F hm (F.binds (ps := ["desk", "body", "word", "how_many"]) fun _ _ _ _ _ _ us hl => match us, hl with | [_, _, _, _], _ => rfl) (ok_body_changed F h_is_asked)
  have h_desk_with : Has P w K mg base 3 "desk_with" ["desk", "key", "text"] (spDeskWith CT CD) := by
    obtain ⟨f, fd, F, hm⟩ := d_desk_with.ex
    exact Has.mk' F hm (F.binds (ps := ["desk", "key", "text"]) fun _ _ _ _ _ _ us hl => match us, hl with | [_, _, _], _ => rfl) (ok_desk_with F T iD)
  have h_is_first_if_changed : Has P w K mg base 8 "is_first_if_changed" ["desk", "key", "word", "how_many"] (spIfChanged CT CD) := by
    obtain ⟨f, fd, F, hm⟩ := d_is_first_if_changed.ex
    exact Has.mk' F hm (F.binds (ps := ["desk", "key", "word", "how_many"]) fun _ _ _ _ _ _ us hl => match us, hl with | [_, _, _, _], _ => rfl) (ok_is_first_if_changed F T iT h_body_changed h_is_first h_desk_with)
  have h_is_within : Has P w K mg base 1 "is_within" ["number", "least", "most"] spWithin := by
    obtain ⟨f, fd, F, hm⟩ := d_is_within.ex
    exact Has.mk' F hm (F.binds (ps := ["number", "least", "most"]) fun _ _ _ _ _ _ us hl => match us, hl with | [_, _, _], _ => rfl) (ok_is_within F)
  have h_are_words : Has P w K mg base 2 "are_words" ["words"] spAreWords := by
    obtain ⟨f, fd, F, hm⟩ := d_are_words.ex
    exact Has.mk' F hm (F.binds (ps := ["words"]) fun _ _ _ _ _ _ us hl => match us, hl with | [_], _ => rfl) (ok_are_words F T C.words h_is_within)
  have h_may_be_put : Has P w K mg base 3 "may_be_put" ["key", "prior", "head_length", "words"] spMayPut := by
    obtain ⟨f, fd, F, hm⟩ := d_may_be_put.ex
    exact Has.mk' F hm (F.binds (ps := ["key", "prior", "head_length", "words"]) fun _ _ _ _ _ _ us hl => match us, hl with | [_, _, _, _], _ => rfl) (ok_may_be_put F T C.keys C.prior C.inPart h_is_within h_are_words)
  have h_put : Has P w K mg base 4 "put" ["desk", "key", "prior", "head_length", "words"] (spPut CT CD) := by
    obtain ⟨f, fd, F, hm⟩ := d_put.ex
    exact Has.mk' F hm (F.binds (ps := ["desk", "key", "prior", "head_length", "words"]) fun _ _ _ _ _ _ us hl => match us, hl with | [_, _, _, _, _], _ => rfl) (ok_put F T C.oob h_may_be_put iT)
  have h_drop : Has P w K mg base 1 "drop" ["desk", "key"] (spNum CT CD .drop) := by
    obtain ⟨f, fd, F, hm⟩ := d_drop.ex
    exact Has.mk' F hm (F.binds (ps := ["desk", "key"]) fun _ _ _ _ _ _ us hl => match us, hl with | [_, _], _ => rfl) (ok_drop F T C.nst)
  have h_may_be_tuned : Has P w K mg base 2 "may_be_tuned" ["a", "b", "c", "d"] spMayTune := by
    obtain ⟨f, fd, F, hm⟩ := d_may_be_tuned.ex
    exact Has.mk' F hm (F.binds (ps := ["a", "b", "c", "d"]) fun _ _ _ _ _ _ us hl => match us, hl with | [_, _, _, _], _ => rfl) (ok_may_be_tuned F h_is_within)
  have h_tune : Has P w K mg base 3 "tune" ["desk", "a", "b", "c", "d"] (spTune CT CD) := by
    obtain ⟨f, fd, F, hm⟩ := d_tune.ex
    exact Has.mk' F hm (F.binds (ps := ["desk", "a", "b", "c", "d"]) fun _ _ _ _ _ _ us hl => match us, hl with | [_, _, _, _, _], _ => rfl) (ok_tune F T C.oob h_may_be_tuned)
  have h_may_be_asked : Has P w K mg base 3 "may_be_asked" ["words", "weights"] spMayAsk := by
    obtain ⟨f, fd, F, hm⟩ := d_may_be_asked.ex
    exact Has.mk' F hm (F.binds (ps := ["words", "weights"]) fun _ _ _ _ _ _ us hl => match us, hl with | [_, _], _ => rfl) (ok_may_be_asked F T C.asked C.weight h_is_within h_are_words)
  have h_ask : Has P w K mg base 7 "ask" ["desk", "by_turns"] (spAsk CT CD) := by
    obtain ⟨f, fd, F, hm⟩ := d_ask.ex
    exact Has.mk' F hm (F.binds (ps := ["desk", "by_turns"]) fun _ _ _ _ _ _ us hl => match us, hl with | [_, _], _ => rfl) (ok_ask F T C.oob h_may_be_asked h_ranked)
  have h_mark : Has P w K mg base 6 "mark" ["desk", "key"] (spNum CT CD .mark) := by
    obtain ⟨f, fd, F, hm⟩ := d_mark.ex
    exact Has.mk' F hm (F.binds (ps := ["desk", "key"]) fun _ _ _ _ _ _ us hl => match us, hl with | [_, _], _ => rfl) (ok_mark F T C.nst h_shown h_mark_of)
  have h_best : Has P w K mg base 7 "best" ["desk", "most"] (spNum CT CD .best) := by
    obtain ⟨f, fd, F, hm⟩ := d_best.ex
    exact Has.mk' F hm (F.binds (ps := ["desk", "most"]) fun _ _ _ _ _ _ us hl => match us, hl with | [_, _], _ => rfl) (ok_best F T h_shown h_ranked)
  have h_reasons : Has P w K mg base 4 "reasons" ["desk", "word", "text"] (spReasons CT CD) := by
    obtain ⟨f, fd, F, hm⟩ := d_reasons.ex
    exact Has.mk' F hm (F.binds (ps := ["desk", "word", "text"]) fun _ _ _ _ _ _ us hl => match us, hl with | [_, _, _], _ => rfl) (ok_reasons F T h_density h_how_many_have h_lowest h_how_rare h_how_full)
  have h_why : Has P w K mg base 5 "why" ["desk", "key"] (spNum CT CD .why) := by
    obtain ⟨f, fd, F, hm⟩ := d_why.ex
    exact Has.mk' F hm (F.binds (ps := ["desk", "key"]) fun _ _ _ _ _ _ us hl => match us, hl with | [_, _], _ => rfl) (ok_why F T C.nst h_reasons)
  have h_versus : Has P w K mg base 6 "versus" ["desk", "one", "other"] (spTwo CT CD .versus) := by
    obtain ⟨f, fd, F, hm⟩ := d_versus.ex
    exact Has.mk' F hm (F.binds (ps := ["desk", "one", "other"]) fun _ _ _ _ _ _ us hl => match us, hl with | [_, _, _], _ => rfl) (ok_versus F T C.nst h_mark_of h_is_greater)
  have h_place : Has P w K mg base 7 "place" ["desk", "key"] (spNum CT CD .place) := by
    obtain ⟨f, fd, F, hm⟩ := d_place.ex
    exact Has.mk' F hm (F.binds (ps := ["desk", "key"]) fun _ _ _ _ _ _ us hl => match us, hl with | [_, _], _ => rfl) (ok_place F C.nst h_ranked)
  have h_lift : Has P w K mg base 9 "lift" ["desk", "key", "word"] (spTwo CT CD .lift) := by
    obtain ⟨f, fd, F, hm⟩ := d_lift.ex
    exact Has.mk' F hm (F.binds (ps := ["desk", "key", "word"]) fun _ _ _ _ _ _ us hl => match us, hl with | [_, _, _], _ => rfl) (ok_lift F T C.nst C.notAsked C.never h_is_asked h_not_asked_in h_is_first_if_changed)
  have h_parts : Has P w K mg base 5 "parts" ["desk", "key"] (spNum CT CD .parts) := by
    obtain ⟨f, fd, F, hm⟩ := d_parts.ex
    exact Has.mk' F hm (F.binds (ps := ["desk", "key"]) fun _ _ _ _ _ _ us hl => match us, hl with | [_, _], _ => rfl) (ok_parts F T C.nst h_shown h_what_it_gives)
  have h_answer_of : Has P w K mg base 10 "answer_of" ["desk", "number", "plain", "row"] (spAnswerOf CT CD) := by
    obtain ⟨f, fd, F, hm⟩ := d_answer_of.ex
    exact Has.mk' F hm (F.binds (ps := ["desk", "number", "plain", "row"]) fun _ _ _ _ _ _ us hl => match us, hl with | [_, _, _, _], _ => rfl) (ok_answer_of F N h_put h_drop h_tune h_ask h_mark h_best h_why h_versus h_place h_lift h_parts)
  have h_end_of_call : Has P w K mg base 1 "end_of_call" ["calls", "number", "plain_end"] (spEndOf K) := by
    obtain ⟨f, fd, F, hm⟩ := d_end_of_call.ex
    exact Has.mk' F hm (F.binds (ps := ["calls", "number", "plain_end"]) fun _ _ _ _ _ _ us hl => match us, hl with | [_, _, _], _ => rfl) (ok_end_of_call F N.c0 N.c3)
  exact ok_answers F T hPC iD h_end_of_call 10 (by decide) h_answer_of
end Mk
set_option Elab.async false
open PySem PySem.W PyProof.Rows
set_option maxRecDepth 100000 in
set_option maxHeartbeats 0 in
theorem PySem.Challenge.cw_markdesk_s01_answers_holds : PySem.Challenge.rw_markdesk_s01_answers.Holds := by
  w_on; k_headS; (case hw => exact ⟨[.list [.int 5, .int 0]], by decide +kernel, by decide +kernel⟩)
  k_fillS
  refine L2.walk_specK (r := PySem.Challenge.rw_markdesk_s01_answers) (k := 11) (CX := L2.CX0) (ps := ["calls"]) (sp := Mk.spAns) (by decide +kernel) rfl rfl ⟨rfl, by decide, by decide⟩ (fun w h Y => PySem.W.kIn_of Y) ?F ?S (fun _ _ _ _ z => z)
  case F =>
    intro w mg fa h Y KX G hmg
    refine' Mk.all_mk hmg ?xTxt ?xConsts ?xNums ?xpc ?eT ?eD ?d_plus ?d_times ?d_is_greater ?d_shown ?d_greatest_divisor ?d_lowest ?d_has_word ?d_how_many_have ?d_words_in_heads ?d_words_in_bodies ?d_how_dense ?d_density ?d_how_full ?d_how_rare ?d_what_it_gives ?d_mark_of ?d_has_asked_word ?d_place_among ?d_ranked ?d_is_first ?d_is_asked ?d_not_asked_in ?d_body_changed ?d_desk_with ?d_is_first_if_changed ?d_is_within ?d_are_words ?d_may_be_put ?d_put ?d_drop ?d_may_be_tuned ?d_tune ?d_may_be_asked ?d_ask ?d_mark ?d_best ?d_reasons ?d_why ?d_versus ?d_place ?d_lift ?d_parts ?d_answer_of ?d_end_of_call ?d_answers
    case xTxt =>
      refine' ⟨⟨?t1, ?t2, ?t3, ?t4⟩, ⟨?u1, ?u2, ?u3, ?u4⟩, PySem.W.mg_of KX G ?gT, PySem.W.mg_of KX G ?gD, Mk.noAttr_mk ?n1, Mk.noAttr_mk ?n2, Mk.noAttr_mk ?n3, Mk.noAttr_mk ?n4, Mk.noAttr_mk ?n5, Mk.noAttr_mk ?n6, Mk.noAttr_mk ?n7, Mk.noAttr_mk ?n8, Mk.noAttr_mk ?n9, PySem.W.mg_none_of KX G ?b0, PySem.W.mg_none_of KX G ?b1, PySem.W.mg_none_of KX G ?b2, PySem.W.mg_none_of KX G ?b3, PySem.W.mg_none_of KX G ?b4, PySem.W.mg_none_of KX G ?b5, PySem.W.mg_none_of KX G ?b6, PySem.W.mg_none_of KX G ?b7, PySem.W.mg_none_of KX G ?b8, PySem.W.mg_none_of KX G ?b9⟩
      (case gT => k_is)
      (case gD => k_is)
      (case t1 => k_is)
      (case t2 => k_is)
      (case t3 => k_is)
      (case t4 => k_is)
      (case u1 => k_is)
      (case u2 => k_is)
      (case u3 => k_is)
      (case u4 => k_is)
      (case n1 => k_is)
      (case n2 => k_is)
      (case n3 => k_is)
      (case n4 => k_is)
      (case n5 => k_is)
      (case n6 => k_is)
      (case n7 => k_is)
      (case n8 => k_is)
      (case n9 => k_is)
      (case b0 => k_is)
      (case b1 => k_is)
      (case b2 => k_is)
      (case b3 => k_is)
      (case b4 => k_is)
      (case b5 => k_is)
      (case b6 => k_is)
      (case b7 => k_is)
      (case b8 => k_is)
      (case b9 => k_is)
    case xConsts => (refine' ⟨Mk.const_mk KX G ?v0, Mk.const_mk KX G ?v1, Mk.const_mk KX G ?v2, Mk.const_mk KX G ?v3, Mk.const_mk KX G ?v4, Mk.const_mk KX G ?v5, Mk.const_mk KX G ?v6, Mk.const_mk KX G ?v7, Mk.const_mk KX G ?v8, Mk.const_mk KX G ?v9, Mk.const_mk KX G ?v10⟩; (case v0 => k_is); (case v1 => k_is); (case v2 => k_is); (case v3 => k_is); (case v4 => k_is); (case v5 => k_is); (case v6 => k_is); (case v7 => k_is); (case v8 => k_is); (case v9 => k_is); (case v10 => k_is))
    case xNums => (refine' ⟨Mk.const_mk KX G ?v0, Mk.const_mk KX G ?v1, Mk.const_mk KX G ?v2, Mk.const_mk KX G ?v3, Mk.const_mk KX G ?v4, Mk.const_mk KX G ?v5, Mk.const_mk KX G ?v6, Mk.const_mk KX G ?v7, Mk.const_mk KX G ?v8, Mk.const_mk KX G ?v9⟩; (case v0 => k_is); (case v1 => k_is); (case v2 => k_is); (case v3 => k_is); (case v4 => k_is); (case v5 => k_is); (case v6 => k_is); (case v7 => k_is); (case v8 => k_is); (case v9 => k_is))
    case xpc =>
      refine' Mk.tuple_mk KX G ?a ?l ?c ?d ?z ?v
      (case a => k_is); (case l => k_is); (case c => rfl); (case d => rfl)
      (case z => decide)
      (case v => exact .cons ⟨_, rfl⟩ (.cons ⟨_, rfl⟩ (.cons ⟨_, rfl⟩ (.cons ⟨_, rfl⟩ (.cons ⟨_, rfl⟩ (.cons ⟨_, rfl⟩ (.cons ⟨_, rfl⟩ (.cons ⟨_, rfl⟩ (.cons ⟨_, rfl⟩ (.cons ⟨_, rfl⟩ (.cons ⟨_, rfl⟩ (.nil))))))))))))
    case eT => (refine' Mk.initAt_mk ?a ?i ?l ?c ?k ?mk ?kc; (case a => k_is); (case i => k_is); (case l => k_is); (case c => k_is); (case k => k_is); (case mk => k_is); (case kc => k_is))
    case eD => (refine' Mk.initAt_mk ?a ?i ?l ?c ?k ?mk ?kc; (case a => k_is); (case i => k_is); (case l => k_is); (case c => k_is); (case k => k_is); (case mk => k_is); (case kc => k_is))
    case d_plus => (refine' Mk.defAt_mk KX G ?a ?l ?c ?k; (case a => k_is); (case l => k_is); (case c => k_is); (case k => k_is))
    case d_times => (refine' Mk.defAt_mk KX G ?a ?l ?c ?k; (case a => k_is); (case l => k_is); (case c => k_is); (case k => k_is))
    case d_is_greater => (refine' Mk.defAt_mk KX G ?a ?l ?c ?k; (case a => k_is); (case l => k_is); (case c => k_is); (case k => k_is))
    case d_shown => (refine' Mk.defAt_mk KX G ?a ?l ?c ?k; (case a => k_is); (case l => k_is); (case c => k_is); (case k => k_is))
    case d_greatest_divisor => (refine' Mk.defAt_mk KX G ?a ?l ?c ?k; (case a => k_is); (case l => k_is); (case c => k_is); (case k => k_is))
    case d_lowest => (refine' Mk.defAt_mk KX G ?a ?l ?c ?k; (case a => k_is); (case l => k_is); (case c => k_is); (case k => k_is))
    case d_has_word => (refine' Mk.defAt_mk KX G ?a ?l ?c ?k; (case a => k_is); (case l => k_is); (case c => k_is); (case k => k_is))
    case d_how_many_have => (refine' Mk.defAt_mk KX G ?a ?l ?c ?k; (case a => k_is); (case l => k_is); (case c => k_is); (case k => k_is))
    case d_words_in_heads => (refine' Mk.defAt_mk KX G ?a ?l ?c ?k; (case a => k_is); (case l => k_is); (case c => k_is); (case k => k_is))
    case d_words_in_bodies => (refine' Mk.defAt_mk KX G ?a ?l ?c ?k; (case a => k_is); (case l => k_is); (case c => k_is); (case k => k_is))
    case d_how_dense => (refine' Mk.defAt_mk KX G ?a ?l ?c ?k; (case a => k_is); (case l => k_is); (case c => k_is); (case k => k_is))
    case d_density => (refine' Mk.defAt_mk KX G ?a ?l ?c ?k; (case a => k_is); (case l => k_is); (case c => k_is); (case k => k_is))
    case d_how_full => (refine' Mk.defAt_mk KX G ?a ?l ?c ?k; (case a => k_is); (case l => k_is); (case c => k_is); (case k => k_is))
    case d_how_rare => (refine' Mk.defAt_mk KX G ?a ?l ?c ?k; (case a => k_is); (case l => k_is); (case c => k_is); (case k => k_is))
    case d_what_it_gives => (refine' Mk.defAt_mk KX G ?a ?l ?c ?k; (case a => k_is); (case l => k_is); (case c => k_is); (case k => k_is))
    case d_mark_of => (refine' Mk.defAt_mk KX G ?a ?l ?c ?k; (case a => k_is); (case l => k_is); (case c => k_is); (case k => k_is))
    case d_has_asked_word => (refine' Mk.defAt_mk KX G ?a ?l ?c ?k; (case a => k_is); (case l => k_is); (case c => k_is); (case k => k_is))
    case d_place_among => (refine' Mk.defAt_mk KX G ?a ?l ?c ?k; (case a => k_is); (case l => k_is); (case c => k_is); (case k => k_is))
    case d_ranked => (refine' Mk.defAt_mk KX G ?a ?l ?c ?k; (case a => k_is); (case l => k_is); (case c => k_is); (case k => k_is))
    case d_is_first => (refine' Mk.defAt_mk KX G ?a ?l ?c ?k; (case a => k_is); (case l => k_is); (case c => k_is); (case k => k_is))
    case d_is_asked => (refine' Mk.defAt_mk KX G ?a ?l ?c ?k; (case a => k_is); (case l => k_is); (case c => k_is); (case k => k_is))
    case d_not_asked_in => (refine' Mk.defAt_mk KX G ?a ?l ?c ?k; (case a => k_is); (case l => k_is); (case c => k_is); (case k => k_is))
    case d_body_changed => (refine' Mk.defAt_mk KX G ?a ?l ?c ?k; (case a => k_is); (case l => k_is); (case c => k_is); (case k => k_is))
    case d_desk_with => (refine' Mk.defAt_mk KX G ?a ?l ?c ?k; (case a => k_is); (case l => k_is); (case c => k_is); (case k => k_is))
    case d_is_first_if_changed => (refine' Mk.defAt_mk KX G ?a ?l ?c ?k; (case a => k_is); (case l => k_is); (case c => k_is); (case k => k_is))
    case d_is_within => (refine' Mk.defAt_mk KX G ?a ?l ?c ?k; (case a => k_is); (case l => k_is); (case c => k_is); (case k => k_is))
    case d_are_words => (refine' Mk.defAt_mk KX G ?a ?l ?c ?k; (case a => k_is); (case l => k_is); (case c => k_is); (case k => k_is))
    case d_may_be_put => (refine' Mk.defAt_mk KX G ?a ?l ?c ?k; (case a => k_is); (case l => k_is); (case c => k_is); (case k => k_is))
    case d_put => (refine' Mk.defAt_mk KX G ?a ?l ?c ?k; (case a => k_is); (case l => k_is); (case c => k_is); (case k => k_is))
    case d_drop => (refine' Mk.defAt_mk KX G ?a ?l ?c ?k; (case a => k_is); (case l => k_is); (case c => k_is); (case k => k_is))
    case d_may_be_tuned => (refine' Mk.defAt_mk KX G ?a ?l ?c ?k; (case a => k_is); (case l => k_is); (case c => k_is); (case k => k_is))
    case d_tune => (refine' Mk.defAt_mk KX G ?a ?l ?c ?k; (case a => k_is); (case l => k_is); (case c => k_is); (case k => k_is))
    case d_may_be_asked => (refine' Mk.defAt_mk KX G ?a ?l ?c ?k; (case a => k_is); (case l => k_is); (case c => k_is); (case k => k_is))
    case d_ask => (refine' Mk.defAt_mk KX G ?a ?l ?c ?k; (case a => k_is); (case l => k_is); (case c => k_is); (case k => k_is))
    case d_mark => (refine' Mk.defAt_mk KX G ?a ?l ?c ?k; (case a => k_is); (case l => k_is); (case c => k_is); (case k => k_is))
    case d_best => (refine' Mk.defAt_mk KX G ?a ?l ?c ?k; (case a => k_is); (case l => k_is); (case c => k_is); (case k => k_is))
    case d_reasons => (refine' Mk.defAt_mk KX G ?a ?l ?c ?k; (case a => k_is); (case l => k_is); (case c => k_is); (case k => k_is))
    case d_why => (refine' Mk.defAt_mk KX G ?a ?l ?c ?k; (case a => k_is); (case l => k_is); (case c => k_is); (case k => k_is))
    case d_versus => (refine' Mk.defAt_mk KX G ?a ?l ?c ?k; (case a => k_is); (case l => k_is); (case c => k_is); (case k => k_is))
    case d_place => (refine' Mk.defAt_mk KX G ?a ?l ?c ?k; (case a => k_is); (case l => k_is); (case c => k_is); (case k => k_is))
    case d_lift => (refine' Mk.defAt_mk KX G ?a ?l ?c ?k; (case a => k_is); (case l => k_is); (case c => k_is); (case k => k_is))
    case d_parts => (refine' Mk.defAt_mk KX G ?a ?l ?c ?k; (case a => k_is); (case l => k_is); (case c => k_is); (case k => k_is))
    case d_answer_of => (refine' Mk.defAt_mk KX G ?a ?l ?c ?k; (case a => k_is); (case l => k_is); (case c => k_is); (case k => k_is))
    case d_end_of_call => (refine' Mk.defAt_mk KX G ?a ?l ?c ?k; (case a => k_is); (case l => k_is); (case c => k_is); (case k => k_is))
    case d_answers => (refine' Mk.defAt_mk KX G ?a ?l ?c ?k; (case a => k_is); (case l => k_is); (case c => k_is); (case k => k_is))
  case S =>
    intro K H xs a hO hwi hask hx
    cases hx with
    | cons h1 h2 =>
      cases h2
      cases h1 with
      | lst hs ha =>
        have e := L2.ints_dw a.1 _ ha
        subst e
        have q : ((Codec.inLen 0 30000 a.1 && a.1.all (Codec.inInt 0 4294967295)) && true) = true := hwi
        rw [Bool.and_eq_true, Bool.and_eq_true] at q
        exact Mk.asked_reading rfl hs (Codec.inNat_iff.mp q.1.1).2 (fun n hn => Codec.inInt_iff.mp (List.all_eq_true.mp q.1.2 n hn)) hask fun H' p hp => .lst (L2.SqL.of hp) (L2.dw_ints _)
#print axioms PySem.Challenge.cw_markdesk_s01_answers_holds
