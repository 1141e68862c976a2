import PyProof.Rows.All
import Wide.All
import OpenK.AllK
import Wide.FinOn
import Open.SpecLaws
import KE.OsHead
import KE.OsGo
import HandS.ForSpec
import HandS.Wide
import HandS.WideBits
import HandS.Iter
import HandS.Comp
import HandS.Sort
import HandS.Conv
import HandS.Lambda
import HandS.Nested
import HandS.SortKw
import KE.SortKeyHeap
import KE.KNestM
import PySem.Challenge.RW_fadinglots_s06_order_by_strength
set_option Elab.async false
set_option linter.all false
set_option maxRecDepth 100000
set_option maxHeartbeats 2000000
namespace Fl
open Ks604
theorem pow_ne {d : Nat} (h : d ≠ 0) (k : Nat) : d ^ k ≠ 0 := fun e => Nat.lt_irrefl 0 (by have z := Nat.pow_pos (n := k) (Nat.pos_of_ne_zero h); rw [e] at z; exact z)
/-! ### rational numbers: two fractions of the same worth are made alike -/
theorem make_pos {a : Int} {b : Nat} (h : b ≠ 0) : Rational.make a b = ⟨a / (Nat.gcd a.natAbs b : Nat), b / Nat.gcd a.natAbs b⟩ := if_neg h
theorem nat_make (a : Nat) {b : Nat} (h : b ≠ 0) : Rational.make (a : Int) b = ⟨((a / Nat.gcd a b : Nat) : Int), b / Nat.gcd a b⟩ := by
  rw [make_pos h]
  simp
/-- a fraction, shortened -/
theorem make_scale (a : Nat) {b c : Nat} (hb : b ≠ 0) (hc : c ≠ 0) : Rational.make ((a * c : Nat) : Int) (b * c) = Rational.make (a : Int) b := by
  have hbc : b * c ≠ 0 := Nat.mul_ne_zero hb hc
  rw [nat_make _ hbc, nat_make _ hb, Nat.gcd_mul_right]
  rw [Nat.mul_div_mul_right _ _ (Nat.pos_of_ne_zero hc), Nat.mul_div_mul_right _ _ (Nat.pos_of_ne_zero hc)]
theorem make_cross {a a' b b' : Nat} (hb : b ≠ 0) (hb' : b' ≠ 0) (h : a * b' = a' * b) : Rational.make (a : Int) b = Rational.make (a' : Int) b' := by
  rw [← make_scale a hb hb', h, Nat.mul_comm b b', make_scale a' hb' hb]
/-- numerator and denominator of a fraction in lowest terms: a * den = num * b -/
theorem make_num (a : Nat) {b : Nat} (hb : b ≠ 0) : ∃ n d g : Nat, Rational.make (a : Int) b = ⟨(n : Int), d⟩ ∧ a = n * g ∧ b = d * g ∧ g ≠ 0 ∧ d ≠ 0 := by
  have hg : Nat.gcd a b ≠ 0 := fun e => hb (Nat.eq_zero_of_gcd_eq_zero_right e)
  refine ⟨a / Nat.gcd a b, b / Nat.gcd a b, Nat.gcd a b, nat_make a hb, (Nat.div_mul_cancel (Nat.gcd_dvd_left a b)).symm, (Nat.div_mul_cancel (Nat.gcd_dvd_right a b)).symm, hg, ?_⟩
  intro e
  have := Nat.div_mul_cancel (Nat.gcd_dvd_right a b)
  rw [e, Nat.zero_mul] at this
  exact hb this.symm
theorem add_make (a c : Nat) {b d : Nat} (hb : b ≠ 0) (hd : d ≠ 0) : Rational.add (Rational.make (a : Int) b) (Rational.make (c : Int) d) = Rational.make ((a * d + c * b : Nat) : Int) (b * d) := by
  obtain ⟨n, e, g, q, h1, h2, h3, h4⟩ := make_num a hb
  obtain ⟨n', e', g', q', h1', h2', h3', h4'⟩ := make_num c hd
  rw [q, q']
  show Rational.make ((n : Int) * (e' : Int) + (n' : Int) * (e : Int)) (e * e') = _
  have z : ((n : Int) * (e' : Int) + (n' : Int) * (e : Int)) = ((n * e' + n' * e : Nat) : Int) := by simp
  rw [z]
  refine make_cross (Nat.mul_ne_zero h4 h4') (Nat.mul_ne_zero hb hd) ?_
  subst h1 h2 h1' h2'
  simp only [Nat.add_mul, Nat.mul_add, Nat.mul_assoc, Nat.mul_comm, Nat.mul_left_comm]
theorem mul_make (a c : Nat) {b d : Nat} (hb : b ≠ 0) (hd : d ≠ 0) : Rational.mul (Rational.make (a : Int) b) (Rational.make (c : Int) d) = Rational.make ((a * c : Nat) : Int) (b * d) := by
  obtain ⟨n, e, g, q, h1, h2, h3, h4⟩ := make_num a hb
  obtain ⟨n', e', g', q', h1', h2', h3', h4'⟩ := make_num c hd
  rw [q, q']
  show Rational.make ((n : Int) * (n' : Int)) (e * e') = _
  have z : ((n : Int) * (n' : Int)) = ((n * n' : Nat) : Int) := by simp
  rw [z]
  refine make_cross (Nat.mul_ne_zero h4 h4') (Nat.mul_ne_zero hb hd) ?_
  subst h1 h2 h1' h2'
  simp only [Nat.mul_assoc, Nat.mul_comm, Nat.mul_left_comm]
theorem le_make (a c : Nat) {b d : Nat} (hb : b ≠ 0) (hd : d ≠ 0) : Rational.le (Rational.make (a : Int) b) (Rational.make (c : Int) d) = decide (a * d ≤ c * b) := by
  obtain ⟨n, e, g, q, h1, h2, h3, h4⟩ := make_num a hb
  obtain ⟨n', e', g', q', h1', h2', h3', h4'⟩ := make_num c hd
  rw [q, q']
  show decide ((n : Int) * (e' : Int) ≤ (n' : Int) * (e : Int)) = _
  have z : ((n : Int) * (e' : Int) ≤ (n' : Int) * (e : Int)) ↔ (n * e' ≤ n' * e) := by
    rw [← Int.natCast_mul, ← Int.natCast_mul]
    exact Int.ofNat_le
  rw [Bool.eq_iff_iff, decide_eq_true_iff, decide_eq_true_iff, z]
  subst h1 h2 h1' h2'
  have e1 : n * g * (e' * g') = (n * e') * (g * g') := by simp only [Nat.mul_assoc, Nat.mul_comm, Nat.mul_left_comm]
  have e2 : n' * g' * (e * g) = (n' * e) * (g * g') := by simp only [Nat.mul_assoc, Nat.mul_comm, Nat.mul_left_comm]
  rw [e1, e2]
  exact (Nat.mul_le_mul_right_iff (Nat.pos_of_ne_zero (Nat.mul_ne_zero h3 h3'))).symm
theorem ofNat_make (n : Nat) : Rational.ofNat n = Rational.make (n : Int) 1 := by
  rw [nat_make n (by decide), Nat.gcd_one_right, Nat.div_one] <;> rfl
theorem zero_make : Rational.zero = Rational.make ((0 : Nat) : Int) 1 := by decide
theorem one_make : Rational.one = Rational.make ((1 : Nat) : Int) 1 := by decide
theorem power_make (n : Nat) {d : Nat} (hd : d ≠ 0) : ∀ k, power (Rational.make (n : Int) d) k = Rational.make ((n ^ k : Nat) : Int) (d ^ k)
  | 0 => one_make
  | k + 1 => by
    show Rational.mul (power (Rational.make (n : Int) d) k) (Rational.make (n : Int) d) = _
    rw [power_make n hd k, mul_make _ _ (pow_ne hd _) hd, Nat.pow_succ, Nat.pow_succ]
/-! ### the mirror: lots, weights, sums -/
theorem strength_make (m : Lot) (hd : m.retainedDen ≠ 0) (k : Nat) : strengthIn m k = Rational.make ((m.strength * m.retainedNum ^ k : Nat) : Int) (m.retainedDen ^ k) := by
  show Rational.mul (Rational.ofNat m.strength) (power (Rational.make (m.retainedNum : Int) m.retainedDen) k) = _
  rw [ofNat_make, power_make _ hd, mul_make _ _ (by decide) (pow_ne hd _), Nat.one_mul]
/-- one lot more -/
def addLot (k : Nat) (p : Nat × Nat) (m : Lot) : Nat × Nat := (p.1 * m.retainedDen ^ k + m.weight * m.strength * m.retainedNum ^ k * p.2, p.2 * m.retainedDen ^ k)
def sumLots (k : Nat) (ms : List Lot) : Nat × Nat := ms.foldl (addLot k) (0, 1)
def weightOf (ms : List Lot) : Nat := (ms.map fun m => m.weight).sum
def lowest (a b : Nat) : List Int := [((a / Nat.gcd a b : Nat) : Int), ((b / Nat.gcd a b : Nat) : Int)]
def meanOf (k : Nat) (ms : List Lot) : Nat × Nat := ((sumLots k ms).1, (sumLots k ms).2 * weightOf ms)
theorem sum_fold (k : Nat) : ∀ (ms : List Lot) (p : Nat × Nat), (∀ m ∈ ms, m.retainedDen ≠ 0) → p.2 ≠ 0 →
    ms.foldl (fun total m => total + Rational.ofNat m.weight * strengthIn m k) (Rational.make (p.1 : Int) p.2) = Rational.make ((ms.foldl (addLot k) p).1 : Int) (ms.foldl (addLot k) p).2 ∧ (ms.foldl (addLot k) p).2 ≠ 0
  | [], p, _, hp => ⟨rfl, hp⟩
  | m :: ms, p, h, hp => by
    have hd : m.retainedDen ≠ 0 := h m (List.mem_cons_self ..)
    have hdk : m.retainedDen ^ k ≠ 0 := (pow_ne hd _)
    have e : Rational.make (p.1 : Int) p.2 + Rational.ofNat m.weight * strengthIn m k = Rational.make ((addLot k p m).1 : Int) (addLot k p m).2 := by
      show Rational.add _ (Rational.mul _ _) = _
      rw [ofNat_make, strength_make m hd, mul_make _ _ (by decide) hdk, add_make _ _ hp (by rw [Nat.one_mul]; exact hdk), Nat.one_mul, ← Nat.mul_assoc m.weight] <;> rfl
    rw [List.foldl_cons, List.foldl_cons, e]
    exact sum_fold k ms (addLot k p m) (fun x hx => h x (List.mem_cons_of_mem _ hx)) (Nat.mul_ne_zero hp hdk)
theorem map_foldl {α β γ : Type} (f : γ → β → γ) (g : α → β) : ∀ (l : List α) (z : γ), (l.map g).foldl f z = l.foldl (fun z x => f z (g x)) z
  | [], _ => rfl
  | x :: l, z => map_foldl f g l (f z (g x))
theorem total_make (lots : Lots) (set : List Nat) (k : Nat) (h : ∀ m ∈ set.map (lotAt lots), m.retainedDen ≠ 0) :
    totalStrength lots set k = Rational.make ((sumLots k (set.map (lotAt lots))).1 : Int) (sumLots k (set.map (lotAt lots))).2 ∧ (sumLots k (set.map (lotAt lots))).2 ≠ 0 := by
  have z := sum_fold k (set.map (lotAt lots)) (0, 1) h (by decide)
  rw [map_foldl] at z
  refine ⟨?_, z.2⟩
  rw [← map_foldl] at z
  show set.foldl _ Rational.zero = _
  rw [zero_make]
  rw [map_foldl] at z
  exact z.1
theorem weight_of (lots : Lots) (set : List Nat) : totalWeight lots set = weightOf (set.map (lotAt lots)) := by
  unfold totalWeight weightOf
  rw [List.map_map] <;> rfl
theorem mean_make (lots : Lots) (set : List Nat) (k : Nat) (h : ∀ m ∈ set.map (lotAt lots), m.retainedDen ≠ 0) (hw : weightOf (set.map (lotAt lots)) ≠ 0) :
    meanStrength lots set k = Rational.make ((meanOf k (set.map (lotAt lots))).1 : Int) (meanOf k (set.map (lotAt lots))).2 ∧ (meanOf k (set.map (lotAt lots))).2 ≠ 0 := by
  obtain ⟨z, z2⟩ := total_make lots set k h
  refine ⟨?_, Nat.mul_ne_zero z2 hw⟩
  unfold meanStrength
  rw [weight_of, if_neg hw, z]
  show Rational.mul _ (Rational.make ((1 : Nat) : Int) _) = _
  rw [mul_make _ _ z2 hw, Nat.mul_one] <;> rfl
theorem pairs_make (a : Nat) {b : Nat} (hb : b ≠ 0) : pairs [Rational.make (a : Int) b] = lowest a b := by
  rw [nat_make a hb] <;> rfl
end Fl
namespace Fl
open Ks604
/-! ### the list of numbers as lots -/
def lotF (fs : List Nat) (i : Nat) : Lot := ⟨fs.getD (i * 4) 0, fs.getD (i * 4 + 1) 0, fs.getD (i * 4 + 2) 0, fs.getD (i * 4 + 3) 0⟩
def okLot (m : Lot) : Bool := isValidLot m.weight m.strength m.retainedNum m.retainedDen
def lotsF (fs : List Nat) : List Lot := (List.range (fs.length / 4)).map (lotF fs)
def allOk (fs : List Nat) : Bool := (List.range (fs.length / 4)).all fun i => okLot (lotF fs i)
def okLots (fs : List Nat) : Bool := decide (fs.length % 4 = 0) && decide (fs.length ≤ 24) && allOk fs
theorem lotF_zero (a b c d : Nat) (r : List Nat) : lotF (a :: b :: c :: d :: r) 0 = ⟨a, b, c, d⟩ := rfl
theorem lotF_succ (a b c d : Nat) (r : List Nat) (i : Nat) : lotF (a :: b :: c :: d :: r) (i + 1) = lotF r i := by
  unfold lotF
  have e : (i + 1) * 4 = i * 4 + 1 + 1 + 1 + 1 := by omega
  rw [e]
  rfl
theorem lotsF_cons (a b c d : Nat) (r : List Nat) : lotsF (a :: b :: c :: d :: r) = ⟨a, b, c, d⟩ :: lotsF r := by
  unfold lotsF
  have e : (a :: b :: c :: d :: r).length / 4 = r.length / 4 + 1 := by simp only [List.length_cons]; omega
  rw [e, List.range_succ_eq_map, List.map_cons, List.map_map]
  rw [show List.map (lotF (a :: b :: c :: d :: r) ∘ Nat.succ) (List.range (r.length / 4)) = List.map (lotF r) (List.range (r.length / 4)) from List.map_congr_left fun i _ => lotF_succ a b c d r i] <;> rfl
theorem allOk_cons (a b c d : Nat) (r : List Nat) : allOk (a :: b :: c :: d :: r) = (isValidLot a b c d && allOk r) := by
  unfold allOk
  have e : (a :: b :: c :: d :: r).length / 4 = r.length / 4 + 1 := by simp only [List.length_cons]; omega
  rw [e, List.range_succ_eq_map, List.all_cons, List.all_map]
  rw [show ((fun i => okLot (lotF (a :: b :: c :: d :: r) i)) ∘ Nat.succ) = fun i => okLot (lotF r i) from funext fun i => congrArg okLot (lotF_succ a b c d r i)] <;> rfl
theorem parse_eq : ∀ fs : List Nat, parseLots fs = if fs.length % 4 = 0 ∧ allOk fs = true then some (lotsF fs) else none
  | [] => rfl
  | [_] => rfl
  | [_, _] => rfl
  | [_, _, _] => rfl
  | a :: b :: c :: d :: r => by
    have ih := parse_eq r
    have e : (a :: b :: c :: d :: r).length % 4 = r.length % 4 := by simp only [List.length_cons]; omega
    show (if isValidLot a b c d = true then (parseLots r).map fun lots => (⟨a, b, c, d⟩ : Lot) :: lots else none) = _
    rw [ih, e, allOk_cons, lotsF_cons]
    by_cases h : isValidLot a b c d = true
    · by_cases h2 : r.length % 4 = 0 ∧ allOk r = true
      · rw [if_pos h, if_pos h2, if_pos ⟨h2.1, by rw [h, h2.2] <;> rfl⟩] <;> rfl
      · rw [if_pos h, if_neg h2, if_neg (fun z => h2 ⟨z.1, (Bool.and_eq_true_iff.mp z.2).2⟩)] <;> rfl
    · rw [if_neg h, if_neg (fun z => h (Bool.and_eq_true_iff.mp z.2).1)]
theorem lotsF_len (fs : List Nat) : (lotsF fs).length = fs.length / 4 := by simp [lotsF]
theorem okLots_iff (fs : List Nat) : okLots fs = true ↔ (fs.length % 4 = 0 ∧ allOk fs = true) ∧ ¬ 6 < fs.length / 4 := by
  unfold okLots
  rw [Bool.and_eq_true, Bool.and_eq_true, decide_eq_true_iff, decide_eq_true_iff]
  constructor
  · rintro ⟨⟨a, b⟩, c⟩
    exact ⟨⟨a, c⟩, by omega⟩
  · rintro ⟨⟨a, c⟩, b⟩
    exact ⟨⟨a, by omega⟩, c⟩
theorem withLots_eq (fs : List Nat) (g : Lots → Result) : withLots fs g = if okLots fs = true then g (lotsF fs) else number (-22) := by
  unfold withLots
  rw [parse_eq]
  by_cases h : okLots fs = true
  · have h' := (okLots_iff fs).mp h
    rw [if_pos h, if_pos h'.1]
    show (if 6 < (lotsF fs).length then _ else _) = _
    rw [lotsF_len, if_neg h'.2]
  · rw [if_neg h]
    by_cases h1 : fs.length % 4 = 0 ∧ allOk fs = true
    · rw [if_pos h1]
      show (if 6 < (lotsF fs).length then _ else _) = _
      rw [lotsF_len, if_pos (Decidable.byContradiction fun z => h ((okLots_iff fs).mpr ⟨h1, z⟩))]
    · rw [if_neg h1]
theorem lotAt_eq {fs : List Nat} {i : Nat} (h : i < fs.length / 4) : lotAt (lotsF fs) i = lotF fs i := by
  unfold lotAt
  rw [List.getD_eq_getElem?_getD]
  unfold lotsF
  rw [List.getElem?_map, List.getElem?_range h] <;> rfl
/-! ### sets -/
def chosenF (mask : Nat) (fs : List Nat) : List Lot := ((List.range (fs.length / 4)).filter fun i => mask.testBit i).map (lotF fs)
theorem chosen_eq (mask : Nat) (fs : List Nat) : (members (lotsF fs).length mask).map (lotAt (lotsF fs)) = chosenF mask fs := by
  unfold members chosenF
  rw [lotsF_len]
  refine List.map_congr_left fun i hi => lotAt_eq ?_
  exact List.mem_range.mp (List.mem_filter.mp hi).1
theorem ok_of {fs : List Nat} (h : okLots fs = true) {i : Nat} (hi : i < fs.length / 4) : okLot (lotF fs i) = true := by
  have q := ((okLots_iff fs).mp h).1.2
  unfold allOk at q
  exact List.all_eq_true.mp q i (List.mem_range.mpr hi)
theorem okLot_iff {m : Lot} : okLot m = true ↔ m.weight ≤ 99 ∧ m.strength ≤ 999 ∧ 1 ≤ m.retainedNum ∧ m.retainedNum ≤ m.retainedDen ∧ m.retainedDen ≤ 20 := by
  unfold okLot isValidLot
  simp only [Bool.and_eq_true, decide_eq_true_iff]
  constructor
  · rintro ⟨⟨⟨⟨a, b⟩, c⟩, d⟩, e⟩
    exact ⟨a, b, c, d, e⟩
  · rintro ⟨a, b, c, d, e⟩
    exact ⟨⟨⟨⟨a, b⟩, c⟩, d⟩, e⟩
theorem chosen_ok {mask : Nat} {fs : List Nat} (h : okLots fs = true) : ∀ m ∈ chosenF mask fs, okLot m = true := fun m hm => by
  unfold chosenF at hm
  obtain ⟨i, hi, rfl⟩ := List.mem_map.mp hm
  exact ok_of h (List.mem_range.mp (List.mem_filter.mp hi).1)
theorem chosen_den {mask : Nat} {fs : List Nat} (h : okLots fs = true) : ∀ m ∈ chosenF mask fs, m.retainedDen ≠ 0 := fun m hm => by
  have := okLot_iff.mp (chosen_ok h m hm)
  omega
theorem withSet_eq (fs : List Nat) (mask : Nat) (g : List Nat → Result) :
    withSet (lotsF fs) mask g = if mask / 2 ^ (fs.length / 4) ≠ 0 then number (-22) else if weightOf (chosenF mask fs) = 0 then number (-6) else g (members (lotsF fs).length mask) := by
  unfold withSet
  rw [weight_of, chosen_eq, lotsF_len]
  by_cases h : 2 ^ (fs.length / 4) ≤ mask
  · rw [if_pos h, if_pos]
    exact Nat.pos_iff_ne_zero.mp (Nat.div_pos h (Nat.pow_pos (by decide)))
  · rw [if_neg h, if_neg (show ¬ mask / 2 ^ (fs.length / 4) ≠ 0 from fun z => z (Nat.div_eq_of_lt (Nat.lt_of_not_le h)))]
/-! ### the refusals -/
def refusal (mask number most : Nat) (fs : List Nat) : Int :=
  if okLots fs = true then if most < number then -22 else if mask / 2 ^ (fs.length / 4) ≠ 0 then -22 else if weightOf (chosenF mask fs) = 0 then -6 else 0 else -22
theorem refusal_zero {mask number most : Nat} {fs : List Nat} (h : refusal mask number most fs = 0) : okLots fs = true ∧ ¬ most < number ∧ ¬ mask / 2 ^ (fs.length / 4) ≠ 0 ∧ weightOf (chosenF mask fs) ≠ 0 := by
  unfold refusal at h
  by_cases h1 : okLots fs = true
  · rw [if_pos h1] at h
    by_cases h2 : most < number
    · rw [if_pos h2] at h
      cases h
    · rw [if_neg h2] at h
      by_cases h3 : mask / 2 ^ (fs.length / 4) ≠ 0
      · rw [if_pos h3] at h
        cases h
      · rw [if_neg h3] at h
        by_cases h4 : weightOf (chosenF mask fs) = 0
        · rw [if_pos h4] at h
          cases h
        · exact ⟨h1, h2, h3, h4⟩
  · rw [if_neg h1] at h
    cases h
theorem checked (mask number most : Nat) (fs : List Nat) (g : List Nat → Result) :
    Ks604Neutral.integers (withLots fs fun lots => if most < number then Ks604.number (-22) else withSet lots mask g) = if refusal mask number most fs = 0 then Ks604Neutral.integers (g (members (lotsF fs).length mask)) else [refusal mask number most fs] := by
  rw [withLots_eq]
  by_cases h1 : okLots fs = true
  · rw [if_pos h1]
    by_cases h2 : most < number
    · have e : refusal mask number most fs = -22 := by unfold refusal; rw [if_pos h1, if_pos h2]
      rw [if_pos h2, e] <;> rfl
    · rw [if_neg h2, withSet_eq]
      by_cases h3 : mask / 2 ^ (fs.length / 4) ≠ 0
      · have e : refusal mask number most fs = -22 := by unfold refusal; rw [if_pos h1, if_neg h2, if_pos h3]
        rw [if_pos h3, e] <;> rfl
      · rw [if_neg h3]
        by_cases h4 : weightOf (chosenF mask fs) = 0
        · have e : refusal mask number most fs = -6 := by unfold refusal; rw [if_pos h1, if_neg h2, if_neg h3, if_pos h4]
          rw [if_pos h4, e] <;> rfl
        · have e : refusal mask number most fs = 0 := by unfold refusal; rw [if_pos h1, if_neg h2, if_neg h3, if_neg h4]
          rw [if_neg h4, e] <;> rfl
  · have e : refusal mask number most fs = -22 := by unfold refusal; rw [if_neg h1]
    rw [if_neg h1, e] <;> rfl
/-! ### mean_strength -/
def cast (fs : List Nat) : List Int := fs.map fun (n : Nat) => (n : Int)
theorem cast_back (fs : List Nat) : (cast fs).map Int.toNat = fs := by
  unfold cast
  rw [List.map_map]
  conv => rhs; rw [← List.map_id fs]
  exact List.map_congr_left fun n _ => Int.toNat_natCast n
def meanL (k : Nat) (ms : List Lot) : List Int := lowest (meanOf k ms).1 (meanOf k ms).2
def meanAns (mask month : Nat) (fs : List Nat) : List Int := if refusal mask month 40 fs = 0 then 0 :: meanL month (chosenF mask fs) else [refusal mask month 40 fs]
theorem mean_is (mask month : Nat) (fs : List Nat) : PyKs604.mean_strength mask month (cast fs) = meanAns mask month fs := by
  show Ks604Neutral.integers (answer (.meanStrength (Int.toNat (mask : Int)) (Int.toNat (month : Int)) ((cast fs).map Int.toNat))) = _
  rw [Int.toNat_natCast, Int.toNat_natCast, cast_back]
  show Ks604Neutral.integers (withLots fs fun lots => if 40 < month then number (-22) else withSet lots mask fun set => { value := 0, rest := pairs [meanStrength lots set month] }) = _
  unfold meanAns
  by_cases h : refusal mask month 40 fs = 0
  · obtain ⟨h1, h2, h3, h4⟩ := refusal_zero h
    have z := checked mask month 40 fs fun set => { value := 0, rest := pairs [meanStrength (lotsF fs) set month] }
    rw [withLots_eq, if_pos h1] at z ⊢
    rw [z, if_pos h, if_pos h]
    have hc := chosen_eq mask fs
    obtain ⟨m1, m2⟩ := mean_make (lotsF fs) (members (lotsF fs).length mask) month (by rw [hc]; exact chosen_den h1) (by rw [hc]; exact h4)
    rw [hc] at m1 m2
    show 0 :: pairs _ = _
    rw [m1, pairs_make _ m2] <;> rfl
  · have z := checked mask month 40 fs fun set => { value := 0, rest := pairs [meanStrength (lotsF fs) set month] }
    by_cases h1 : okLots fs = true
    · rw [withLots_eq, if_pos h1] at z ⊢
      rw [z, if_neg h, if_neg h]
    · have e : refusal mask month 40 fs = -22 := by unfold refusal; rw [if_neg h1]
      rw [withLots_eq, if_neg h1, if_neg h, e] <;> rfl
/-! ### last_month_at -/
/-- the last of the first n that passes -/
def lastOf (p : Nat → Bool) : Nat → Option Nat
  | 0 => none
  | n + 1 => if p n = true then some n else lastOf p n
theorem last_filter (p : Nat → Bool) : ∀ n, ((List.range n).filter p).getLast? = lastOf p n
  | 0 => rfl
  | n + 1 => by
    rw [List.range_succ, List.filter_append]
    unfold lastOf
    by_cases h : p n = true
    · rw [if_pos h, List.filter_cons, if_pos h, List.filter_nil, List.getLast?_append] <;> rfl
    · rw [if_neg h, List.filter_cons, if_neg h, List.filter_nil, List.append_nil]
      exact last_filter p n
def keeps (ms : List Lot) (t k : Nat) : Bool := decide (t * ((meanOf k ms).2 / Nat.gcd (meanOf k ms).1 (meanOf k ms).2) ≤ (meanOf k ms).1 / Nat.gcd (meanOf k ms).1 (meanOf k ms).2)
def lastAns (mask t : Nat) (fs : List Nat) : List Int := if refusal mask t 999 fs = 0 then (match lastOf (keeps (chosenF mask fs) t) 41 with | none => [-33] | some k => [(k : Int)]) else [refusal mask t 999 fs]
theorem last_is (mask t : Nat) (fs : List Nat) : PyKs604.last_month_at mask t (cast fs) = lastAns mask t fs := by
  show Ks604Neutral.integers (answer (.lastMonthAt (Int.toNat (mask : Int)) (Int.toNat (t : Int)) ((cast fs).map Int.toNat))) = _
  rw [Int.toNat_natCast, Int.toNat_natCast, cast_back]
  show Ks604Neutral.integers (withLots fs fun lots => if 999 < t then number (-22) else withSet lots mask fun set => match lastMonthAt lots set t with | none => number (-33) | some month => number month) = _
  unfold lastAns
  by_cases h : refusal mask t 999 fs = 0
  · obtain ⟨h1, h2, h3, h4⟩ := refusal_zero h
    have z := checked mask t 999 fs fun set => match lastMonthAt (lotsF fs) set t with | none => number (-33) | some month => number month
    rw [withLots_eq, if_pos h1] at z ⊢
    rw [z, if_pos h, if_pos h]
    have hc := chosen_eq mask fs
    have e : lastMonthAt (lotsF fs) (members (lotsF fs).length mask) t = lastOf (keeps (chosenF mask fs) t) 41 := by
      unfold lastMonthAt
      rw [last_filter]
      refine congrArg (fun p => lastOf p 41) (funext fun k => ?_)
      obtain ⟨m1, m2⟩ := mean_make (lotsF fs) (members (lotsF fs).length mask) k (by rw [hc]; exact chosen_den h1) (by rw [hc]; exact h4)
      rw [hc] at m1 m2
      rw [m1, nat_make _ m2]
      show decide ((t : Int) * ((_ : Nat) : Int) ≤ ((_ : Nat) : Int) * (1 : Nat)) = _
      unfold keeps
      rw [Bool.eq_iff_iff, decide_eq_true_iff, decide_eq_true_iff, ← Int.natCast_mul, ← Int.natCast_mul, Int.ofNat_le, Nat.mul_one]
    rw [e]
    cases lastOf (keeps (chosenF mask fs) t) 41 <;> rfl
  · have z := checked mask t 999 fs fun set => match lastMonthAt (lotsF fs) set t with | none => number (-33) | some month => number month
    by_cases h1 : okLots fs = true
    · rw [withLots_eq, if_pos h1] at z ⊢
      rw [z, if_neg h, if_neg h]
    · have e : refusal mask t 999 fs = -22 := by unfold refusal; rw [if_neg h1]
      rw [withLots_eq, if_neg h1, if_neg h, e] <;> rfl
end Fl
namespace Fl
open Ks604
/-! ### comparing fractions in lowest terms and as they are -/
theorem lowest_le (t a : Nat) {b : Nat} (hb : b ≠ 0) : decide (t * (b / Nat.gcd a b) ≤ a / Nat.gcd a b) = decide (t * b ≤ a) := by
  have hg : 0 < Nat.gcd a b := Nat.gcd_pos_of_pos_right a (Nat.pos_of_ne_zero hb)
  have ea := Nat.div_mul_cancel (Nat.gcd_dvd_left a b)
  have eb := Nat.div_mul_cancel (Nat.gcd_dvd_right a b)
  rw [Bool.eq_iff_iff, decide_eq_true_iff, decide_eq_true_iff]
  generalize Nat.gcd a b = g at *
  generalize a / g = x at *
  generalize b / g = y at *
  subst ea eb
  rw [← Nat.mul_assoc]
  exact (Nat.mul_le_mul_right_iff hg).symm
theorem keeps_raw {ms : List Lot} {t k : Nat} (h : (meanOf k ms).2 ≠ 0) : keeps ms t k = decide (t * (meanOf k ms).2 ≤ (meanOf k ms).1) := lowest_le t _ h
theorem lowest_cross {a a' b b' : Nat} (hb : b ≠ 0) (hb' : b' ≠ 0) (h : a * b' = a' * b) : lowest a b = lowest a' b' := by
  rw [← pairs_make a hb, ← pairs_make a' hb', make_cross hb hb' h]
/-! ### retention -/
theorem make_zero {b : Nat} (hb : b ≠ 0) : Rational.make ((0 : Nat) : Int) b = Rational.zero := by
  rw [nat_make 0 hb, Nat.zero_div, Nat.gcd_zero_left, Nat.div_self (Nat.pos_of_ne_zero hb)] <;> rfl
theorem make_eq_zero {a b : Nat} (hb : b ≠ 0) : Rational.make (a : Int) b = Rational.zero ↔ a = 0 := by
  constructor
  · intro h
    obtain ⟨n, d, g, q, h1, h2, h3, h4⟩ := make_num a hb
    rw [q] at h
    have e : (n : Int) = 0 := congrArg Rational.num h
    have e2 : n = 0 := by omega
    rw [h1, e2, Nat.zero_mul]
  · intro h
    rw [h, make_zero hb]
theorem inverse_make {a b : Nat} (ha : a ≠ 0) (hb : b ≠ 0) : Rational.inverse (Rational.make (a : Int) b) = Rational.make (b : Int) a := by
  obtain ⟨n, d, g, q, h1, h2, h3, h4⟩ := make_num a hb
  have hn : n ≠ 0 := fun e => ha (by rw [h1, e, Nat.zero_mul])
  rw [q]
  unfold Rational.inverse
  rw [if_neg (show ¬ (n : Int) = 0 by omega), if_neg (show ¬ (n : Int) < 0 by omega)]
  show Rational.make (d : Int) ((n : Int)).natAbs = _
  rw [Int.natAbs_natCast]
  refine make_cross hn ha ?_
  subst h1 h2
  simp only [Nat.mul_assoc, Nat.mul_comm, Nat.mul_left_comm]
theorem div_make (a : Nat) {b c d : Nat} (hb : b ≠ 0) (hc : c ≠ 0) (hd : d ≠ 0) : Rational.div (Rational.make (a : Int) b) (Rational.make (c : Int) d) = Rational.make ((a * d : Nat) : Int) (b * c) := by
  unfold Rational.div
  rw [inverse_make hc hd, mul_make _ _ hb hc]
theorem retention_make (lots : Lots) (set : List Nat) (k : Nat) (h : ∀ m ∈ set.map (lotAt lots), m.retainedDen ≠ 0) (h0 : (sumLots k (set.map (lotAt lots))).1 ≠ 0) :
    retention lots set k = Rational.make (((sumLots (k + 1) (set.map (lotAt lots))).1 * (sumLots k (set.map (lotAt lots))).2 : Nat) : Int) ((sumLots (k + 1) (set.map (lotAt lots))).2 * (sumLots k (set.map (lotAt lots))).1) := by
  obtain ⟨a1, a2⟩ := total_make lots set (k + 1) h
  obtain ⟨b1, b2⟩ := total_make lots set k h
  show Rational.div _ _ = _
  rw [a1, b1, div_make _ a2 h0 b2]
/-- the answer in whole numbers: of the sums of both months -/
def retOf (k : Nat) (ms : List Lot) : List Int := lowest ((sumLots (k + 1) ms).1 * (sumLots k ms).2) ((sumLots (k + 1) ms).2 * (sumLots k ms).1)
def retAns (mask month : Nat) (fs : List Nat) : List Int :=
  if refusal mask month 39 fs = 0 then if (sumLots month (chosenF mask fs)).1 = 0 then [-33] else 0 :: retOf month (chosenF mask fs) else [refusal mask month 39 fs]
theorem retention_is (mask month : Nat) (fs : List Nat) : PyKs604.retention mask month (cast fs) = retAns mask month fs := by
  show Ks604Neutral.integers (answer (.retention (Int.toNat (mask : Int)) (Int.toNat (month : Int)) ((cast fs).map Int.toNat))) = _
  rw [Int.toNat_natCast, Int.toNat_natCast, cast_back]
  have q : Ks604Neutral.integers (answer (.retention mask month fs)) = Ks604Neutral.integers (withLots fs fun lots => if 39 < month then number (-22) else withSet lots mask fun set => if totalStrength lots set month = Rational.zero then number (-33) else { value := 0, rest := pairs [retention lots set month] }) := rfl
  rw [q]
  unfold retAns
  by_cases h : refusal mask month 39 fs = 0
  · obtain ⟨h1, h2, h3, h4⟩ := refusal_zero h
    have z := checked mask month 39 fs fun set => if totalStrength (lotsF fs) set month = Rational.zero then number (-33) else { value := 0, rest := pairs [retention (lotsF fs) set month] }
    rw [withLots_eq, if_pos h1] at z ⊢
    rw [z, if_pos h, if_pos h]
    have hc := chosen_eq mask fs
    have hd : ∀ m ∈ (members (lotsF fs).length mask).map (lotAt (lotsF fs)), m.retainedDen ≠ 0 := by rw [hc]; exact chosen_den h1
    obtain ⟨m1, m2⟩ := total_make (lotsF fs) (members (lotsF fs).length mask) month hd
    obtain ⟨n1, n2⟩ := total_make (lotsF fs) (members (lotsF fs).length mask) (month + 1) hd
    by_cases c : (sumLots month (chosenF mask fs)).1 = 0
    · have c' : totalStrength (lotsF fs) (members (lotsF fs).length mask) month = Rational.zero := by rw [m1, make_eq_zero m2, hc]; exact c
      rw [if_pos c, if_pos c'] <;> rfl
    · have c' : ¬ totalStrength (lotsF fs) (members (lotsF fs).length mask) month = Rational.zero := by rw [m1, make_eq_zero m2, hc]; exact c
      rw [if_neg c, if_neg c']
      show 0 :: pairs [retention _ _ _] = _
      rw [retention_make _ _ _ hd (by rw [hc]; exact c), pairs_make _ (Nat.mul_ne_zero n2 (by rw [hc]; exact c)), hc] <;> rfl
  · have z := checked mask month 39 fs fun set => if totalStrength (lotsF fs) set month = Rational.zero then number (-33) else { value := 0, rest := pairs [retention (lotsF fs) set month] }
    by_cases h1 : okLots fs = true
    · rw [withLots_eq, if_pos h1] at z ⊢
      rw [z, if_neg h, if_neg h]
    · have e : refusal mask month 39 fs = -22 := by unfold refusal; rw [if_neg h1]
      rw [withLots_eq, if_neg h1, if_neg h, e] <;> rfl
/-! ### first_month_reduced -/
/-- the first of i, i + 1, .., i + n - 1 that passes -/
def firstOf (p : Nat → Bool) : Nat → Nat → Option Nat
  | _, 0 => none
  | i, n + 1 => if p i = true then some i else firstOf p (i + 1) n
theorem find_range' (p : Nat → Bool) : ∀ n i, (List.range' i n).find? p = firstOf p i n
  | 0, _ => rfl
  | n + 1, i => by
    rw [List.range'_succ, List.find?_cons]
    unfold firstOf
    cases h : p i with
    | true => simp
    | false =>
      simp
      exact find_range' p n (i + 1)
theorem find_range (p : Nat → Bool) (n : Nat) : (List.range n).find? p = firstOf p 0 n := by
  rw [List.range_eq_range', find_range']
/-- factor times the mean in the month is at most the mean in month 0 -/
def reduced (ms : List Lot) (f k : Nat) : Bool := decide (f * (meanOf k ms).1 * (meanOf 0 ms).2 ≤ (meanOf 0 ms).1 * (meanOf k ms).2)
/-- which of lots, month or factor is refused; factor is from 1 to 99 -/
def refusalF (mask factor : Nat) (fs : List Nat) : Int := if okLots fs = true then if factor < 1 then -22 else refusal mask factor 99 fs else -22
def firstAns (mask factor : Nat) (fs : List Nat) : List Int := if refusalF mask factor fs = 0 then (match firstOf (reduced (chosenF mask fs) factor) 0 41 with | none => [-33] | some k => [(k : Int)]) else [refusalF mask factor fs]
theorem first_is (mask factor : Nat) (fs : List Nat) : PyKs604.first_month_reduced mask factor (cast fs) = firstAns mask factor fs := by
  show Ks604Neutral.integers (answer (.firstMonthReduced (Int.toNat (mask : Int)) (Int.toNat (factor : Int)) ((cast fs).map Int.toNat))) = _
  rw [Int.toNat_natCast, Int.toNat_natCast, cast_back]
  show Ks604Neutral.integers (withLots fs fun lots => if factor < 1 ∨ 99 < factor then number (-22) else withSet lots mask fun set => match firstMonthReduced lots set factor with | none => number (-33) | some month => number month) = _
  unfold firstAns
  by_cases h1 : okLots fs = true
  · rw [withLots_eq, if_pos h1]
    by_cases c : factor < 1
    · have e : refusalF mask factor fs = -22 := by unfold refusalF; rw [if_pos h1, if_pos c]
      rw [e, if_pos (Or.inl c)] <;> rfl
    · have e : refusalF mask factor fs = refusal mask factor 99 fs := by unfold refusalF; rw [if_pos h1, if_neg c]
      have z := checked mask factor 99 fs fun set => match firstMonthReduced (lotsF fs) set factor with | none => number (-33) | some month => number month
      rw [withLots_eq, if_pos h1] at z
      have e2 : (if factor < 1 ∨ 99 < factor then number (-22) else withSet (lotsF fs) mask fun set => match firstMonthReduced (lotsF fs) set factor with | none => number (-33) | some month => number month) = (if 99 < factor then number (-22) else withSet (lotsF fs) mask fun set => match firstMonthReduced (lotsF fs) set factor with | none => number (-33) | some month => number month) := by
        by_cases c2 : 99 < factor
        · rw [if_pos c2, if_pos (Or.inr c2)]
        · rw [if_neg c2, if_neg (fun x => x.elim c c2)]
      rw [e2, z, e]
      by_cases h : refusal mask factor 99 fs = 0
      · obtain ⟨_, h2, h3, h4⟩ := refusal_zero h
        rw [if_pos h, if_pos h]
        have hc := chosen_eq mask fs
        have e3 : firstMonthReduced (lotsF fs) (members (lotsF fs).length mask) factor = firstOf (reduced (chosenF mask fs) factor) 0 41 := by
          unfold firstMonthReduced
          rw [find_range]
          refine congrArg (fun p => firstOf p 0 41) (funext fun k => ?_)
          obtain ⟨m1, m2⟩ := mean_make (lotsF fs) (members (lotsF fs).length mask) k (by rw [hc]; exact chosen_den h1) (by rw [hc]; exact h4)
          obtain ⟨n1, n2⟩ := mean_make (lotsF fs) (members (lotsF fs).length mask) 0 (by rw [hc]; exact chosen_den h1) (by rw [hc]; exact h4)
          rw [hc] at m1 m2 n1 n2
          show Rational.le (Rational.mul _ _) _ = _
          rw [m1, n1, ofNat_make, mul_make _ _ (by decide) m2, le_make _ _ (by rw [Nat.one_mul]; exact m2) n2, Nat.one_mul] <;> rfl
        rw [e3]
        cases firstOf (reduced (chosenF mask fs) factor) 0 41 <;> rfl
      · rw [if_neg h, if_neg h]
  · have e : refusalF mask factor fs = -22 := by unfold refusalF; rw [if_neg h1]
    rw [withLots_eq, if_neg h1, e] <;> rfl
/-! ### heaviest_set -/
/-- the set's mean strength is at least the threshold, said without a division -/
def reaches (t k : Nat) (ms : List Lot) : Bool := decide (t * weightOf ms * (sumLots k ms).2 ≤ (sumLots k ms).1)
/-- one set more -/
def better (t k : Nat) (fs : List Nat) (best mask : Nat) : Nat := if (reaches t k (chosenF mask fs) && decide (weightOf (chosenF best fs) < weightOf (chosenF mask fs))) = true then mask else best
def bestOf (t k : Nat) (fs : List Nat) (n : Nat) : Nat := (List.range n).foldl (better t k fs) 0
theorem best_step (t k : Nat) (fs : List Nat) (n : Nat) : bestOf t k fs (n + 1) = better t k fs (bestOf t k fs n) n := by
  unfold bestOf
  rw [List.range_succ, List.foldl_append] <;> rfl
def heavyAns (t k : Nat) (fs : List Nat) : List Int :=
  if okLots fs = true then if 999 < t ∨ 40 < k then [-22] else [((weightOf (chosenF (bestOf t k fs (2 ^ (fs.length / 4))) fs) : Nat) : Int), ((bestOf t k fs (2 ^ (fs.length / 4)) : Nat) : Int)] else [-22]
theorem heaviest_eq {t k : Nat} {fs : List Nat} (h1 : okLots fs = true) : heaviestSet (lotsF fs) t k = bestOf t k fs (2 ^ (fs.length / 4)) := by
  unfold heaviestSet bestOf
  rw [lotsF_len]
  refine congrArg (fun f => List.foldl f 0 (List.range (2 ^ (fs.length / 4)))) (funext fun best => funext fun mask => ?_)
  unfold better
  have hc : ∀ m, (members (fs.length / 4) m).map (lotAt (lotsF fs)) = chosenF m fs := fun m => by
    have := chosen_eq m fs
    rw [lotsF_len] at this
    exact this
  obtain ⟨m1, m2⟩ := total_make (lotsF fs) (members (fs.length / 4) mask) k (by rw [hc]; exact chosen_den h1)
  dsimp only
  rw [m1, weight_of, weight_of, hc, hc]
  rw [hc] at m2
  have e : Rational.le (Rational.ofNat t * Rational.ofNat (weightOf (chosenF mask fs))) (Rational.make (((sumLots k (chosenF mask fs)).1 : Nat) : Int) (sumLots k (chosenF mask fs)).2) = reaches t k (chosenF mask fs) := by
    show Rational.le (Rational.mul _ _) _ = _
    rw [ofNat_make, ofNat_make, mul_make _ _ (by decide) (by decide), le_make _ _ (by decide) m2, Nat.mul_one] <;> rfl
  rw [e]
theorem heaviest_is (t k : Nat) (fs : List Nat) : PyKs604.heaviest_set t k (cast fs) = heavyAns t k fs := by
  show Ks604Neutral.integers (answer (.heaviestSet (Int.toNat (t : Int)) (Int.toNat (k : Int)) ((cast fs).map Int.toNat))) = _
  rw [Int.toNat_natCast, Int.toNat_natCast, cast_back]
  show Ks604Neutral.integers (withLots fs fun lots => if 999 < t ∨ 40 < k then number (-22) else { value := totalWeight lots (members lots.length (heaviestSet lots t k)), rest := integers [heaviestSet lots t k] }) = _
  unfold heavyAns
  rw [withLots_eq]
  by_cases h1 : okLots fs = true
  · rw [if_pos h1, if_pos h1]
    by_cases c : 999 < t ∨ 40 < k
    · rw [if_pos c, if_pos c] <;> rfl
    · rw [if_neg c, if_neg c, heaviest_eq h1, weight_of, chosen_eq] <;> rfl
  · rw [if_neg h1, if_neg h1] <;> rfl
end Fl
namespace Fl
open Ks604
/-! ### order_by_strength -/
theorem lt_make (a c : Nat) {b d : Nat} (hb : b ≠ 0) (hd : d ≠ 0) : Rational.lt (Rational.make (a : Int) b) (Rational.make (c : Int) d) = decide (a * d < c * b) := by
  have h := le_make c a hd hb
  have e : ∀ x y : Rational, Rational.lt x y = !Rational.le y x := fun x y => by
    unfold Rational.lt Rational.le
    rw [Bool.eq_iff_iff, Bool.not_eq_true', decide_eq_true_iff, decide_eq_false_iff_not]
    omega
  rw [e, h, Bool.eq_iff_iff, Bool.not_eq_true', decide_eq_true_iff, decide_eq_false_iff_not]
  omega
theorem make_inj (a c : Nat) {b d : Nat} (hb : b ≠ 0) (hd : d ≠ 0) : Rational.make (a : Int) b = Rational.make (c : Int) d ↔ a * d = c * b := by
  constructor
  · intro h
    have h1 := le_make a c hb hd
    have h2 := le_make c a hd hb
    rw [h] at h1 h2
    have e : ∀ x : Rational, Rational.le x x = true := fun x => decide_eq_true (Int.le_refl _)
    rw [e] at h1 h2
    have l1 := of_decide_eq_true h1.symm
    have l2 := of_decide_eq_true h2.symm
    omega
  · exact make_cross hb hd
/-- the strength in a month as a fraction -/
def strTop (k : Nat) (m : Lot) : Nat := m.strength * m.retainedNum ^ k
def strBot (k : Nat) (m : Lot) : Nat := m.retainedDen ^ k
/-- lot i stands ahead of lot j -/
def ahead (k : Nat) (fs : List Nat) (i j : Nat) : Bool :=
  decide (strTop k (lotF fs j) * strBot k (lotF fs i) < strTop k (lotF fs i) * strBot k (lotF fs j)) || (decide (strTop k (lotF fs j) * strBot k (lotF fs i) = strTop k (lotF fs i) * strBot k (lotF fs j)) && decide (i < j))
def putIn (p : Nat → Nat → Bool) (i : Nat) : List Nat → List Nat
  | [] => [i]
  | j :: r => if p i j = true then i :: j :: r else j :: putIn p i r
def orderOf (p : Nat → Nat → Bool) (l : List Nat) : List Nat := l.foldr (putIn p) []
theorem mem_putIn {p : Nat → Nat → Bool} {i x : Nat} : ∀ {l : List Nat}, x ∈ putIn p i l → x = i ∨ x ∈ l
  | [], h => by
    rw [show putIn p i [] = [i] from rfl] at h
    exact Or.inl (List.mem_singleton.mp h)
  | j :: r, h => by
    unfold putIn at h
    split at h
    · exact List.mem_cons.mp h
    · rcases List.mem_cons.mp h with h | h
      · exact Or.inr (List.mem_cons.mpr (Or.inl h))
      · rcases mem_putIn h with h | h
        · exact Or.inl h
        · exact Or.inr (List.mem_cons_of_mem _ h)
theorem mem_orderOf {p : Nat → Nat → Bool} {x : Nat} : ∀ {l : List Nat}, x ∈ orderOf p l → x ∈ l
  | [], h => h
  | i :: r, h => by
    rcases mem_putIn (show x ∈ putIn p i (orderOf p r) from h) with h | h
    · exact List.mem_cons.mpr (Or.inl h)
    · exact List.mem_cons_of_mem _ (mem_orderOf h)
theorem insert_eq {fs : List Nat} {k i : Nat} (h1 : okLots fs = true) (hi : i < fs.length / 4) : ∀ {l : List Nat}, (∀ j ∈ l, j < fs.length / 4) → insertByStrength (lotsF fs) k i l = putIn (ahead k fs) i l
  | [], _ => rfl
  | j :: r, h => by
    have hj := h j (List.mem_cons_self ..)
    have di : (lotF fs i).retainedDen ≠ 0 := by have := okLot_iff.mp (ok_of h1 hi); omega
    have dj : (lotF fs j).retainedDen ≠ 0 := by have := okLot_iff.mp (ok_of h1 hj); omega
    unfold insertByStrength putIn
    rw [insert_eq h1 hi fun x hx => h x (List.mem_cons_of_mem _ hx), lotAt_eq hi, lotAt_eq hj, strength_make _ di, strength_make _ dj]
    have e : (Rational.lt (Rational.make (((lotF fs j).strength * (lotF fs j).retainedNum ^ k : Nat) : Int) ((lotF fs j).retainedDen ^ k)) (Rational.make (((lotF fs i).strength * (lotF fs i).retainedNum ^ k : Nat) : Int) ((lotF fs i).retainedDen ^ k)) = true ∨
        (Rational.make (((lotF fs j).strength * (lotF fs j).retainedNum ^ k : Nat) : Int) ((lotF fs j).retainedDen ^ k) = Rational.make (((lotF fs i).strength * (lotF fs i).retainedNum ^ k : Nat) : Int) ((lotF fs i).retainedDen ^ k) ∧ i < j)) ↔ ahead k fs i j = true := by
      rw [lt_make _ _ (pow_ne dj k) (pow_ne di k), make_inj _ _ (pow_ne dj k) (pow_ne di k)]
      unfold ahead
      simp only [Bool.or_eq_true, Bool.and_eq_true, decide_eq_true_iff]
      exact Iff.rfl
    by_cases c : ahead k fs i j = true
    · rw [if_pos c, if_pos (e.mpr c)]
    · rw [if_neg c, if_neg (fun z => c (e.mp z))]
theorem foldr_eq {fs : List Nat} {k : Nat} (h1 : okLots fs = true) : ∀ {l : List Nat}, (∀ j ∈ l, j < fs.length / 4) → l.foldr (insertByStrength (lotsF fs) k) [] = orderOf (ahead k fs) l
  | [], _ => rfl
  | i :: r, h => by
    have hr : ∀ j ∈ r, j < fs.length / 4 := fun j hj => h j (List.mem_cons_of_mem _ hj)
    show insertByStrength (lotsF fs) k i (r.foldr _ []) = putIn (ahead k fs) i (orderOf (ahead k fs) r)
    rw [foldr_eq h1 hr]
    exact insert_eq h1 (h i (List.mem_cons_self ..)) fun j hj => hr j (mem_orderOf hj)
def orderAns (k : Nat) (fs : List Nat) : List Int :=
  if okLots fs = true then if 40 < k then [-22] else ((fs.length / 4 : Nat) : Int) :: cast (orderOf (ahead k fs) (List.range (fs.length / 4))) else [-22]
theorem putIn_len {p : Nat → Nat → Bool} {i : Nat} : ∀ l : List Nat, (putIn p i l).length = l.length + 1
  | [] => rfl
  | j :: r => by
    unfold putIn
    split
    · rfl
    · rw [List.length_cons, putIn_len r, List.length_cons]
theorem orderOf_len {p : Nat → Nat → Bool} : ∀ l : List Nat, (orderOf p l).length = l.length
  | [] => rfl
  | i :: r => by
    show (putIn p i (orderOf p r)).length = _
    rw [putIn_len, orderOf_len r, List.length_cons]
theorem order_is (k : Nat) (fs : List Nat) : PyKs604.order_by_strength k (cast fs) = orderAns k fs := by
  show Ks604Neutral.integers (answer (.orderByStrength (Int.toNat (k : Int)) ((cast fs).map Int.toNat))) = _
  rw [Int.toNat_natCast, cast_back]
  show Ks604Neutral.integers (withLots fs fun lots => if 40 < k then number (-22) else listResult (orderByStrength lots k)) = _
  unfold orderAns
  rw [withLots_eq]
  by_cases h1 : okLots fs = true
  · rw [if_pos h1, if_pos h1]
    by_cases c : 40 < k
    · rw [if_pos c, if_pos c] <;> rfl
    · rw [if_neg c, if_neg c]
      unfold orderByStrength
      rw [lotsF_len, foldr_eq h1 fun j hj => List.mem_range.mp hj]
      show ((List.length _ : Nat) : Int) :: _ = _
      rw [orderOf_len, List.length_range] <;> rfl
  · rw [if_neg h1, if_neg h1] <;> rfl
/-! ### the list in order is one alone -/
theorem putIn_perm {p : Nat → Nat → Bool} {i : Nat} : ∀ l : List Nat, (putIn p i l).Perm (i :: l)
  | [] => List.Perm.refl _
  | j :: r => by
    unfold putIn
    split
    · exact List.Perm.refl _
    · exact ((putIn_perm r).cons j).trans (List.Perm.swap i j r)
theorem orderOf_perm {p : Nat → Nat → Bool} : ∀ l : List Nat, (orderOf p l).Perm l
  | [] => List.Perm.refl _
  | i :: r => (putIn_perm (orderOf p r)).trans ((orderOf_perm r).cons i)
theorem putIn_sorted {p : Nat → Nat → Bool} (tr : ∀ a b c, p a b = true → p b c = true → p a c = true) {i : Nat} : ∀ {l : List Nat}, (∀ j ∈ l, p i j = true ∨ p j i = true) → l.Pairwise (fun a b => p a b = true) → (putIn p i l).Pairwise fun a b => p a b = true
  | [], _, _ => List.pairwise_singleton _ _
  | j :: r, t, h => by
    have h' := List.pairwise_cons.mp h
    unfold putIn
    by_cases c : p i j = true
    · rw [if_pos c]
      refine List.pairwise_cons.mpr ⟨fun x hx => ?_, h⟩
      rcases List.mem_cons.mp hx with rfl | hx
      · exact c
      · exact tr _ _ _ c (h'.1 x hx)
    · rw [if_neg c]
      refine List.pairwise_cons.mpr ⟨fun x hx => ?_, putIn_sorted tr (fun x hx => t x (List.mem_cons_of_mem _ hx)) h'.2⟩
      rcases mem_putIn hx with rfl | hx
      · exact (t j (List.mem_cons_self ..)).resolve_left c
      · exact h'.1 x hx
theorem sorted_one {p : Nat → Nat → Bool} (asym : ∀ a b, p a b = true → p b a = true → False) : ∀ {l m : List Nat}, l.Perm m → l.Pairwise (fun a b => p a b = true) → m.Pairwise (fun a b => p a b = true) → l = m
  | [], m, h, _, _ => (List.nil_perm.mp h).symm
  | a :: l, [], h, _, _ => absurd h.length_eq (by simp)
  | a :: l, b :: m, h, hl, hm => by
    have hl' := List.pairwise_cons.mp hl
    have hm' := List.pairwise_cons.mp hm
    have e : a = b := by
      have ma : a ∈ b :: m := h.mem_iff.mp (List.mem_cons_self ..)
      have mb : b ∈ a :: l := h.mem_iff.mpr (List.mem_cons_self ..)
      rcases List.mem_cons.mp ma with e | ma
      · exact e
      · rcases List.mem_cons.mp mb with e | mb
        · exact e.symm
        · exact (asym _ _ (hl'.1 b mb) (hm'.1 a ma)).elim
    subst e
    rw [sorted_one asym h.cons_inv hl'.2 hm'.2]
end Fl
namespace Fl
open PySem PySem.Spec PyProof.Rows L2
open PySem.W (Codec)
/-! ### the text by places -/
def top (i : Nat) : Stmt := PySem.Challenge.pw_fadinglots_s06_order_by_strength.main.body.getD i (.Pass ⟨0, 0, 0, 0⟩)
/-! ### a def that is known: where it stands, what it promises -/
structure Cal (P : Program) (w : World) (K : PySem.W.Frag) (mg : Str → Option Value) (base : Heap) (k : Nat) (x : Str) (ps : List Str) (sp : Sp) : Prop where
  ex : ∃ (f : Addr) (fd : FuncData), FnOk P w K mg base CX0 k f fd ps sp ∧ mg x = some (.ref f) ∧ PySem.W.keepIn K (.ref f) = true ∧ Binds K fd ps []
theorem pe_def {X : Cx} {k : Nat} {x : Str} {ps : List Str} {sp : Sp} {e : Expr} {es : List Expr} {p pos : Pos} {t : TA} (G : Cal X.prog X.w X.K X.mg X.base k x ps sp) (hr : Room k X.A) (hg : Gl X x) (ha : PA X (e :: es) t)
    (hdb : (x == ("__debug__" : Str)) = false := by decide) (he : starEach (e :: es) X.env = (false, eval e X.env) :: starEach es X.env := by rfl) (hpl : (backTo pos (starEach es X.env)).any (·.1) = false := by rfl) :
    PE X (.Call (.Name x p) (e :: es) [] pos) (tCall sp [] E0 t) := by
  obtain ⟨f, fd, F, hm, hk, hb⟩ := G.ex
  exact pe_call F hr hg hm hk hb .nil pass0 ha hdb he hpl
theorem pe_num {X : Cx} {x : Str} {z : Int} {pos : Pos} (hg : Gl X x) (hm : ∃ t, X.mg x = some (.int z t)) (hd : (x == ("__debug__" : Str)) = false := by decide) : PE X (.Name x pos) (tC (.int z)) := by
  obtain ⟨t, h⟩ := hm
  exact pe_glob hg h ⟨t, rfl⟩ hd
theorem tt_if {c : Bool} {A B : Prop} (hc : c = true) (h : A) : if c = true then A else B := by
  subst hc
  exact iteT h
theorem ff_if {c : Bool} {A B : Prop} (hc : c = false) (h : B) : if c = true then A else B := by
  subst hc
  exact iteF h
/-! ### a lot as an instance -/
def lF (m : Ks604.Lot) : List (Str × V) := [("weight", .int (m.weight : Int)), ("strength", .int (m.strength : Int)), ("num", .int (m.retainedNum : Int)), ("den", .int (m.retainedDen : Int))]
def LotAt (C : Addr) (H : Hp) (a : Addr) (m : Ks604.Lot) : Prop := ∃ dx, H a = some (.ins C dx (lF m))
theorem look_hit {k : Str} {v : V} {r : List (Str × V)} : List.lookup k ((k, v) :: r) = some v := by
  simp only [List.lookup, beq_self_eq_true]
theorem look_miss {k g : Str} {v : V} {r : List (Str × V)} (h : (k == g) = false) : List.lookup k ((g, v) :: r) = List.lookup k r := by
  simp only [List.lookup, h]
theorem putF_miss {f g : Str} {v x : V} {r s : List (Str × V)} (h : ¬ g = f) (e : putF f v r = s) : putF f v ((g, x) :: r) = (g, x) :: s := by
  rw [← e]
  exact if_neg h
theorem lF_w (m : Ks604.Lot) : (lF m).lookup ("weight" : Str) = some (.int (m.weight : Int)) := look_hit
theorem lF_s (m : Ks604.Lot) : (lF m).lookup ("strength" : Str) = some (.int (m.strength : Int)) := (look_miss (by decide +kernel)).trans look_hit
theorem lF_n (m : Ks604.Lot) : (lF m).lookup ("num" : Str) = some (.int (m.retainedNum : Int)) := (look_miss (by decide +kernel)).trans ((look_miss (by decide +kernel)).trans look_hit)
theorem lF_d (m : Ks604.Lot) : (lF m).lookup ("den" : Str) = some (.int (m.retainedDen : Int)) := (look_miss (by decide +kernel)).trans ((look_miss (by decide +kernel)).trans ((look_miss (by decide +kernel)).trans look_hit))
theorem lF_new (m : Ks604.Lot) : putF "den" (.int (m.retainedDen : Int)) (putF "num" (.int (m.retainedNum : Int)) (putF "strength" (.int (m.strength : Int)) (putF "weight" (.int (m.weight : Int)) []))) = lF m := by
  have e0 : putF ("weight" : Str) (.int (m.weight : Int)) [] = [(("weight" : Str), V.int (m.weight : Int))] := rfl
  have e1 : putF ("strength" : Str) (.int (m.strength : Int)) [(("weight" : Str), V.int (m.weight : Int))] = [(("weight" : Str), V.int (m.weight : Int)), (("strength" : Str), V.int (m.strength : Int))] := putF_miss (by decide +kernel) rfl
  have e2 : putF ("num" : Str) (.int (m.retainedNum : Int)) [(("weight" : Str), V.int (m.weight : Int)), (("strength" : Str), V.int (m.strength : Int))] = [(("weight" : Str), V.int (m.weight : Int)), (("strength" : Str), V.int (m.strength : Int)), (("num" : Str), V.int (m.retainedNum : Int))] := putF_miss (by decide +kernel) (putF_miss (by decide +kernel) rfl)
  rw [e0, e1, e2]
  exact putF_miss (by decide +kernel) (putF_miss (by decide +kernel) (putF_miss (by decide +kernel) rfl))
theorem LotAt.keep {C : Addr} {H H' : Hp} {a : Addr} {m : Ks604.Lot} (h : LotAt C H a m) (s : Same H H') : LotAt C H' a m := let ⟨dx, e⟩ := h; ⟨dx, s _ _ e⟩
/-- at as stand the lots ms -/
structure LotsAt (C : Addr) (H : Hp) (as : List Addr) (ms : List Ks604.Lot) : Prop where
  len : as.length = ms.length
  at_ : ∀ (j : Nat) (a : Addr) (m : Ks604.Lot), as[j]? = some a → ms[j]? = some m → LotAt C H a m
theorem LotsAt.keep {C : Addr} {H H' : Hp} {as : List Addr} {ms : List Ks604.Lot} (h : LotsAt C H as ms) (s : Same H H') : LotsAt C H' as ms := ⟨h.len, fun j a m e1 e2 => (h.at_ j a m e1 e2).keep s⟩
/-- what a walk over the list hands over -/
theorem LotsAt.item {C : Addr} {H : Hp} {as : List Addr} {ms : List Ks604.Lot} (h : LotsAt C H as ms) {i : Nat} {x : V} (e : (as.map V.ref)[i]? = some x) : ∃ a m, x = .ref a ∧ ms[i]? = some m ∧ LotAt C H a m := by
  rw [List.getElem?_map] at e
  cases q : as[i]? with
  | none =>
    rw [q] at e
    cases e
  | some a =>
    rw [q] at e
    have hl := (List.getElem?_eq_some_iff.mp q).1
    have hl2 : i < ms.length := by rw [← h.len]; exact hl
    have hm : ms[i]? = some (ms[i]'hl2) := List.getElem?_eq_getElem hl2
    exact ⟨a, _, (Option.some.inj e).symm, hm, h.at_ i a _ q hm⟩
theorem take_one {α : Type} : ∀ {l : List α} {i : Nat} {x : α}, l[i]? = some x → l.take (i + 1) = l.take i ++ [x]
  | [], i, x, h => by simp at h
  | a :: l, 0, x, h => by
    cases h
    rfl
  | a :: l, i + 1, x, h => by
    have ih := take_one (l := l) (i := i) (x := x) h
    show a :: l.take (i + 1) = a :: l.take i ++ [x]
    rw [ih] <;> rfl
/-! ### the handed list of numbers -/
abbrev nV (fs : List Nat) : List V := (cast fs).map V.int
theorem nV_len (fs : List Nat) : (nV fs).length = fs.length := by simp [nV, cast]
theorem nV_at {fs : List Nat} {j : Nat} (h : j < fs.length) : (nV fs)[j]? = some (.int ((fs.getD j 0 : Nat) : Int)) := by
  simp only [nV, cast, List.getElem?_map, List.getElem?_eq_getElem h, List.getD_eq_getElem?_getD, Option.map_some, Option.getD_some]
theorem cast_of : ∀ {l : List Int}, (∀ x ∈ l, 0 ≤ x) → cast (l.map Int.toNat) = l
  | [], _ => rfl
  | a :: r, h => by
    have h0 : ((a.toNat : Nat) : Int) = a := Int.toNat_of_nonneg (h a (List.mem_cons_self ..))
    show ((a.toNat : Nat) : Int) :: cast (r.map Int.toNat) = a :: r
    rw [h0, cast_of fun x hx => h x (List.mem_cons_of_mem _ hx)]
theorem div_cast (m k : Nat) : (m : Int) / 2 ^ k = ((m / 2 ^ k : Nat) : Int) := by simp
theorem Same.put {H H' : Hp} {l : Addr} {o : HO} (s : Same H H') (n : H l = none) : Same H (upd H' l o) := fun b u e => by
  rw [upd_ne (ne_of_none e n)]
  exact s b u e
/-- what the top has written: the class, the constants, the built-in names -/
structure Txt (K : PySem.W.Frag) (mg : Str → Option Value) (C : Addr) : Prop where
  cl : Cls K C
  nW : NoAttr K C "weight"
  nS : NoAttr K C "strength"
  nN : NoAttr K C "num"
  nD : NoAttr K C "den"
  gC : mg "Lot" = some (.ref C)
  cOUTSIDE_LIMITS : ∃ t, mg "OUTSIDE_LIMITS" = some (.int (-22) t)
  cNUMBERS_PER_LOT : ∃ t, mg "NUMBERS_PER_LOT" = some (.int 4 t)
  cMOST_LOTS : ∃ t, mg "MOST_LOTS" = some (.int 6 t)
  cMOST_WEIGHT : ∃ t, mg "MOST_WEIGHT" = some (.int 99 t)
  cMOST_STRENGTH : ∃ t, mg "MOST_STRENGTH" = some (.int 999 t)
  cMOST_DEN : ∃ t, mg "MOST_DEN" = some (.int 20 t)
  cLAST_MONTH : ∃ t, mg "LAST_MONTH" = some (.int 40 t)
  len : mg "len" = none
  range : mg "range" = none
  sorted : mg "sorted" = none
section
variable {P : Program} {w : World} {K : PySem.W.Frag} {mg : Str → Option Value} {base : Heap} {C : Addr}
theorem Cal.of {k : Nat} {x qual : Str} {st : Stmt} {f : Addr} {fd : FuncData} {ps : List Str} {sp : Sp} (F : Fun K x qual st f fd) (hm : mg x = some (.ref f)) (b : Binds K fd ps []) (ok : FnOk P w K mg base CX0 k f fd ps sp) : Cal P w K mg base k x ps sp :=
  ⟨⟨f, fd, ok, hm, F.kp, b⟩⟩
/-! ### Lot.__init__ -/
abbrev sInit : Stmt := inClass (top 8) 0
def spInit (C : Addr) : Sp := fun vs H Q _ => ∃ (p dx : Addr) (m : Ks604.Lot), vs = [.ref p, .int (m.weight : Int), .int (m.strength : Int), .int (m.retainedNum : Int), .int (m.retainedDen : Int)] ∧ H p = some (.ins C dx []) ∧
  ∀ H' : Hp, LotAt C H' p m → (∀ b o, H b = some o → b ≠ p → H' b = some o) → Q .non H'
theorem scInit : FnScope ["self", "weight", "strength", "num", "den"] ["self", "weight", "strength", "num", "den"] (defScope sInit) := ⟨rfl, rfl, rfl, by decide +kernel, rfl, by decide +kernel, by decide +kernel⟩
theorem ok_init {f : Addr} {fd : FuncData} (F : Fun K "__init__" "Lot.__init__" sInit f fd) (T : Txt K mg C) : FnOk P w K mg base CX0 1 f fd ["self", "weight", "strength", "num", "den"] (spInit C) := by
  refine F.ok scInit (fun vs H Q E h => ?_) (fun cdv A outer s H vs Q E hr h => ?_)
  · obtain ⟨p, dx, m, rfl, _⟩ := h
    rfl
  · obtain ⟨p, dx, m, rfl, hp, k⟩ := h
    refine ⟨_, pss_cons (ps_fld (pv 0) (pv 1) rfl) (pss_cons (ps_fld (pv 0) (pv 2) rfl) (pss_cons (ps_fld (pv 0) (pv 3) rfl) (pss_one (ps_fld (pv 0) (pv 4) rfl)))), ?_⟩
    refine ⟨_, rfl, _, rfl, p, C, dx, [], rfl, hp, T.cl, T.nW, (by show 0 < 1000; decide), ?_⟩
    refine ⟨_, rfl, _, rfl, p, C, dx, _, rfl, upd_same, T.cl, T.nS, (by show 1 < 1000; decide), ?_⟩
    refine ⟨_, rfl, _, rfl, p, C, dx, _, rfl, upd_same, T.cl, T.nN, (by show 2 < 1000; decide), ?_⟩
    refine ⟨_, rfl, _, rfl, p, C, dx, _, rfl, upd_same, T.cl, T.nD, (by show 3 < 1000; decide), ?_⟩
    exact k _ ⟨dx, Eq.trans upd_same (congrArg (fun q => some (HO.ins C dx q)) (lF_new m))⟩ fun b o e hb => by
      rw [upd_ne hb, upd_ne hb, upd_ne hb, upd_ne hb]
      exact e
/-! ### lot_at -/
abbrev sLotAt : Stmt := top 14
def spLotAt (K : PySem.W.Frag) (C : Addr) : Sp := fun vs H Q _ => ∃ (z : Int) (i : Nat) (a : Addr) (fs : List Nat), vs = [.int z, .ref a] ∧ z = (i : Int) ∧ SqL K H a (nV fs) ∧ i < fs.length / 4 ∧
  ∀ (H' : Hp) (p : Addr), Same H H' → LotAt C H' p (lotF fs i) → Q (.ref p) H'
theorem scLotAt : FnScope ["place", "lots", "start"] ["place", "lots"] (defScope sLotAt) := ⟨rfl, rfl, rfl, by decide +kernel, rfl, by decide +kernel, by decide +kernel⟩
theorem ok_lot_at {f fI : Addr} {fd fdI : FuncData} (F : Fun K "lot_at" "lot_at" sLotAt f fd) (T : Txt K mg C) (M : Mk K C fI) (FI : Fun K "__init__" "Lot.__init__" sInit fI fdI) (bI : Binds K fdI ["self", "weight", "strength", "num", "den"] []) :
    FnOk P w K mg base CX0 3 f fd ["place", "lots"] (spLotAt K C) := by
  have GI : FnOk P w K mg base CX0 1 fI fdI ["self", "weight", "strength", "num", "den"] (spInit C) := ok_init FI T
  refine F.ok scLotAt (fun vs H Q E h => ?_) (fun cdv A outer s H vs Q E hr h => ?_)
  · obtain ⟨z, i, a, fs, rfl, _⟩ := h
    rfl
  · obtain ⟨z, i, a, fs, rfl, ez, hS, hi, k⟩ := h
    subst ez
    refine ⟨_, pss_cons (ps_set (i := 2) scLotAt.nd rfl (Or.inl rfl) (pe_op op_mul (pv 0) (pe_num rfl T.cNUMBERS_PER_LOT)))
      (pss_one (ps_ret (pe_make M GI hr rfl T.gC bI .nil pass0 (pa_cons (pe_ix ix_list (pv 1) (pv 2) (fun _ _ => rfl))
        (pa_cons (pe_ix ix_list (pv 1) (pe_op op_add (pv 2) pe_int) (fun _ _ => rfl))
        (pa_cons (pe_ix ix_list (pv 1) (pe_op op_add (pv 2) pe_int) (fun _ _ => rfl))
        (pa_cons (pe_ix ix_list (pv 1) (pe_op op_add (pv 2) pe_int) (fun _ _ => rfl)) pa_nil))))))), ?_⟩
    refine ⟨_, rfl, _, _, rfl, rfl, Or.inr ⟨by decide, by decide⟩, ?_⟩
    refine ⟨_, rfl, _, rfl, a, _, _, _, rfl, rfl, hS, at_of (j := i * 4) (by omega) (nV_at (by omega)), ?_⟩
    refine ⟨_, rfl, _, rfl, _, _, rfl, rfl, a, _, _, _, rfl, rfl, hS, at_of (j := i * 4 + 1) (by omega) (nV_at (by omega)), ?_⟩
    refine ⟨_, rfl, _, rfl, _, _, rfl, rfl, a, _, _, _, rfl, rfl, hS, at_of (j := i * 4 + 2) (by omega) (nV_at (by omega)), ?_⟩
    refine ⟨_, rfl, _, rfl, _, _, rfl, rfl, a, _, _, _, rfl, rfl, hS, at_of (j := i * 4 + 3) (by omega) (nV_at (by omega)), ?_⟩
    intro x dx nx nd ne
    exact ⟨x, dx, lotF fs i, rfl, upd_same, fun H1 J kp => ⟨rfl, k H1 x (Same.made nx nd kp) J⟩⟩
/-! ### count_lots -/
abbrev sCount : Stmt := top 13
def spCount (K : PySem.W.Frag) : Sp := fun vs H Q _ => ∃ (a : Addr) (fs : List Nat), vs = [.ref a] ∧ SqL K H a (nV fs) ∧ Q (.int ((fs.length / 4 : Nat) : Int)) H
theorem scCount : FnScope ["lots"] ["lots"] (defScope sCount) := ⟨rfl, rfl, rfl, by decide +kernel, rfl, by decide +kernel, by decide +kernel⟩
theorem ok_count {f : Addr} {fd : FuncData} (F : Fun K "count_lots" "count_lots" sCount f fd) (T : Txt K mg C) : FnOk P w K mg base CX0 1 f fd ["lots"] (spCount K) := by
  refine F.ok scCount (fun vs H Q E h => ?_) (fun cdv A outer s H vs Q E hr h => ?_)
  · obtain ⟨a, fs, rfl, _⟩ := h
    rfl
  · obtain ⟨a, fs, rfl, hS, k⟩ := h
    refine ⟨_, pss_one (ps_ret (pe_op op_fdiv (pe_callB call_len_seq (by rfl) T.len PySem.boot_len (pa_cons (pv 0) pa_nil)) (pe_num rfl T.cNUMBERS_PER_LOT))), ?_⟩
    refine ⟨_, rfl, a, _, rfl, Or.inl hS, _, _, rfl, rfl, ⟨by decide, by decide⟩, ?_⟩
    have e : ((nV fs).length : Int) / 4 = ((fs.length / 4 : Nat) : Int) := by
      rw [nV_len]
      omega
    show Q (.int (((nV fs).length : Int) / 4)) H
    rw [e]
    exact k
/-! ### is_within -/
abbrev sWithin : Stmt := top 12
def spWithin : Sp := fun vs H Q _ => ∃ (lo n hi : Nat), vs = [.int (lo : Int), .int (n : Int), .int (hi : Int)] ∧ Q (.bl (decide (lo ≤ n ∧ n ≤ hi))) H
theorem scWithin : FnScope ["least", "number", "most"] ["least", "number", "most"] (defScope sWithin) := ⟨rfl, rfl, rfl, by decide +kernel, rfl, by decide +kernel, by decide +kernel⟩
theorem ok_within {f : Addr} {fd : FuncData} (F : Fun K "is_within" "is_within" sWithin f fd) : FnOk P w K mg base CX0 1 f fd ["least", "number", "most"] spWithin := by
  refine F.ok scWithin (fun vs H Q E h => ?_) (fun cdv A outer s H vs Q E hr h => ?_)
  · obtain ⟨lo, n, hi, rfl, _⟩ := h
    rfl
  · obtain ⟨lo, n, hi, rfl, k⟩ := h
    refine ⟨_, pss_one (ps_ret (pe_and (pe_cmpR op_le (pv 0) (pv 1) (nomark _)) (pe_one (pe_cmpR op_le (pv 1) (pv 2) (nomark _))))), ?_⟩
    refine ⟨_, rfl, _, rfl, _, _, rfl, rfl, _, rfl, ?_⟩
    by_cases c : lo ≤ n
    · refine tt_if (decide_eq_true (Int.ofNat_le.mpr c)) ?_
      refine ⟨_, rfl, _, rfl, _, _, rfl, rfl, ?_⟩
      have e : decide ((n : Int) ≤ (hi : Int)) = decide (lo ≤ n ∧ n ≤ hi) := by
        rw [Bool.eq_iff_iff, decide_eq_true_iff, decide_eq_true_iff, Int.ofNat_le]
        exact ⟨fun z => ⟨c, z⟩, fun z => z.2⟩
      show Q (.bl (decide ((n : Int) ≤ (hi : Int)))) H
      rw [e]
      exact k
    · refine ff_if (decide_eq_false (fun z => c (Int.ofNat_le.mp z))) ?_
      rw [decide_eq_false (fun z => c z.1)] at k
      exact k
/-! ### is_lot_within_limits -/
abbrev sIs : Stmt := top 11
def spIs (C : Addr) : Sp := fun vs H Q _ => ∃ (a : Addr) (m : Ks604.Lot), vs = [.ref a] ∧ LotAt C H a m ∧ Q (.bl (okLot m)) H
theorem scIs : FnScope ["lot"] ["lot"] (defScope sIs) := ⟨rfl, rfl, rfl, by decide +kernel, rfl, by decide +kernel, by decide +kernel⟩
theorem okLot_not {m : Ks604.Lot} (h : ¬ (m.weight ≤ 99 ∧ m.strength ≤ 999 ∧ 1 ≤ m.retainedNum ∧ m.retainedNum ≤ m.retainedDen ∧ m.retainedDen ≤ 20)) : okLot m = false := by
  cases e : okLot m with
  | false => rfl
  | true => exact absurd (okLot_iff.mp e) h
theorem not_true {p : Prop} [Decidable p] (h : ¬ p) : (!decide p) = true := by rw [decide_eq_false h] <;> rfl
theorem not_false' {p : Prop} [Decidable p] (h : p) : (!decide p) = false := by rw [decide_eq_true h] <;> rfl
theorem ok_is {f : Addr} {fd : FuncData} (F : Fun K "is_lot_within_limits" "is_lot_within_limits" sIs f fd) (T : Txt K mg C) (GF : Cal P w K mg base 1 "is_within" ["least", "number", "most"] spWithin) : FnOk P w K mg base CX0 2 f fd ["lot"] (spIs C) := by
  refine F.ok scIs (fun vs H Q E h => ?_) (fun cdv A outer s H vs Q E hr h => ?_)
  · obtain ⟨a, m, rfl, _⟩ := h
    rfl
  · obtain ⟨a, m, rfl, ⟨dx, h1⟩, k⟩ := h
    refine ⟨_, pss_cons (ps_if (PW.pt (pw_or (pt_not (pt_val (pe_def GF hr rfl (pa_cons pe_int (pa_cons (pe_fld (pv 0) rfl) (pa_cons (pe_num rfl T.cMOST_WEIGHT) pa_nil))))))
        (pw_or1 (pt_not (pt_val (pe_def GF hr rfl (pa_cons pe_int (pa_cons (pe_fld (pv 0) rfl) (pa_cons (pe_num rfl T.cMOST_STRENGTH) pa_nil))))))))) (pss_one (ps_ret pe_bl)) pss_nil)
      (pss_one (ps_ret (pe_and (pe_def GF hr rfl (pa_cons pe_int (pa_cons (pe_fld (pv 0) rfl) (pa_cons (pe_fld (pv 0) rfl) pa_nil)))) (pe_one (pe_cmpR op_le (pe_fld (pv 0) rfl) (pe_num rfl T.cMOST_DEN) (nomark _)))))), ?_⟩
    refine ⟨_, rfl, a, C, dx, _, _, rfl, h1, T.cl, T.nW, lF_w m, 0, m.weight, 99, rfl, _, rfl, ?_⟩
    by_cases c1 : m.weight ≤ 99
    · refine ff_if (not_false' ⟨Nat.zero_le _, c1⟩) ?_
      refine ⟨_, rfl, a, C, dx, _, _, rfl, h1, T.cl, T.nS, lF_s m, 0, m.strength, 999, rfl, _, rfl, ?_⟩
      by_cases c2 : m.strength ≤ 999
      · refine ff_if (not_false' ⟨Nat.zero_le _, c2⟩) ?_
        refine ⟨_, rfl, a, C, dx, _, _, rfl, h1, T.cl, T.nN, lF_n m, _, rfl, a, C, dx, _, _, rfl, h1, T.cl, T.nD, lF_d m, 1, m.retainedNum, m.retainedDen, rfl, _, rfl, ?_⟩
        by_cases c3 : 1 ≤ m.retainedNum ∧ m.retainedNum ≤ m.retainedDen
        · refine tt_if (decide_eq_true c3) ?_
          refine ⟨_, rfl, a, C, dx, _, _, rfl, h1, T.cl, T.nD, lF_d m, _, _, rfl, rfl, ?_⟩
          show Q (.bl (decide ((m.retainedDen : Int) ≤ 20))) H
          by_cases c5 : m.retainedDen ≤ 20
          · rw [decide_eq_true (by omega)]
            rw [okLot_iff.mpr ⟨c1, c2, c3.1, c3.2, c5⟩] at k
            exact k
          · rw [decide_eq_false (by omega)]
            rw [okLot_not (fun z => c5 z.2.2.2.2)] at k
            exact k
        · refine ff_if (decide_eq_false c3) ?_
          rw [okLot_not (fun z => c3 ⟨z.2.2.1, z.2.2.2.1⟩)] at k
          exact k
      · refine tt_if (not_true (fun z => c2 z.2)) ?_
        rw [okLot_not (fun z => c2 z.2.1)] at k
        exact k
    · refine tt_if (not_true (fun z => c1 z.2)) ?_
      rw [okLot_not (fun z => c1 z.1)] at k
      exact k
/-! ### are_lots_within_limits -/
abbrev sAre : Stmt := top 10
def spAre (K : PySem.W.Frag) : Sp := fun vs H Q _ => ∃ (a : Addr) (fs : List Nat), vs = [.ref a] ∧ SqL K H a (nV fs) ∧ fs.length ≤ 27 ∧ ∀ H' : Hp, Same H H' → Q (.bl (okLots fs)) H'
theorem scAre : FnScope ["lots", "place"] ["lots"] (defScope sAre) := ⟨rfl, rfl, rfl, by decide +kernel, rfl, by decide +kernel, by decide +kernel⟩
theorem okLots_not {fs : List Nat} (h : ¬ ((fs.length % 4 = 0 ∧ allOk fs = true) ∧ ¬ 6 < fs.length / 4)) : okLots fs = false := by
  cases e : okLots fs with
  | false => rfl
  | true => exact absurd ((okLots_iff fs).mp e) h
theorem ok_are {f : Addr} {fd : FuncData} (F : Fun K "are_lots_within_limits" "are_lots_within_limits" sAre f fd) (T : Txt K mg C) (GC : Cal P w K mg base 1 "count_lots" ["lots"] (spCount K)) (GL : Cal P w K mg base 3 "lot_at" ["place", "lots"] (spLotAt K C))
    (GS : Cal P w K mg base 2 "is_lot_within_limits" ["lot"] (spIs C)) : FnOk P w K mg base CX0 4 f fd ["lots"] (spAre K) := by
  refine F.ok scAre (fun vs H Q E h => ?_) (fun cdv A outer s H vs Q E hr h => ?_)
  · obtain ⟨a, fs, rfl, _⟩ := h
    rfl
  · obtain ⟨a, fs, rfl, hS, hlen, k⟩ := h
    have hr1 : Room 1 _ := hr.mono (by decide)
    refine ⟨_, pss_cons (ps_if (PW.pt (pw_or (pt_cmpR op_ne (pe_op op_mod (pe_callB call_len_seq (by rfl) T.len PySem.boot_len (pa_cons (pv 0) pa_nil)) (pe_num rfl T.cNUMBERS_PER_LOT)) pe_int (nomark _))
        (pw_or1 (pt_cmpR op_gt (pe_callB call_len_seq (by rfl) T.len PySem.boot_len (pa_cons (pv 0) pa_nil)) (pe_op op_mul (pe_num rfl T.cMOST_LOTS) (pe_num rfl T.cNUMBERS_PER_LOT)) (nomark _))))) (pss_one (ps_ret pe_bl)) pss_nil)
      (pss_cons (ps_for PassesOwn.never rfl (pi_range1 (by rfl) T.range (pa_cons (pe_def GC hr1 rfl (pa_cons (pv 0) pa_nil)) pa_nil)) (pg_name (i := 1) scAre.nd rfl (Or.inl rfl))
        (pss_one (ps_if (pt_not (pt_val (pe_def GS (hr.mono (by decide)) rfl (pa_cons (pe_def GL hr rfl (pa_cons (pv 1) (pa_cons (pv 0) pa_nil))) pa_nil)))) (pss_one (ps_ret pe_bl)) pss_nil)))
      (pss_one (ps_ret pe_bl))), ?_⟩
    have same := Same.refl H
    refine ⟨_, rfl, a, _, rfl, Or.inl hS, _, _, rfl, rfl, (by show (0 : Int) < 4; decide), rfl, _, rfl, ?_⟩
    have el := nV_len fs
    by_cases c1 : fs.length % 4 = 0
    · refine ff_if ?_ ?_
      · have e0 : ((nV fs).length : Int) % 4 = 0 := by omega
        show (!decide (V.int (((nV fs).length : Int) % 4) = V.int 0)) = false
        rw [e0]
        rfl
      refine ⟨_, rfl, a, _, rfl, Or.inl hS, _, _, rfl, rfl, Or.inl ⟨by decide, by decide⟩, _, _, rfl, rfl, _, rfl, ?_⟩
      by_cases c2 : fs.length ≤ 24
      · refine ff_if (decide_eq_false (by omega)) ?_
        refine ⟨_, rfl, a, fs, rfl, hS, ?_⟩
        refine ⟨_, rfl, (by omega), (by omega), for_range (lo := 0) (n := fs.length / 4) (fun i σ H' => ∃ v : Option V, σ = [some (.ref a), v] ∧ Same H H' ∧ ∀ j, j < i → okLot (lotF fs j) = true)
          ⟨none, rfl, Same.refl H, fun j hj => absurd hj (Nat.not_lt_zero j)⟩ ?_ ?_⟩
        · rintro i σ H' hi ⟨v, rfl, s1, ho⟩
          refine ⟨_, rfl, _, rfl, 0 + (i : Int), i, a, fs, rfl, Int.zero_add _, s1.seq hS, hi, fun H2 p s2 hp => ?_⟩
          refine ⟨p, lotF fs i, rfl, hp, _, rfl, ?_⟩
          by_cases c3 : okLot (lotF fs i) = true
          · refine ff_if (by rw [c3] <;> rfl) ?_
            refine ⟨_, rfl, s1.trans s2, fun j hj => ?_⟩
            by_cases e : j = i
            · rw [e]
              exact c3
            · exact ho j (by omega)
          · refine tt_if (by rw [Bool.eq_false_iff.mpr c3] <;> rfl) ?_
            have q := k H2 (s1.trans s2)
            rw [okLots_not (fun z => c3 (List.all_eq_true.mp z.1.2 i (List.mem_range.mpr hi)))] at q
            exact q
        · rintro σ H' ⟨v, rfl, s1, ho⟩
          have q := k H' s1
          rw [(okLots_iff fs).mpr ⟨⟨c1, List.all_eq_true.mpr fun i hi => ho i (List.mem_range.mp hi)⟩, by omega⟩] at q
          exact q
      · refine tt_if (decide_eq_true (by omega)) ?_
        have q := k H same
        rw [okLots_not (fun z => z.2 (by omega))] at q
        exact q
    · refine tt_if ?_ ?_
      · have e0 : ¬ V.int (((nV fs).length : Int) % 4) = V.int 0 := fun e => c1 (by injection e with e; omega)
        show (!decide (V.int (((nV fs).length : Int) % 4) = V.int 0)) = true
        rw [decide_eq_false e0]
        rfl
      have q := k H same
      rw [okLots_not (fun z => c1 z.1.1)] at q
      exact q
/-! ### power -/
abbrev sPower : Stmt := top 17
def spPower : Sp := fun vs H Q _ => ∃ (b e : Nat), vs = [.int (b : Int), .int (e : Int)] ∧ b ≤ 4294967296 ∧ e ≤ 4294967296 ∧ Q (.int ((b ^ e : Nat) : Int)) H
theorem scPower : FnScope ["base", "exponent", "product", "turn"] ["base", "exponent"] (defScope sPower) := ⟨rfl, rfl, rfl, by decide +kernel, rfl, by decide +kernel, by decide +kernel⟩
theorem ok_power {f : Addr} {fd : FuncData} (F : Fun K "power" "power" sPower f fd) (T : Txt K mg C) : FnOk P w K mg base CX0 1 f fd ["base", "exponent"] spPower := by
  refine F.ok scPower (fun vs H Q E h => ?_) (fun cdv A outer s H vs Q E hr h => ?_)
  · obtain ⟨b, e, rfl, _⟩ := h
    rfl
  · obtain ⟨b, e, rfl, hb, he, k⟩ := h
    refine ⟨_, pss_cons (ps_set (i := 2) scPower.nd rfl (Or.inl rfl) pe_int)
      (pss_cons (ps_for PassesOwn.never rfl (pi_range1 (by rfl) T.range (pa_cons (pv 1) pa_nil)) (pg_name (i := 3) scPower.nd rfl (Or.inl rfl))
        (pss_one (ps_set (i := 2) scPower.nd rfl (Or.inl rfl) (pe_op op_mul (pv 2) (pv 0)))))
      (pss_one (ps_ret (pv 2)))), ?_⟩
    refine ⟨_, rfl, _, rfl, (by omega), (by omega), for_range (lo := 0) (n := e) (fun i σ H' => H' = H ∧ ∃ v : Option V, σ = [some (.int (b : Int)), some (.int (e : Int)), some (.int ((b ^ i : Nat) : Int)), v])
      ⟨rfl, none, rfl⟩ ?_ ?_⟩
    · rintro i σ H' hi ⟨rfl, v, rfl⟩
      refine ⟨_, rfl, _, rfl, _, _, rfl, rfl, Or.inr ⟨by omega, by omega⟩, rfl, some (.int (0 + (i : Int))), ?_⟩
      rw [Nat.pow_succ]
      rfl
    · rintro σ H' ⟨rfl, v, rfl⟩
      exact ⟨_, rfl, k⟩
/-! ### what the parts of other statements hold, too -/
theorem LotsAt.more {C : Addr} {H : Hp} {as : List Addr} {ms : List Ks604.Lot} {a : Addr} {m : Ks604.Lot} (h : LotsAt C H as ms) (q : LotAt C H a m) : LotsAt C H (as ++ [a]) (ms ++ [m]) := by
  refine ⟨by rw [List.length_append, List.length_append, h.len] <;> rfl, fun j b x e1 e2 => ?_⟩
  by_cases c : j < as.length
  · rw [List.getElem?_append_left c] at e1
    rw [List.getElem?_append_left (by rw [← h.len]; exact c)] at e2
    exact h.at_ j b x e1 e2
  · rw [List.getElem?_append_right (Nat.le_of_not_lt c)] at e1
    rw [List.getElem?_append_right (by rw [← h.len]; exact Nat.le_of_not_lt c), ← h.len] at e2
    cases hj : j - as.length with
    | zero =>
      rw [hj] at e1 e2
      cases e1
      cases e2
      exact q
    | succ n =>
      rw [hj] at e1
      simp at e1
/-- a store to a list leaves the lots as they are -/
theorem LotAt.put {C : Addr} {H : Hp} {a l : Addr} {m : Ks604.Lot} {xs ys : List V} (h : LotAt C H a m) (q : H l = some (.lst xs)) : LotAt C (upd H l (.lst ys)) a m := by
  obtain ⟨dx, e⟩ := h
  exact ⟨dx, by rw [upd_ne (ne_of e q (by intro z; cases z))]; exact e⟩
theorem LotsAt.put {C : Addr} {H : Hp} {as : List Addr} {l : Addr} {ms : List Ks604.Lot} {xs ys : List V} (h : LotsAt C H as ms) (q : H l = some (.lst xs)) : LotsAt C (upd H l (.lst ys)) as ms :=
  ⟨h.len, fun j a m e1 e2 => (h.at_ j a m e1 e2).put q⟩
theorem pow20 {d k : Nat} (hd : d ≤ 20) (hk : k ≤ 40) : d ^ k < 2 ^ 200 :=
  Nat.lt_of_le_of_lt (Nat.le_trans (Nat.pow_le_pow_left hd k) (Nat.pow_le_pow_right (by decide) hk)) (by decide +kernel)
theorem nat_abs_lt {n b : Nat} (h : n < 2 ^ b) : ((n : Int)).natAbs < 2 ^ b := by
  rw [Int.natAbs_natCast]
  exact h
theorem up_to {n a b : Nat} (h : n < 2 ^ a) (hab : a ≤ b) : n < 2 ^ b := Nat.lt_of_lt_of_le h (Nat.pow_le_pow_right (by decide) hab)
/-! ### all_lots -/
abbrev sAll : Stmt := top 15
def spAll (K : PySem.W.Frag) (C : Addr) : Sp := fun vs H Q _ => ∃ (a : Addr) (fs : List Nat), vs = [.ref a] ∧ SqL K H a (nV fs) ∧ fs.length ≤ 27 ∧
  ∀ (H' : Hp) (l : Addr) (as : List Addr), Same H H' → H l = none → H' l = some (.lst (as.map V.ref)) → LotsAt C H' as (lotsF fs) → Q (.ref l) H'
theorem scAll : FnScope ["lots", "place"] ["lots"] (defScope sAll) := ⟨rfl, rfl, rfl, by decide +kernel, rfl, by decide +kernel, by decide +kernel⟩
def lotsN (fs : List Nat) (i : Nat) : List Ks604.Lot := (List.range i).map (lotF fs)
theorem lotsN_succ (fs : List Nat) (i : Nat) : lotsN fs (i + 1) = lotsN fs i ++ [lotF fs i] := by
  unfold lotsN
  rw [List.range_succ, List.map_append] <;> rfl
theorem lotsN_len (fs : List Nat) (i : Nat) : (lotsN fs i).length = i := by
  unfold lotsN
  rw [List.length_map, List.length_range]
theorem ok_all {f : Addr} {fd : FuncData} (F : Fun K "all_lots" "all_lots" sAll f fd) (T : Txt K mg C) (GC : Cal P w K mg base 1 "count_lots" ["lots"] (spCount K)) (GL : Cal P w K mg base 3 "lot_at" ["place", "lots"] (spLotAt K C)) :
    FnOk P w K mg base CX0 4 f fd ["lots"] (spAll K C) := by
  refine F.ok scAll (fun vs H Q E h => ?_) (fun cdv A outer s H vs Q E hr h => ?_)
  · obtain ⟨a, fs, rfl, _⟩ := h
    rfl
  · obtain ⟨a, fs, rfl, hS, hlen, k⟩ := h
    have hr1 : Room 1 _ := hr.mono (by decide)
    refine ⟨_, pss_one (ps_ret (pe_lc (own := [("place", 1)]) (g := gName 1) (tt := tYes) rfl scAll.nd (pi_range1 (by rfl) T.range (pa_cons (pe_def GC hr1 rfl (pa_cons (pv 0) pa_nil)) pa_nil))
      (blkOk_by (N := ["lots", "place"]) (sc := defScope sAll) (by decide +kernel)) (fun _ _ _ _ _ => pg_name (i := 1) scAll.nd rfl (Or.inl rfl)) (fun _ _ _ _ _ => pts_nil)
      (fun _ _ _ _ _ => pe_def GL hr rfl (pa_cons (pv 1) (pa_cons (pv 0) pa_nil))))), ?_⟩
    refine ⟨_, rfl, a, fs, rfl, hS, ?_⟩
    refine ⟨_, rfl, (by omega), (by omega), fun D hD => lc_range (lo := 0) (n := fs.length / 4) (fun i H' => Same H H' ∧ ∃ as : List Addr, H' D = some (.lst (as.map V.ref)) ∧ LotsAt C H' as (lotsN fs i))
      ⟨Same.put (Same.refl H) hD, [], upd_same, rfl, fun j b m e1 _ => by simp at e1⟩ ?_ ?_⟩
    · rintro i H' hi ⟨s1, as, hq, hA⟩
      refine ⟨rfl, iteT (B := True) ?_⟩
      refine ⟨_, rfl, _, rfl, 0 + (i : Int), i, a, fs, rfl, Int.zero_add _, s1.seq hS, hi, fun H2 p s2 hp => ?_⟩
      have hq2 := s2 _ _ hq
      refine ⟨_, hq2, ?_, Same.put (s1.trans s2) hD, as ++ [p], ?_, ?_⟩
      · have h1 := hA.len
        rw [lotsN_len] at h1
        rw [List.length_map]
        exact small1000 (by omega)
      · rw [upd_same, List.map_append] <;> rfl
      · rw [lotsN_succ]
        exact ((hA.keep s2).more hp).put hq2
    · rintro H' ⟨s1, as, hq, hA⟩
      exact k H' D as s1 hD hq hA
/-! ### comparable_strengths -/
abbrev sStr : Stmt := top 16
/-- the product of the lots' denominators in the month -/
def comK (k : Nat) (ms : List Ks604.Lot) : Nat := ms.foldl (fun c m => c * strBot k m) 1
/-- a lot's strength times c -/
def scaled (k c : Nat) (m : Ks604.Lot) : Nat := strTop k m * (c / strBot k m)
def strOf (k : Nat) (ms : List Ks604.Lot) : List Nat := ms.map (scaled k (comK k ms))
theorem comK_take {k : Nat} {ms : List Ks604.Lot} {i : Nat} {m : Ks604.Lot} (h : ms[i]? = some m) : comK k (ms.take (i + 1)) = comK k (ms.take i) * strBot k m := by
  unfold comK
  rw [take_one h, List.foldl_append] <;> rfl
theorem comK_bound {k : Nat} {ms : List Ks604.Lot} (hk : k ≤ 40) (hm : ∀ m ∈ ms, okLot m = true) : ∀ i, i ≤ ms.length → comK k (ms.take i) < 2 ^ (1 + 200 * i)
  | 0, _ => by
    rw [List.take_zero]
    show 1 < 2 ^ (1 + 200 * 0)
    decide
  | i + 1, h => by
    have h1 := comK_bound hk hm i (by omega)
    have hi : i < ms.length := by omega
    rw [comK_take (List.getElem?_eq_getElem hi)]
    have hd : strBot k (ms[i]'hi) < 2 ^ 200 := pow20 (okLot_iff.mp (hm _ (List.getElem_mem hi))).2.2.2.2 hk
    exact Nat.lt_of_lt_of_le (Nat.mul_lt_mul'' h1 hd) (by rw [← Nat.pow_add]; exact Nat.pow_le_pow_right (by decide) (by omega))
theorem lotsF_ok {fs : List Nat} (h : okLots fs = true) : ∀ m ∈ lotsF fs, okLot m = true := fun m hm => by
  unfold lotsF at hm
  obtain ⟨i, hi, rfl⟩ := List.mem_map.mp hm
  exact ok_of h (List.mem_range.mp hi)
def spStr (K : PySem.W.Frag) : Sp := fun vs H Q _ => ∃ (k : Nat) (a : Addr) (fs : List Nat), vs = [.int (k : Int), .ref a] ∧ SqL K H a (nV fs) ∧ fs.length ≤ 27 ∧ okLots fs = true ∧ k ≤ 40 ∧
  ∀ (H' : Hp) (l : Addr), Same H H' → H l = none → H' l = some (.lst (nV (strOf k (lotsF fs)))) → Q (.ref l) H'
theorem scStr : FnScope ["month", "lots", "every", "common", "lot", "strengths"] ["month", "lots"] (defScope sStr) := ⟨rfl, rfl, rfl, by decide +kernel, rfl, by decide +kernel, by decide +kernel⟩
theorem ok_str {f : Addr} {fd : FuncData} (F : Fun K "comparable_strengths" "comparable_strengths" sStr f fd) (T : Txt K mg C) (GA : Cal P w K mg base 4 "all_lots" ["lots"] (spAll K C)) (GP : Cal P w K mg base 1 "power" ["base", "exponent"] spPower) :
    FnOk P w K mg base CX0 5 f fd ["month", "lots"] (spStr K) := by
  refine F.ok scStr (fun vs H Q E h => ?_) (fun cdv A outer s H vs Q E hr h => ?_)
  · obtain ⟨k, a, fs, rfl, _⟩ := h
    rfl
  · obtain ⟨k, a, fs, rfl, hS, hlen, hok, hk, c⟩ := h
    have hr1 : Room 1 _ := hr.mono (by decide)
    refine ⟨_, pss_cons (ps_set (i := 2) scStr.nd rfl (Or.inl rfl) (pe_def GA hr rfl (pa_cons (pv 1) pa_nil)))
      (pss_cons (ps_set (i := 3) scStr.nd rfl (Or.inl rfl) pe_int)
      (pss_cons (ps_for PassesOwn.never rfl (pi_list (pv 2)) (pg_name (i := 4) scStr.nd rfl (Or.inl rfl))
        (pss_one (ps_set (i := 3) scStr.nd rfl (Or.inl rfl) (pe_op op_mulW (pv 3) (pe_def GP hr1 rfl (pa_cons (pe_fld (pv 4) rfl) (pa_cons (pv 0) pa_nil)))))))
      (pss_cons (ps_set (i := 5) scStr.nd rfl (Or.inl rfl) (pe_lst pa_nil))
      (pss_cons (ps_for PassesOwn.never rfl (pi_list (pv 2)) (pg_name (i := 4) scStr.nd rfl (Or.inl rfl))
        (pss_one (ps_expr (pe_bm PySem.F.plainAttrs_list PySem.F.slot_list_append PySem.F.type_list_append mt_append (pv 5)
          (pa_cons (pe_op op_mulW (pe_op op_mul (pe_fld (pv 4) rfl) (pe_def GP hr1 rfl (pa_cons (pe_fld (pv 4) rfl) (pa_cons (pv 0) pa_nil))))
            (pe_op op_fdivW (pv 3) (pe_def GP hr1 rfl (pa_cons (pe_fld (pv 4) rfl) (pa_cons (pv 0) pa_nil))))) pa_nil)))))
      (pss_one (ps_ret (pv 5))))))), ?_⟩
    refine ⟨_, rfl, a, fs, rfl, hS, hlen, fun H1 l as s1 hl hq hA => ?_⟩
    have hm := lotsF_ok hok
    have hlenM : (lotsF fs).length ≤ 6 := by
      have := ((okLots_iff fs).mp hok).2
      rw [lotsF_len]
      omega
    have hcom := comK_bound (k := k) hk hm
    unfold strOf at c
    generalize lotsF fs = ms at *
    have bnd : ∀ i, i ≤ ms.length → comK k (ms.take i) < 2 ^ 2000 := fun i hi => up_to (hcom i hi) (by omega)
    refine ⟨_, rfl, l, rfl, ⟨_, SqL.of hq⟩, for_list (K := K) (a := l) (xs := as.map V.ref) (fun i σ H' => H' = H1 ∧ ∃ v4 : Option V, σ = [some (.int (k : Int)), some (.ref a), some (.ref l), some (.int ((comK k (ms.take i) : Nat) : Int)), v4, none])
      ⟨rfl, none, rfl⟩ (fun i σ H' _ h => by rw [h.1]; exact SqL.of hq) ?_ ?_⟩
    · rintro i x σ H' hi ⟨rfl, v4, rfl⟩
      obtain ⟨b, m, rfl, hmi, dx, hd⟩ := hA.item hi
      have mi : m ∈ ms := List.mem_of_getElem? hmi
      obtain ⟨q1, q2, q3, q4, q5⟩ := okLot_iff.mp (hm m mi)
      have hil : i < ms.length := (List.getElem?_eq_some_iff.mp hmi).1
      have w1 : CMulW ((comK k (ms.take i) : Nat) : Int) ((m.retainedDen ^ k : Nat) : Int) := wide_mul (a := 2000) (b := 200) (nat_abs_lt (bnd i (by omega))) (nat_abs_lt (pow20 q5 hk)) (by decide) (by decide) (by decide)
      refine ⟨_, rfl, _, rfl, b, C, dx, _, _, rfl, hd, T.cl, T.nD, lF_d m, _, rfl, m.retainedDen, k, rfl, by omega, by omega, _, _, rfl, rfl, w1, rfl, some (.ref b), ?_⟩
      rw [comK_take hmi]
      rfl
    · rintro σ H' ⟨rfl, v4, rfl⟩
      rw [List.length_map, hA.len, List.take_length]
      have bc := bnd ms.length (Nat.le_refl _)
      rw [List.take_length] at bc
      generalize comK k ms = cm at *
      refine ⟨Nat.zero_le _, fun l2 hl2 => ?_⟩
      have nl : l ≠ l2 := ne_of_none hq hl2
      have hHl2 : H l2 = none := s1.free hl2
      have s2 : Same H' (upd H' l2 (.lst [])) := Same.put (Same.refl H') hl2
      refine ⟨_, rfl, l, rfl, ⟨_, s2.seq (SqL.of hq)⟩, for_list (K := K) (a := l) (xs := as.map V.ref) (fun i σ H3 => Same H H3 ∧ H3 l = some (.lst (as.map V.ref)) ∧ H3 l2 = some (.lst (nV ((ms.take i).map (scaled k cm)))) ∧ LotsAt C H3 as ms ∧
          ∃ v4 : Option V, σ = [some (.int (k : Int)), some (.ref a), some (.ref l), some (.int (cm : Int)), v4, some (.ref l2)])
        ⟨s1.trans s2, s2 _ _ hq, upd_same, hA.keep s2, v4, rfl⟩ (fun i σ H3 _ h => SqL.of h.2.1) ?_ ?_⟩
      · rintro i x σ H3 hi ⟨s3, hq3, hq4, hA3, u4, rfl⟩
        obtain ⟨b, m, rfl, hmi, dx, hd⟩ := hA3.item hi
        have mi : m ∈ ms := List.mem_of_getElem? hmi
        obtain ⟨q1, q2, q3, q4, q5⟩ := okLot_iff.mp (hm m mi)
        have hil : i < ms.length := (List.getElem?_eq_some_iff.mp hmi).1
        have p1 : m.retainedDen ^ k < 2 ^ 200 := pow20 q5 hk
        have p2 : m.retainedNum ^ k < 2 ^ 200 := pow20 (Nat.le_trans q4 q5) hk
        have p0 : 0 < m.retainedDen ^ k := Nat.pow_pos (by omega)
        have hw : CDivW (cm : Int) ((m.retainedDen ^ k : Nat) : Int) := wide_div (b := 200) (by omega) (nat_abs_lt p1) (by decide) (by decide)
        have b1 : m.strength * m.retainedNum ^ k < 2 ^ 210 := by
          rw [show (210 : Nat) = 10 + 200 from rfl, Nat.pow_add]
          exact Nat.mul_lt_mul'' (by omega) p2
        have b2 : cm / m.retainedDen ^ k < 2 ^ 2000 := Nat.lt_of_le_of_lt (Nat.div_le_self _ _) bc
        have w2 : CMulW ((m.strength * m.retainedNum ^ k : Nat) : Int) ((cm / m.retainedDen ^ k : Nat) : Int) := wide_mul (a := 210) (b := 2000) (nat_abs_lt b1) (nat_abs_lt b2) (by decide) (by decide) (by decide)
        refine ⟨_, rfl, Or.inl ⟨rfl, _, SqL.of hq4⟩, _, rfl, b, C, dx, _, _, rfl, hd, T.cl, T.nS, lF_s m, ?_⟩
        refine ⟨_, rfl, b, C, dx, _, _, rfl, hd, T.cl, T.nN, lF_n m, _, rfl, m.retainedNum, k, rfl, by omega, by omega, _, _, rfl, rfl, Or.inl ⟨by omega, by omega⟩, ?_⟩
        refine ⟨_, rfl, _, rfl, b, C, dx, _, _, rfl, hd, T.cl, T.nD, lF_d m, _, rfl, m.retainedDen, k, rfl, by omega, by omega, _, _, rfl, rfl, hw, _, _, rfl, rfl, w2, ?_⟩
        refine ⟨l2, _, _, rfl, rfl, hq4, ?_, ?_⟩
        · rw [nV_len, List.length_map, List.length_take]
          exact small1000 (by omega)
        · refine ⟨Same.put s3 hHl2, by rw [upd_ne nl]; exact hq3, ?_, hA3.put hq4, some (.ref b), rfl⟩
          rw [upd_same, take_one hmi, List.map_append]
          unfold nV cast
          rw [List.map_append, List.map_append]
          rfl
      · rintro σ H3 ⟨s3, hq3, hq4, hA3, u4, rfl⟩
        rw [List.length_map, hA.len, List.take_length] at hq4
        exact ⟨_, rfl, c H3 l2 s3 hHl2 hq4⟩
end
end Fl
namespace Fl
open PySem PySem.Spec PyProof.Rows L2 LamX
open PySem.W (kla_obj kla_fn KeyPure)
/-! ### the key of the sorting: lambda place: (-strengths[place], place) -/
abbrev keyBody (p1 p2 p3 p4 p5 p6 : Pos) (x1 : Nat) : Expr := .Tuple [.UnaryOp .USub (.Subscript (.Name "strengths" p1) (.Name "place" p2) p3) p4, .Name "place" p5] x1 p6
/-- its names -/
structure KeyScope (sc : Scope) : Prop where
  kind : sc.kind = .function
  co : sc.isCoroutine = false
  gen : sc.isGenerator = false
  own : sc.names.lookup ("place" : Str) = some .local
  free : sc.names.lookup ("strengths" : Str) = some .free
  nocell : ∀ x ∈ sc.names, x.2 ≠ .cell
  frees : ∀ x ∈ sc.names, x.2 = .free → x.1 = ("strengths" : Str)
section
variable {prog : Program} {w : World} {A : Around} {s : Shared}
theorem key_call {f c' cc l : Addr} {q : Str} {params : Arguments} {scope : Scope} {cl : List (Str × Addr)} {pm ctv : Value} {x1 : Nat} {p1 p2 p3 p4 p5 p6 : Pos} {its : List Value} {i : Nat} {t ti : Tok} {z : Int}
    (ho : s.heap.get? f = some (kla_obj "<lambda>" q params (keyBody p1 p2 p3 p4 p5 p6 x1) scope cl pm c' ctv)) (hcd : s.heap.CodeRec (.ref c') q) (hd : A.depth < recursionLimit) (hlim : s.heap.NoLimit) (S : KeyScope scope)
    (hb : bindArgs (kla_fn "<lambda>" q params (keyBody p1 p2 p3 p4 p5 p6 x1) scope cl pm (.ref c') ctv) ⟨[.int (i : Int) t], []⟩ = pure [(("place" : Str), .int (i : Int) t)])
    (hcl : cl.lookup ("strengths" : Str) = some cc) (hc : s.heap.IsCell cc (some (.ref l))) (hl : PlainL s.heap l its.toArray) (hi : its[i]? = some (.int z ti)) (hi2 : i < 1000000) :
    wpAny (model prog w) A (call (.ref f) [.int (i : Int) t]) (KeyPure (.tuple [.int (-z), .int (i : Int)]) s) (fun _ _ => False) s := by
  refine wpAny_call (PySem.W.kla_callFunE hd ho rfl S.co S.gen rfl hcd ?_)
  rw [hb]
  refine wpAny_pure (wpAny_newFunctionEnv S.nocell (fun x hx => by rw [List.mem_singleton.mp hx]; exact S.own) (fun h1 hns hsb => ⟨hlim.fresh _ hsb, ?_⟩) S.kind)
  have kp : ∀ b o, s.heap.get? b = some o → h1.get? b = some o := fun b o e => (hsb.2 b (Nat.ne_of_lt (Heap.lt_size e))).trans (Heap.get?_push_of_some _ e)
  have eP : ([(("place" : Str), Value.int (i : Int) t)] : List (Str × Value)).reverse.lookup ("place" : Str) = some (.int (i : Int) t) := by rfl
  have hl1 := hl.keeps kp
  have hc1 := hc.keeps kp
  show codeAny _ _ (.expr (keyBody p1 p2 p3 p4 p5 p6 x1) (PySem.W.envX q scope s.heap.objs.size f (.ref c') cl)) _ _
  refine PySem.W.kla_codeExpr ?_
  refine wpAny_Tuple_spliced (Calls.spliced_cons (UnaryOp_ (Subscript_ (wpAny_Name (wpAny_loadName_free S.kind S.free hcl hc1 ?_) (by decide)))))
  refine wpAny_Name (wpAny_loadName_local S.kind S.own hns eP ?_) (by decide)
  refine item_listR hl1.isList (Int.natCast_nonneg i) (by omega) (x := .int z ti) (by simpa using hi) ?_
  refine neg_int ?_
  refine Calls.spliced_cons (wpAny_Name (wpAny_loadName_local S.kind S.own hns eP ?_) (by decide))
  refine Calls.spliced_nil ⟨(by show 2 ≤ sizeLine; decide), ?_⟩
  refine ⟨_, _, rfl, fun b o e => Heap.get?_push_of_some _ (kp b o e), ?_⟩
  exact .tuple (Heap.get?_push_size _ rfl) rfl rfl (.cons (.int _ _) (.cons (.int _ _) .nil))
end
end Fl
namespace Fl
open PySem PySem.Spec PyProof.Rows L2 LamX
open PySem.W (kla_obj kla_fn KeyPure KeepsBut AllAlike Sortable EachIs dataLe KeyedOut)
/-! ### sorted(range(n), key=f) -/
/-- what stands for the numbers a, a + 1, .. -/
theorem each_from : ∀ (us : List Value) (a : Nat), (∀ j v, us[j]? = some v → ∃ t, v = Value.int ((a + j : Nat) : Int) t) → EachIs (fun v (i : Nat) => ∃ t, v = Value.int (i : Int) t) us (List.range' a us.length)
  | [], a, _ => .nil
  | u :: r, a, h => by
    rw [List.length_cons, List.range'_succ]
    refine .cons (by simpa using h 0 u rfl) (each_from r (a + 1) fun j v e => ?_)
    obtain ⟨t, et⟩ := h (j + 1) v e
    exact ⟨t, by rw [et, show a + 1 + j = a + (j + 1) by omega]⟩
theorem each_items {acc : Array Value} {n : Nat} (h : ItemsOf (fun i v => ∃ t, v = Value.int ((0 : Int) + i * 1) t) acc n) : EachIs (fun v (i : Nat) => ∃ t, v = Value.int (i : Int) t) acc.toList (List.range n) := by
  have e : acc.toList.length = n := by rw [Array.length_toList]; exact h.1
  have z := each_from acc.toList 0 fun j v hj => by
    obtain ⟨t, et⟩ := h.2 j v (by rw [← hj, Array.getElem?_toList])
    exact ⟨t, by rw [et]; congr 1; omega⟩
  rw [e, ← List.range_eq_range'] at z
  exact z
section
variable {prog : Program} {w : World} {A : Around} {E : Value → Shared → Prop} {s : Shared}
theorem sorted_range_key {r f : Addr} {n : Nat} {u1 u2 u3 : Tok} {k : Nat → PyData} {Q : Value → Shared → Prop} (hh : A.handled = none) (hr : IsRange s.heap r 0 (n : Int) 1 u1 u2 u3) (hn : n ≤ 1000)
    (hal : AllAlike ((List.range n).map k)) (hsk : Sortable ((List.range n).map k)) (hu : ∀ i ∈ List.range n, A.in1.in1.units + (k i).depth < cLine)
    (turn : ∀ (i : Nat) (t : Tok) (h : Heap) (tk : Nat), i < n → (∀ b o, s.heap.get? b = some o → h.get? b = some o) →
      wpAny (model prog w) A.in1.in1 (call (.ref f) [.int (i : Int) t]) (KeyPure (k i) { s with heap := h, toks := tk }) (fun _ _ => False) { s with heap := h, toks := tk })
    (h : ∀ (out : List Value) (c : Nat) (g h' : Heap) (tk : Nat), (∀ b o, s.heap.get? b = some o → g.get? b = some o) → (∀ b o, g.get? b = some o → h'.get? b = some o) → h'.get? g.objs.size = some (seqObj "list" (List.toArray out) c) → out.length = n →
      EachIs (fun v (i : Nat) => ∃ t, v = Value.int (i : Int) t) out ((List.range n).mergeSort (dataLe false k)) → Q (.ref g.objs.size) { s with heap := h', toks := tk }) :
    wpAny (model prog w) A (call (.builtin "sorted") [.ref r] [(Str.ofString "key", .ref f)]) Q E s := by
  refine call_function_entry_kw kind_sorted plain_sorted entry_sorted (ksk_s1 (.ref r) (.ref f)) ?_
  unfold Builtin.«sorted»
  refine wpAny_bind (m := checkCount "sorted" 1 1 [Value.ref r].length) (wpAny_pure ?_)
  have hh1 : A.in1.handled = none := hh
  have hsize : Builtin.Range.rangeSize 0 (n : Int) 1 = ((n : Nat) : Int) := by
    rw [rangeSize_nat]
    omega
  refine wpAny_bind (collect_range (n := n) hh1 hr (small_one (by decide) (by decide) (by omega) (by omega)) hsize (by omega) fun h1 tk acc kp hi => ?_)
  have hlen : acc.toList.length = n := by rw [Array.length_toList]; exact hi.1
  have hZ : acc.toList.length ≤ sizeLine := by rw [hlen, sizeLine_eq]; omega
  refine wpAny_bind (wpAny_newList ?_ hZ)
  have hD : (h1.push (seqObj "list" acc.toList.toArray 0)).get? h1.objs.size = some (seqObj "list" acc.toList.toArray 0) := Heap.get?_push_size _ rfl
  have up : ∀ {g : Heap}, KeepsBut h1.objs.size (h1.push (seqObj "list" acc.toList.toArray 0)) g → ∀ b o, h1.get? b = some o → g.get? b = some o := fun {g} q b o e => q b o (Nat.ne_of_lt (Heap.lt_size e)) (Heap.get?_push_of_some _ e)
  have hE := each_items hi
  refine wpAny_bind (wpAny_holding (wpAny_call_entry_kw slot_list_sort ⟨_, hD, rfl⟩ entry_list_sort ?sort (ksk_l1 (.ref h1.objs.size) (.ref f))))
  show wpAny (model prog w) A.in1.in1 (Builtin.«list.sort» ⟨[.ref h1.objs.size], [(Str.ofString "key", .ref f)]⟩) _ _ { s with heap := h1.push (seqObj "list" acc.toList.toArray 0), toks := tk }
  rw [ksk_t1]
  refine PySem.W.keyH_tree (kz := (List.range n).map k) (vs := acc.toList) (s := { s with heap := h1.push (seqObj "list" acc.toList.toArray 0), toks := tk }) hD (by rw [List.length_map, List.length_range, hlen]) hZ hal hsk (PySem.W.bound_map (A := A.in1.in1) hu)
    (PySem.W.keyH_turns (s := { s with heap := h1.push (seqObj "list" acc.toList.toArray 0), toks := tk }) hE fun v x hR hx g tk' q => ?_) fun h2 tk2 out c q hd2 ko => ⟨_, rfl, ?_⟩
  · obtain ⟨t, rfl⟩ := hR
    exact turn x t g tk' (List.mem_range.mp hx) (fun b o e => up q b o (kp b o e))
  · refine wpAny_pure ⟨_, rfl, ?_⟩
    refine h out c h1 h2 tk2 kp (up q) hd2 ?_ (PySem.W.keyedOut_each k ko hE)
    rw [ko.length (by rw [List.length_map, List.length_range, hlen]), hlen]
end
end Fl
namespace Fl
open PySem PySem.Spec PyProof.Rows L2 LamX
open PySem.W (kla_obj kla_fn KeyPure KeepsBut AllAlike Sortable EachIs dataLe KeyedOut)
/-! ### the sorting as a rule -/
def keyOf (xs : List Int) (i : Nat) : PyData := .tuple [.int (-(xs.getD i 0)), .int (i : Int)]
theorem extn_seq {K : PySem.W.Frag} {H H' : Hp} {a : Addr} {xs : List V} (e : ExtN H H') (h : SqL K H a xs) : SqL K H' a xs := by
  rcases h with (q | ⟨ob, q⟩) | q
  · exact Or.inl (Or.inl (e _ _ q fun ps z => by cases z))
  · exact Or.inl (Or.inr ⟨ob, e _ _ q fun ps z => by cases z⟩)
  · exact Or.inr q
theorem each_vals : ∀ {us : List Value} {is : List Nat}, EachIs (fun v (i : Nat) => ∃ t, v = Value.int (i : Int) t) us is → Vals (is.map fun i : Nat => V.int (i : Int)) us
  | _, _, .nil => .nil
  | _, _, .cons r q => .cons r (each_vals q)
theorem range1_call {X : Cx} : CallR X (.type "range") (fun vs H Q => ∃ j : Int, vs = [V.int j] ∧ ∀ p, H p = none → Q (.ref p) (upd H p (.rng 0 j))) := by
  rintro pins s σ H vs us Q I r ⟨j, rfl, q⟩
  obtain ⟨u1, rfl, t, rfl⟩ := vals1 r
  refine call_range_1 ⟨.ref s.heap.objs.size, upd H s.heap.objs.size (.rng 0 j), ?_, rfl, q _ (I.hok.fresh (Nat.le_refl _))⟩
  exact I.laid (t' := s.toks + 1 + 1) (fun b o e => Heap.get?_push_of_some _ e) (Nat.le_refl _) ⟨_, _, _, Heap.get?_push_size _ rfl⟩
def tSrt (K : PySem.W.Frag) (T : List (Addr × Str)) (ic is : Nat) : TE := fun σ H Q => ∃ (n : Nat) (l : Addr) (xs : List Int), σ[ic]? = some (some (.int (n : Int))) ∧ σ[is]? = some (some (.ref l)) ∧ SqL K H l (xs.map V.int) ∧ n ≤ xs.length ∧ n ≤ 1000 ∧ Tabs T H ∧
  ∀ (H' : Hp) (p : Addr), ExtN H H' → H' p = some (.lst (((List.range n).mergeSort (dataLe false (keyOf xs))).map fun i : Nat => V.int (i : Int))) → Q (.ref p) H'
theorem pe_srt {X : Cx} {T : List (Addr × Str)} {c P : Addr} {ic is k : Nat} {params : Arguments} {scope : Scope} {x1 : Nat} {p1 p2 p3 p4 p5 p6 q1 q2 q3 q4 q5 q6 q7 : Pos}
    (hr : Room k X.A) (hc : X.calm = true) (hgS : Gl X "sorted") (hmS : X.mg "sorted" = none) (hgR : Gl X "range") (hmR : X.mg "range" = none)
    (hNc : X.N[ic]? = some ("count" : Str)) (hvc : Vis X.env.scope "count") (hNs : X.N[is]? = some ("strengths" : Str)) (hvs : X.env.scope.names.lookup ("strengths" : Str) = some .cell)
    (TB : TabB X.base X.mg c P) (hcode : X.env.code = .ref c) (hm : (P, X.env.qual ++ "<lambda>") ∈ T) (hu : ∀ p ∈ T, p.1 = P → p.2 = X.env.qual ++ "<lambda>") (hdef : defaultsOf params X.env = ([], [])) (S : KeyScope scope)
    (hbind : ∀ (q : Str) (cl : List (Str × Addr)) (pm cv ctv v : Value), bindArgs (kla_fn "<lambda>" q params (keyBody p1 p2 p3 p4 p5 p6 x1) scope cl pm cv ctv) ⟨[v], []⟩ = pure [(("place" : Str), v)])
    (hall : (backToKw q7 (keywordEach [⟨some "key", .Lambda params (keyBody p1 p2 p3 p4 p5 p6 x1) scope q5, q6⟩] X.env)).all (·.1.isSome) = true := by rfl) (hnone : (backToKw q7 (keywordEach [⟨some "key", .Lambda params (keyBody p1 p2 p3 p4 p5 p6 x1) scope q5, q6⟩] X.env)).any (·.1.isNone) = false := by rfl) :
    PE X (.Call (.Name "sorted" q1) [.Call (.Name "range" q2) [.Name "count" q3] [] q4] [⟨some "key", .Lambda params (keyBody p1 p2 p3 p4 p5 p6 x1) scope q5, q6⟩] q7) (tSrt X.K T ic is) := by
  refine ⟨fun pins s σ H Q I h => ?_⟩
  obtain ⟨n, l, xs, hσc, hσs, hS, hn, hn2, hT, kq⟩ := h
  refine wpAny_Call_Name_kw (ld_blt I hgS hmS (by decide +kernel : bootBuiltins "sorted" = some (.builtin "sorted")) ?_)
  have ha : PA X [.Call (.Name "range" q2) [.Name "count" q3] [] q4] _ := pa_cons (pe_callTy range1_call hgR hmR (by decide +kernel) (pa_cons (pe_var (i := ic) hNc hvc) pa_nil)) pa_nil
  refine PyProof.Rows.callWith_kw (thn (ha.run q7 pins s σ H (fun vs H1 => ∃ r, vs = [.ref r] ∧ H r = none ∧ H1 = upd H r (.rng 0 (n : Int))) I ⟨_, hσc, (n : Int), rfl, fun r hr => ⟨r, rfl, hr, rfl⟩⟩) fun us s1 ⟨vs, H1, I1, r1, r, ev, hr0, e1⟩ => ?_) rfl rfl hall hnone
  subst ev e1
  obtain rfl := Vals.ref1 r1
  have eN1 : ExtN H (upd H r (.rng 0 (n : Int))) := ExtN.of (Same.put (Same.refl H) hr0)
  have hT1 : Tabs T (upd H r (.rng 0 (n : Int))) := hT.ext (Same.put (Same.refl H) hr0)
  -- the cell of the captured name
  have hfree : ∀ y ∈ scope.names, y.2 = .free → ∃ cc, X.env.cells.lookup y.1 = some cc := fun y hy e => by
    rw [S.frees y hy e]
    exact I.ok.has _ (Or.inl hvs)
  show wpAny _ _ (evalAll [do let v ← eval (.Lambda params (keyBody p1 p2 p3 p4 p5 p6 x1) scope q5) X.env; standAt q7; pure v]) _ _ s1
  refine wpAny_evalAll_cons (wpAny_bind (lam_make2 I1 TB hcode hm hu hT1 hdef hfree fun f c' pm ctv H2 s2 I2 eN2 T2 hf hfn hfr hco => wpAny_bind (wpAny_standAt (wpAny_pure (wpAny_evalAll_nil ?_)))))
  show wpAny _ _ (call (.builtin "sorted") [.ref r] [(Str.ofString "key", .ref f)]) _ _ s2
  have eN := eN1.trans eN2
  obtain ⟨u1, u2, u3, hrg⟩ : ObjOk X.prog X.w H2 s2.heap r (.rng 0 (n : Int)) := I2.hok r _ (eN2 _ _ upd_same fun ps z => by cases z)
  obtain ⟨its, rv, pl, hz⟩ := I2.list (extn_seq eN hS)
  obtain ⟨m, hns, hlk⟩ := I2.loc
  obtain ⟨ul, rl, lk⟩ := hlk is _ _ hNs hσs (Or.inr (Or.inl hvs))
  obtain rfl : ul = Value.ref l := rl
  obtain ⟨cc, hcc, hcell⟩ : ∃ cc, X.env.cells.lookup ("strengths" : Str) = some cc ∧ s2.heap.IsCell cc (some (.ref l)) := by
    rcases lk with ⟨z, _⟩ | ⟨_, z⟩
    · have z' : X.env.scope.names.lookup ("strengths" : Str) = some .local := z
      rw [hvs] at z'
      cases z'
    · exact z
  have hclo : (cloFrom X.env.cells scope.names []).lookup ("strengths" : Str) = some cc := NdefX.clo_has hfree (PySem.mem_of_lookup S.free) hcc
  obtain ⟨⟨oc, vs, t, hoc, hdc, hvc2⟩, _, _⟩ := I2.hok c' _ hco
  have hun := hr.units
  refine sorted_range_key (k := keyOf xs) (I2.ok.hd hc) hrg hn2 (AllAlike.of fun b b' => by simp [keyOf, PySem.W.alike, PySem.W.alikeAll]) (Sortable.tuples fun b => ⟨_, _, rfl⟩) (fun i _ => ?_) (fun i t g tk hi kp => ?_) fun out cn g h' tk kg kh hD hlen hE => ?_
  · have e : (keyOf xs i).depth ≤ 10 := by
      simp [keyOf, PyData.depth, PyData.depthAll]
    show X.A.units + 1 + 1 + _ < cLine
    omega
  · have hix : i < xs.length := by omega
    obtain ⟨u, hu1, tz, rfl⟩ := rv.get (i := i) (x := .int (xs.getD i 0)) (by rw [List.getElem?_map, List.getElem?_eq_getElem hix, List.getD_eq_getElem?_getD, List.getElem?_eq_getElem hix] <;> rfl)
    exact key_call (s := { s2 with heap := g, toks := tk }) (kp _ _ hf) ⟨c', oc, vs, _, rfl, kp _ _ hoc, hdc, hvc2⟩ hr.depth (I2.nolimit.keeps kp) S (hbind _ _ _ _ _ _) hclo (hcell.keeps kp) (pl.keeps kp) hu1 (by omega)
  · have I3 : Inv X pins σ H2 { s2 with heap := g, toks := tk } := I2.kept kg
    have n3 := I3.hok.fresh (Nat.le_refl _)
    have I4 : Inv X pins σ (upd H2 g.objs.size (.lst (((List.range n).mergeSort (dataLe false (keyOf xs))).map fun i : Nat => V.int (i : Int)))) { s2 with heap := h', toks := tk } :=
      I3.laid (t' := tk) kh (Nat.le_refl _) ⟨by rw [List.length_map, List.length_mergeSort, List.length_range, sizeLine_eq]; omega, out, cn, each_vals hE, hD⟩
    exact ⟨.ref g.objs.size, _, I4, rfl, kq _ _ (eN.trans (ExtN.of (Same.put (Same.refl H2) n3))) upd_same⟩
end Fl
namespace Fl
open PySem.W (dataLe dataLe_ii)
/-! ### the mathematics of the sorting -/
theorem putIn_congr {p q : Nat → Nat → Bool} {i : Nat} : ∀ {l : List Nat}, (∀ j ∈ l, p i j = q i j) → putIn p i l = putIn q i l
  | [], _ => rfl
  | j :: r, h => by
    unfold putIn
    rw [h j (List.mem_cons_self ..), putIn_congr fun x hx => h x (List.mem_cons_of_mem _ hx)]
theorem orderOf_congr {p q : Nat → Nat → Bool} : ∀ {l : List Nat}, (∀ i ∈ l, ∀ j ∈ l, p i j = q i j) → orderOf p l = orderOf q l
  | [], _ => rfl
  | i :: r, h => by
    show putIn p i (orderOf p r) = putIn q i (orderOf q r)
    rw [orderOf_congr fun a ha b hb => h a (List.mem_cons_of_mem _ ha) b (List.mem_cons_of_mem _ hb)]
    exact putIn_congr fun j hj => h i (List.mem_cons_self ..) j (List.mem_cons_of_mem _ (mem_orderOf hj))
theorem orderOf_sorted {p : Nat → Nat → Bool} (tr : ∀ a b c, p a b = true → p b c = true → p a c = true) (tot : ∀ a b, a ≠ b → p a b = true ∨ p b a = true) : ∀ {l : List Nat}, l.Nodup → (orderOf p l).Pairwise fun a b => p a b = true
  | [], _ => List.Pairwise.nil
  | i :: r, h => by
    have h' := List.nodup_cons.mp h
    exact putIn_sorted tr (fun j hj => tot i j fun e => h'.1 (by rw [e]; exact mem_orderOf hj)) (orderOf_sorted tr tot h'.2)
/-- i stands ahead of j, by numbers that tell how strong they are -/
def aheadX (x : Nat → Nat) (i j : Nat) : Bool := decide (x j < x i ∨ (x j = x i ∧ i < j))
theorem aheadX_iff {x : Nat → Nat} {i j : Nat} : aheadX x i j = true ↔ x j < x i ∨ (x j = x i ∧ i < j) := decide_eq_true_iff
theorem cast_getD (l : List Nat) (i : Nat) : (cast l).getD i 0 = ((l.getD i 0 : Nat) : Int) := by
  unfold cast
  rw [List.getD_eq_getElem?_getD, List.getD_eq_getElem?_getD, List.getElem?_map]
  cases l[i]? <;> rfl
theorem sort_is (l : List Nat) (n : Nat) : (List.range n).mergeSort (dataLe false (keyOf (cast l))) = orderOf (aheadX fun i => l.getD i 0) (List.range n) := by
  have e : dataLe false (keyOf (cast l)) = fun p q => decide (-((cast l).getD p 0) < -((cast l).getD q 0) ∨ (-((cast l).getD p 0) = -((cast l).getD q 0) ∧ (p : Int) ≤ (q : Int))) :=
    dataLe_ii (fun i => -((cast l).getD i 0)) (fun i : Nat => (i : Int))
  have le_iff : ∀ p q : Nat, dataLe false (keyOf (cast l)) p q = true ↔ l.getD q 0 < l.getD p 0 ∨ (l.getD p 0 = l.getD q 0 ∧ p ≤ q) := fun p q => by
    rw [e]
    show decide _ = true ↔ _
    rw [decide_eq_true_iff, cast_getD, cast_getD]
    omega
  generalize dataLe false (keyOf (cast l)) = le at *
  have hp : ((List.range n).mergeSort le).Perm (List.range n) := List.mergeSort_perm _ _
  have hs : ((List.range n).mergeSort le).Pairwise fun a b => le a b = true := List.pairwise_mergeSort (fun a b c h1 h2 => by
    rw [le_iff] at h1 h2 ⊢
    omega) (fun a b => by
    rw [Bool.or_eq_true, le_iff, le_iff]
    omega) _
  have hd : ((List.range n).mergeSort le).Nodup := hp.nodup_iff.mpr List.nodup_range
  have hx : ((List.range n).mergeSort le).Pairwise fun a b => aheadX (fun i => l.getD i 0) a b = true := (hs.and hd).imp fun {a b} h => by
    obtain ⟨h1, h2⟩ := h
    rw [le_iff] at h1
    rw [aheadX_iff]
    omega
  refine sorted_one (p := aheadX fun i => l.getD i 0) (fun a b h1 h2 => ?_) (hp.trans (orderOf_perm _).symm) hx (orderOf_sorted (fun a b c h1 h2 => ?_) (fun a b h => ?_) List.nodup_range)
  · rw [aheadX_iff] at h1 h2
    omega
  · rw [aheadX_iff] at h1 h2 ⊢
    omega
  · rw [aheadX_iff, aheadX_iff]
    omega
/-! ### comparing over the common denominator -/
theorem cross {a b d e q r c : Nat} (h1 : c = d * q) (h2 : c = e * r) (hc : 0 < c) : (b * d < a * e ↔ b * r < a * q) ∧ (b * d = a * e ↔ b * r = a * q) := by
  have hq : 0 < q := Nat.pos_of_ne_zero fun z => by rw [z, Nat.mul_zero] at h1; omega
  have hr : 0 < r := Nat.pos_of_ne_zero fun z => by rw [z, Nat.mul_zero] at h2; omega
  have hqr : 0 < q * r := Nat.mul_pos hq hr
  have e1 : b * d * (q * r) = b * r * c := by
    rw [h1]
    simp only [Nat.mul_assoc, Nat.mul_comm, Nat.mul_left_comm]
  have e2 : a * e * (q * r) = a * q * c := by
    rw [h2]
    simp only [Nat.mul_assoc, Nat.mul_comm, Nat.mul_left_comm]
  constructor
  · rw [← Nat.mul_lt_mul_right hqr, e1, e2, Nat.mul_lt_mul_right hc]
  · rw [← Nat.mul_left_inj (Nat.pos_iff_ne_zero.mp hqr), e1, e2, Nat.mul_left_inj (Nat.pos_iff_ne_zero.mp hc)]
theorem com_dvd (k : Nat) : ∀ (ms : List Ks604.Lot) (c : Nat), c ∣ ms.foldl (fun c m => c * strBot k m) c ∧ ∀ m ∈ ms, strBot k m ∣ ms.foldl (fun c m => c * strBot k m) c
  | [], c => ⟨Nat.dvd_refl c, fun m h => absurd h List.not_mem_nil⟩
  | m :: ms, c => by
    obtain ⟨h1, h2⟩ := com_dvd k ms (c * strBot k m)
    refine ⟨Nat.dvd_trans (Nat.dvd_mul_right ..) h1, fun x hx => ?_⟩
    rcases List.mem_cons.mp hx with rfl | hx
    · exact Nat.dvd_trans (Nat.dvd_mul_left ..) h1
    · exact h2 x hx
theorem com_pos (k : Nat) : ∀ (ms : List Ks604.Lot) (c : Nat), 0 < c → (∀ m ∈ ms, 0 < strBot k m) → 0 < ms.foldl (fun c m => c * strBot k m) c
  | [], c, h, _ => h
  | m :: ms, c, h, hm => com_pos k ms _ (Nat.mul_pos h (hm m (List.mem_cons_self ..))) fun x hx => hm x (List.mem_cons_of_mem _ hx)
theorem strOf_at {k : Nat} {fs : List Nat} {i : Nat} (hi : i < fs.length / 4) : (strOf k (lotsF fs)).getD i 0 = scaled k (comK k (lotsF fs)) (lotF fs i) := by
  unfold strOf
  rw [List.getD_eq_getElem?_getD, List.getElem?_map]
  have e : (lotsF fs)[i]? = some (lotF fs i) := by
    unfold lotsF
    rw [List.getElem?_map, List.getElem?_range hi] <;> rfl
  rw [e] <;> rfl
theorem order_same {k : Nat} {fs : List Nat} (hok : okLots fs = true) : orderOf (aheadX fun i => (strOf k (lotsF fs)).getD i 0) (List.range (fs.length / 4)) = orderOf (ahead k fs) (List.range (fs.length / 4)) := by
  refine orderOf_congr fun i hi j hj => ?_
  have hi' := List.mem_range.mp hi
  have hj' := List.mem_range.mp hj
  have memF : ∀ x, x < fs.length / 4 → lotF fs x ∈ lotsF fs := fun x hx => List.mem_map.mpr ⟨x, List.mem_range.mpr hx, rfl⟩
  have posF : ∀ m ∈ lotsF fs, 0 < strBot k m := fun m hm => Nat.pow_pos (by have := okLot_iff.mp (lotsF_ok hok m hm); omega)
  have hc : 0 < comK k (lotsF fs) := com_pos k _ 1 (by decide) posF
  have d1 : strBot k (lotF fs i) ∣ comK k (lotsF fs) := (com_dvd k (lotsF fs) 1).2 _ (memF i hi')
  have d2 : strBot k (lotF fs j) ∣ comK k (lotsF fs) := (com_dvd k (lotsF fs) 1).2 _ (memF j hj')
  have z := cross (a := strTop k (lotF fs i)) (b := strTop k (lotF fs j)) (Nat.mul_div_cancel' d1).symm (Nat.mul_div_cancel' d2).symm hc
  rw [Bool.eq_iff_iff, aheadX_iff]
  rw [strOf_at hi', strOf_at hj']
  unfold ahead scaled
  simp only [Bool.or_eq_true, Bool.and_eq_true, decide_eq_true_iff]
  rw [z.1, z.2]
theorem order_list {k : Nat} {fs : List Nat} (hok : okLots fs = true) : (List.range (fs.length / 4)).mergeSort (dataLe false (keyOf (cast (strOf k (lotsF fs))))) = orderOf (ahead k fs) (List.range (fs.length / 4)) := by
  rw [sort_is, order_same hok]
end Fl
namespace Fl
open PySem PySem.Spec PyProof.Rows L2 LamX
/-! ### order_by_strength -/
abbrev sAns : Stmt := top 9
def keyT (P : Addr) : List (Addr × Str) := [(P, ((("order_by_strength" : Str) ++ (".<locals>." : Str)) ++ ("<lambda>" : Str)))]
def spAns (PT : Addr) (K : PySem.W.Frag) : Sp := fun vs H Q _ => ∃ (k : Nat) (a : Addr) (fs : List Nat), vs = [.int (k : Int), .ref a] ∧ SqL K H a (nV fs) ∧ fs.length ≤ 27 ∧ Tabs (keyT PT) H ∧
  ∀ (H' : Hp) (p : Addr), H' p = some (.lst ((orderAns k fs).map V.int)) → Q (.ref p) H'
theorem scAns : FnScope ["month", "lots", "count", "strengths"] ["month", "lots"] (defScope sAns) := ⟨rfl, rfl, rfl, by decide +kernel, rfl, by decide +kernel, by decide +kernel⟩
theorem nV_map (l : List Nat) : (cast l).map V.int = l.map fun i : Nat => V.int (i : Int) := by
  unfold cast
  rw [List.map_map] <;> rfl
section
variable {P : Program} {w : World} {K : PySem.W.Frag} {mg : Str → Option Value} {base : Heap} {C : Addr}
theorem ok_ans {f cA PT : Addr} {oc : Value} {od an : Option Addr} {osl : Array (Option Value)} {kV doc pm ct : Value} (lk : K.lookup f = some ⟨oc, od, .func (PySem.W.fnOf "order_by_strength" "order_by_strength" (defArgs sAns) (defBody sAns) (defScope sAns) .none kV doc pm an (.ref cA) ct), osl⟩)
    (hcd : PySem.W.codeIn K (.ref cA) "order_by_strength" = true) (TB : TabB base mg cA PT) (T : Txt K mg C) (GA : Cal P w K mg base 4 "are_lots_within_limits" ["lots"] (spAre K)) (GF : Cal P w K mg base 1 "is_within" ["least", "number", "most"] spWithin)
    (GC : Cal P w K mg base 1 "count_lots" ["lots"] (spCount K)) (GS : Cal P w K mg base 5 "comparable_strengths" ["month", "lots"] (spStr K)) :
    FnOk P w K mg base CX0 6 f (PySem.W.fnOf "order_by_strength" "order_by_strength" (defArgs sAns) (defBody sAns) (defScope sAns) .none kV doc pm an (.ref cA) ct) ["month", "lots"] (spAns PT K) := by
  refine fn_of lk hcd scAns (fun vs H Q E h => ?_) (fun A outer s H vs Q E hr h => ?_)
  · obtain ⟨k, a, fs, rfl, _⟩ := h
    rfl
  · obtain ⟨k, a, fs, rfl, hS, hlen, hT, kq⟩ := h
    have hr1 : Room 1 _ := hr.mono (by decide)
    have go : ∃ t, PSs (cxOf CX0 P w K mg base ["month", "lots", "count", "strengths"] "order_by_strength" (defScope sAns) f (.ref cA) A outer s H E).nox (defBody sAns) t ∧ t { nx := fun _ H' => Q .non H', rt := Q } (start ["month", "lots", "count", "strengths"] [.int (k : Int), .ref a]) H := by
      refine ⟨_, pss_cons (ps_if (PW.pt (pw_or (pt_not (pt_val (pe_def GA (hr.mono (by decide)) rfl (pa_cons (pv 1) pa_nil))))
          (pw_or1 (pt_not (pt_val (pe_def GF hr1 rfl (pa_cons pe_int (pa_cons (pv 0) (pa_cons (pe_num rfl T.cLAST_MONTH) pa_nil))))))))) (pss_one (ps_ret (pe_lst (pa_cons (pe_num rfl T.cOUTSIDE_LIMITS) pa_nil)))) pss_nil)
        (pss_cons (ps_set (i := 2) scAns.nd rfl (Or.inl rfl) (pe_def GC hr1 rfl (pa_cons (pv 1) pa_nil)))
        (pss_cons (ps_set (i := 3) scAns.nd rfl (Or.inr rfl) (pe_def GS hr rfl (pa_cons (pv 0) (pa_cons (pv 1) pa_nil))))
        (pss_one (ps_ret (pe_op op_cat (pe_lst (pa_cons (pv 2) pa_nil)) (pe_srt (ic := 2) (is := 3) (T := keyT PT) hr rfl rfl T.sorted rfl T.range rfl (Or.inl rfl) rfl rfl TB rfl (List.mem_singleton.mpr rfl) (fun p hp _ => by rw [List.mem_singleton.mp hp] <;> rfl) rfl
          ⟨rfl, rfl, rfl, rfl, rfl, by decide +kernel, by decide +kernel⟩ (fun q cl pm cv ctv v => rfl))))))), ?_⟩
      unfold orderAns at kq
      refine ⟨_, rfl, a, fs, rfl, hS, hlen, fun H1 s1 => ⟨_, rfl, ?_⟩⟩
      by_cases c1 : okLots fs = true
      · rw [if_pos c1] at kq
        refine ff_if (by rw [c1] <;> rfl) ?_
        refine ⟨_, rfl, 0, k, 40, rfl, _, rfl, ?_⟩
        by_cases c2 : k ≤ 40
        · rw [if_neg (show ¬ 40 < k by omega), ← order_list c1] at kq
          refine ff_if (not_false' ⟨Nat.zero_le _, c2⟩) ?_
          have h6 : fs.length / 4 ≤ 6 := by
            have := ((okLots_iff fs).mp c1).2
            omega
          refine ⟨_, rfl, a, fs, rfl, s1.seq hS, ?_⟩
          refine ⟨_, rfl, _, rfl, k, a, fs, rfl, s1.seq hS, hlen, c1, c2, fun H2 l s2 hl hq => ?_⟩
          refine ⟨_, rfl, (by show 1 ≤ sizeLine; decide), fun p0 hp0 => ?_⟩
          have s3 : Same H2 (upd H2 p0 (.lst [.int ((fs.length / 4 : Nat) : Int)])) := Same.put (Same.refl H2) hp0
          have hl4 : (strOf k (lotsF fs)).length = fs.length / 4 := by
            unfold strOf
            rw [List.length_map, lotsF_len]
          refine ⟨fs.length / 4, l, cast (strOf k (lotsF fs)), rfl, rfl, SqL.of (s3 _ _ hq), ?_, by omega, hT.ext (s1.trans (s2.trans s3)), fun H' p eN hp => ?_⟩
          · unfold cast
            rw [List.length_map, hl4]
            exact Nat.le_refl _
          · refine ⟨p0, p, _, _, rfl, rfl, eN _ _ upd_same (fun ps z => by cases z), hp, ?_, fun p3 hp3 => ?_⟩
            · rw [List.length_map, List.length_mergeSort, List.length_range, sizeLine_eq]
              simp only [List.length_singleton]
              omega
            · refine kq _ p3 ?_
              rw [upd_same, List.map_cons, nV_map] <;> rfl
        · rw [if_pos (show 40 < k by omega)] at kq
          refine tt_if (not_true fun z => c2 z.2) ?_
          exact ⟨(by show 1 ≤ sizeLine; decide), fun p hp => kq _ p upd_same⟩
      · rw [if_neg c1] at kq
        refine tt_if (by rw [Bool.eq_false_iff.mpr c1] <;> rfl) ?_
        refine tt_if rfl ?_
        exact ⟨(by show 1 ≤ sizeLine; decide), fun p hp => kq _ p upd_same⟩
    obtain ⟨t, h1, h2⟩ := go
    exact ⟨t, h1.nox, h2⟩
end
end Fl
namespace Fl
open PySem PySem.Spec PyProof.Rows L2 LamX
open PySem.W (WData Codec OpenSpec WellAll ReadsW CodeHd tabIn noTabs tabObj)
/-! ### the end of the row where the def makes a lambda: its code object's table is tracked, too -/
mutual
theorem dw_more {K : PySem.W.Frag} {H H' : Hp} (e : Same H H') : ∀ {v : V} {d : WData}, Dw K H v d → Dw K H' v d
  | _, _, .non => .non
  | _, _, .bl b => .bl b
  | _, _, .int i => .int i
  | _, _, .str x => .str x
  | _, _, .byt b => .byt b
  | _, _, .lst q r => .lst (e.seq q) (dwAll_more e r)
  | _, _, .tup q r => .tup (by
      rcases q with (z | ⟨ob, z⟩) | z
      · exact Or.inl (Or.inl (e _ _ z))
      · exact Or.inl (Or.inr ⟨ob, e _ _ z⟩)
      · exact Or.inr z) (dwAll_more e r)
theorem dwAll_more {K : PySem.W.Frag} {H H' : Hp} (e : Same H H') : ∀ {vs : List V} {ds : List WData}, DwAll K H vs ds → DwAll K H' vs ds
  | _, _, .nil => .nil
  | _, _, .cons q r => .cons (dw_more e q) (dwAll_more e r)
end
/-- G, and at PT a table that is empty still -/
def withTab (G : Hp) (PT : Addr) : Hp := fun b => if b = PT then some (.tbl #[]) else G b
theorem withTab_at {G : Hp} {PT : Addr} : withTab G PT PT = some (.tbl #[]) := if_pos rfl
theorem withTab_ne {G : Hp} {PT b : Addr} (h : b ≠ PT) : withTab G PT b = G b := if_neg h
section
variable {P : Program} {w : World} {K : PySem.W.Frag} {mg mb : Str → Option Value}
theorem spec_callT {k : Nat} {fa c PT : Addr} {fd : FuncData} {ps : List Str} {sp : Sp} {s1 : Shared} {vals : List Value} {ds : List WData} {R : PySem.W.WRecords} {cl : Str → Option Addr} {d0 : WData}
    (KX : K.In s1.heap) (hG : s1.heap.Ns mainGlobals mg) (hB : s1.heap.Ns builtinsNs mb) (hbb : ∀ x : Str, x ≠ "__name__" → mb x = bootBuiltins x) (hlim : s1.heap.NoLimit) (hgen : s1.gens = #[])
    (hbm : ∃ bm ob, mg "__builtins__" = some (.ref bm) ∧ bm ≠ builtinsNs ∧ s1.heap.get? bm = some ob ∧ ob.cls = .type "module" ∧ ob.dict = some builtinsNs ∧ ob.data = .plain)
    (hT : s1.heap.get? PT = some (tabObj #[])) (nT : K.lookup PT = none) (hC : CodeHd s1.heap c PT)
    (hwl : WellAll w.params s1.heap vals ds) (hpl : plWs ds = true) (hwt : ∀ d ∈ ds, d.weight ≤ 1048576) (hr : Room k callerA)
    (F : ∀ base : Heap, K.In base → base.Ns mainGlobals mg → TabB base mg c PT → FnOk P w K mg base CX0 k fa fd ps sp) (hbind : ∀ (s : Shared) (us : List Value), us.length = ps.length → BindsTo s fd ⟨us, []⟩ (ps.zip us)) (hlen : ds.length = ps.length)
    (hsp : ∀ (H : Hp) (xs : List V), H PT = some (.tbl #[]) → DwAll K H xs ds → sp xs H (fun v H' => Dw K H' v d0) fun _ _ _ => False) :
    codeAny (model P w) callerA (.call (.ref fa) ⟨vals, []⟩) (fun r s' => ∃ u as, r = .ok (.ret u) ∧ ReadsW R cl s'.heap u d0 as ∧ OldK s1.heap s'.heap ∧ s'.os = s1.os ∧ AllBare s'.gens) s1 := by
  obtain ⟨A, okA, ar⟩ := area_all ds vals hwl hpl hwt
  -- what is tracked of the arguments: lists and tuples, none of them the table
  have isSeq : ∀ {b : Addr} {u : HO}, argH K s1.heap A b = some u → K.lookup b = none ∧ ∃ (ob : Obj) (vs : Array Value) (n : Nat) (o : HO), s1.heap.get? b = some ob ∧ ob.data = .seq vs n ∧ u = .frz ob o := fun {b u} q => by
    obtain ⟨h0, vs, _, _, ⟨e, rfl⟩ | ⟨e, rfl⟩⟩ := argH_is ar q
    · exact ⟨h0, _, _, _, _, e, rfl, rfl⟩
    · exact ⟨h0, _, _, _, _, e, rfl, rfl⟩
  have okG : HOk P w (argH K s1.heap A) s1.heap := argH_ok ar
  have rdG := dw_all KX ar ds vals hwl hpl okA
  generalize argH K s1.heap A = G at *
  have gT : G PT = none := by
    cases q : G PT with
    | none => rfl
    | some u =>
      obtain ⟨_, ob, vs, n, o, e, d, _⟩ := isSeq q
      rw [hT] at e
      cases e
      cases d
  have same : Same G (withTab G PT) := fun b u q => by
    rw [withTab_ne (ne_of_none q gT)]
    exact q
  have okH : HOk P w (withTab G PT) s1.heap := fun b u q => by
    by_cases hb : b = PT
    · subst hb
      rw [withTab_at] at q
      cases q
      exact hT
    · rw [withTab_ne hb] at q
      exact (okG b u q).stay (fun _ _ _ z => z) (fun _ z => same _ _ z) fun _ _ z => same _ _ z
  have rdH := dwAll_more same rdG
  have atT : withTab G PT PT = some (.tbl #[]) := withTab_at
  have free : ∀ {b : Addr} {ob : Obj}, s1.heap.get? b = some ob → (∀ vs n, ob.data ≠ .seq vs n) → b ≠ PT → withTab G PT b = none := fun {b ob} e hd hb => by
    rw [withTab_ne hb]
    cases q : G b with
    | none => rfl
    | some u =>
      obtain ⟨_, ob', vs, n, o, e', d, _⟩ := isSeq q
      rw [e] at e'
      cases e'
      exact absurd d (hd vs n)
  have isTab : ∀ {b : Addr} {ob : Obj}, s1.heap.get? b = some ob → ob.data ≠ .fields #[] → b ≠ PT := fun {b ob} e hd z => by
    subst z
    rw [hT] at e
    cases e
    exact hd rfl
  have dicts : ∀ {b : Addr} {m : Str → Option Value}, s1.heap.Ns b m → (hidT s1.heap (withTab G PT)).Ns b m := fun {b m} ⟨ob, es, ep, e, d, r⟩ =>
    ⟨ob, es, ep, hidT_get e (free e (fun vs n z => by rw [d] at z; cases z) (isTab e fun z => by rw [d] at z; cases z)), d, r⟩
  have hK : ∀ b o, K.lookup b = some o → withTab G PT b = none ∧ b ≠ PT := fun b o e => by
    have hb : b ≠ PT := fun z => by
      rw [z, nT] at e
      cases e
    refine ⟨?_, hb⟩
    rw [withTab_ne hb]
    cases q : G b with
    | none => rfl
    | some u =>
      rw [(isSeq q).1] at e
      cases e
  have inB : K.In (hidT s1.heap (withTab G PT)) := fun b o e => hidT_get (KX b o e) (hK b o e).1
  have gB := dicts hG
  have modB : L2.Mod K mg (hidT s1.heap (withTab G PT)) := ⟨inB, gB, ⟨mb, dicts hB, hbb⟩, hlim.elim fun mc z => ⟨mc, dicts z.1, z.2⟩⟩
  have tabB : TabB (hidT s1.heap (withTab G PT)) mg c PT := by
    refine ⟨?_, ?_, ?_⟩
    · obtain ⟨ob, us, fl, t1, fg, t2, nf, tx, t3, e1, z1, z2, z3, z4, z5, z6, z7, z8, z9⟩ := hC
      refine ⟨ob, us, fl, t1, fg, t2, nf, tx, t3, hidT_get e1 (free e1 (fun vs n z => ?_) z9), z1, z2, z3, z4, z5, z6, z7, z8, z9⟩
      rw [z2] at z
      cases z
    · obtain ⟨bm, ob, z1, z2, z3, z4, z5, z6⟩ := hbm
      have n1 : bm ≠ mainGlobals := fun z => by
        obtain ⟨ob', es, ep, e, d, _⟩ := hG
        rw [z, e] at z3
        cases z3
        rw [d] at z6
        cases z6
      have n2 : bm ≠ PT := isTab z3 fun z => by
        rw [z6] at z
        cases z
      exact ⟨bm, ob, z1, z2, n1, n2, hidT_get z3 (free z3 (fun vs n z => by rw [z6] at z; cases z) n2), z4, z5, z6⟩
    · obtain ⟨ob', es, ep, e, d, _⟩ := hG
      exact isTab e fun z => by
        rw [d] at z
        cases z
  have env0 : Env0 P w K mg (hidT s1.heap (withTab G PT)) callerA [] s1 (withTab G PT) :=
    { frames := rfl, mod := modB, bs := fun b o z => of_hidT z, bsz := Nat.le_of_eq (hidT_size s1.heap (withTab G PT)), funs := trivial, frf := fun b z => absurd (show b ∈ ([] : List Addr) from z) List.not_mem_nil, hok := okH, bare := AllBare.of_eq hgen }
  have lenV : vals.length = ps.length := (wellAll_len hwl).trans hlen
  refine codeAny_mono ((F _ inB gB tabB).run callerA [] s1 (withTab G PT) ⟨vals, []⟩ vals (vals.map toV) _ _ hr env0 (hbind s1 vals lenV) (vals_toV okA) (hsp _ _ atT rdH)) fun r s' z => ?_
  match r, z with
  | .error _, z => exact z.elim
  | .ok .next, z => exact z.elim
  | .ok .brk, z => exact z.elim
  | .ok .cont, z => exact z.elim
  | .ok (.ret u), z =>
    obtain ⟨v, H', z1, z2, un, okH', rv, q⟩ := z
    have kept : ∀ b o, b ≠ PT → s1.heap.get? b = some o → s'.heap.get? b = some o := fun b o hb e => by
      cases z : withTab G PT b with
      | none => exact un.keep b o e z (fun y => absurd (show b ∈ ([] : List Addr) from y) List.not_mem_nil) List.not_mem_nil
      | some y =>
        have z' := z
        rw [withTab_ne hb] at z
        obtain ⟨_, ob, vs, n, o', e', _, rfl⟩ := isSeq z
        rw [e] at e'
        cases e'
        exact (okH' b _ (un.frzs b _ o' z')).1
    obtain ⟨more, hmore⟩ := un.tbls PT #[] atT
    have grown : s'.heap.get? PT = some (tabObj (#[] ++ more)) := okH' PT _ hmore
    obtain ⟨as, hrd⟩ := Dw.reads (R := R) (cl := cl) okH' (fun b o e => kept b o (hK b o e).2 (KX b o e)) d0 v u q rv
    refine ⟨u, as, rfl, hrd, ⟨fun b o e => ?_, fun b o e => ?_⟩, z1, z2⟩
    · by_cases hb : b = PT
      · rw [hb] at e ⊢
        rw [hT] at e
        cases e
        exact Or.inr (Or.inl ⟨(hC.tab hT).isCodeTable, rfl, #[], more, rfl, grown⟩)
      · exact Or.inl (kept b o hb e)
    · by_cases hb : b = PT
      · rw [hb]
        exact ⟨_, grown⟩
      · exact ⟨o, kept b o hb e⟩
end
end Fl
namespace Fl
open PySem PySem.Spec PyProof.Rows L2 LamX
open PySem.W (WData Codec OpenSpec CodeHd tabIn noTabs tabObj)
theorem code_of_tab {K : PySem.W.Frag} {x : Str} {c PT f : Addr} {oc : Value} {od : Option Addr} {fd : FuncData} {osl : Array (Option Value)} (ht : tabIn K x = some (c, PT)) (ha : PySem.W.nsIn K mainGlobals x = some (some (.ref f)))
    (hl : K.lookup f = some ⟨oc, od, .func fd, osl⟩) : fd.code = .ref c := by
  unfold tabIn at ht
  rw [ha] at ht
  dsimp only at ht
  rw [hl] at ht
  dsimp only at ht
  cases hc : fd.code with
  | ref c2 =>
    rw [hc] at ht
    dsimp only at ht
    split at ht
    · split at ht
      · cases ht
        rfl
      · cases ht
    · cases ht
  | _ =>
    rw [hc] at ht
    cases ht
theorem walk_specT {r : OpenSpec} {k : Nat} {q : Program} {loose : List Str} {XP : (Str → Option Value) → Heap → Prop} {YP : World → Heap → Prop} {d : DefRec} {K : Params → PySem.W.Frag} {ps : List Str} {x : Str} {sp : Addr → PySem.W.Frag → Sp}
    (said : r.wellSaid = true) (many : r.args.length = ps.length) (hr : Room k callerA) (inK : ∀ (w : World) (h : Heap), YP w h → (K w.params).In h)
    (known : ((recsOf q).find? fun e => e.name == x).isSome = true) (tab : ∀ p : Params, (tabIn (K p) x).isSome = true) (noT : ∀ p : Params, noTabs (K p) = true)
    (F : ∀ (w : World) (mg : Str → Option Value) (fa : Addr) (h : Heap) (c PT : Addr), (K w.params).In h → h.Ns mainGlobals mg → mg d.name = some (.ref fa) → tabIn (K w.params) x = some (c, PT) →
      ∃ fd : FuncData, (∀ (s : Shared) (us : List Value), us.length = ps.length → BindsTo s fd ⟨us, []⟩ (ps.zip us)) ∧
        ∀ base : Heap, (K w.params).In base → base.Ns mainGlobals mg → TabB base mg c PT → FnOk r.prog w (K w.params) mg base CX0 k fa fd ps (sp PT (K w.params)))
    (S : ∀ (K : PySem.W.Frag) (PT : Addr) (H : Hp) (xs : List V) (a : Codec.denoteAll r.args), H PT = some (.tbl #[]) → Codec.withinAll r.args a = true → DwAll K H xs (Codec.encAll r.args a) →
      sp PT K xs H (fun v H' => Dw K H' v (r.ret.enc (Codec.app r.args r.f a))) fun _ _ _ => False) :
    PySem.W.WalkOS q loose XP YP r d [] (fun f vs => PySem.call f vs) := by
  intro w s0 s1 mg mb G Y fa o pm cd doc dV kV _ _ _ _ named gens args vals as pre lay _ well _
  obtain ⟨a, dec, _⟩ := PySem.W.os_pre_some pre
  obtain ⟨enc, wi⟩ := Codec.encAll_of_decAll r.args args a dec
  subst enc
  have KX := inK w _ Y
  obtain ⟨⟨c, PT⟩, ht⟩ := Option.isSome_iff_exists.mp (tab w.params)
  obtain ⟨e, he⟩ := Option.isSome_iff_exists.mp known
  obtain ⟨hC, hP⟩ := PySem.W.tab_of G.T KX he ht
  obtain ⟨fd, bind, run⟩ := F w mg fa _ c PT KX G.T.g named ht
  have nT : (K w.params).lookup PT = none := by
    cases z : (K w.params).lookup PT with
    | none => rfl
    | some ob =>
      have y := KX PT ob z
      rw [hP] at y
      cases y
      have z2 := List.all_eq_true.mp (noT w.params) _ (PySem.W.mem_of_lookupK z)
      exact absurd (show false = true from z2) Bool.false_ne_true
  have call := spec_callT (R := []) (cl := classAt s0.heap) (d0 := r.ret.enc (Codec.app r.args r.f a)) KX G.T.g G.T.b G.T.builtins G.T.nolimit gens G.T.bmain hP nT hC well (pl_encAll _ _) (layable_weight lay) hr run bind
    ((encAll_len _ _).trans many) fun H xs z1 z2 => S _ PT H xs a z1 wi z2
  refine PySem.W.enter_call (codeAny_mono call fun r' s' z => ?_)
  obtain ⟨u, as', rfl, z1, z2, z3, z4⟩ := z
  exact ⟨Or.inl ⟨u, _, as', rfl, fun _ => rfl, z1, (OpenSpec.post_iff said wi _ _).mpr rfl, fun y => absurd (show false = true from y) Bool.false_ne_true⟩, z2, z3, z4⟩
end Fl
namespace Fl
open PySem PySem.Spec PyProof.Rows L2 LamX
theorem all_mk {P : Program} {w : World} {K : PySem.W.Frag} {h : Heap} {mg : Str → Option Value} {fa C f0 f1 f2 f3 f4 f5 f6 f7 f8 f9 : Addr} (X : K.In h) (G : h.Ns mainGlobals mg) (hfa : mg "order_by_strength" = some (.ref fa))
    {od0 an0 od1 an1 od2 an2 od3 an3 od4 an4 od5 an5 od6 an6 od7 an7 od8 an8 od9 an9 : Option Addr} {sl0 sl1 sl2 sl3 sl4 sl5 sl6 sl7 sl8 sl9 : Array (Option Value)} {oc0 kV0 dc0 pm0 cd0 ct0 oc1 kV1 dc1 pm1 cd1 ct1 oc2 kV2 dc2 pm2 cd2 ct2 oc3 kV3 dc3 pm3 cd3 ct3 oc4 kV4 dc4 pm4 cd4 ct4 oc5 kV5 dc5 pm5 cd5 ct5 oc6 kV6 dc6 pm6 cd6 ct6 oc7 kV7 dc7 pm7 cd7 ct7 oc8 kV8 dc8 pm8 cd8 ct8 oc9 kV9 dc9 pm9 cd9 ct9 : Value} {tOUTSIDE_LIMITS tNUMBERS_PER_LOT tMOST_LOTS tMOST_WEIGHT tMOST_STRENGTH tMOST_DEN tLAST_MONTH : Tok}
    {cA PT : Addr} (ht : PySem.W.tabIn K "order_by_strength" = some (cA, PT))
    (aC : PySem.W.nsIn K mainGlobals "Lot" = some (some (.ref C)))
    (a0 : PySem.W.findIn K (.ref C) "__init__" = some (some (.ref f0))) (i0 : PySem.W.isFn K (.ref f0) = true)
    (l0 : K.lookup f0 = some ⟨oc0, od0, .func (PySem.W.fnOf "__init__" "Lot.__init__" (defArgs sInit) (defBody sInit) (defScope sInit) .none kV0 dc0 pm0 an0 cd0 ct0), sl0⟩) (c0 : PySem.W.codeIn K cd0 "Lot.__init__" = true) (k0 : PySem.W.keepIn K (.ref f0) = true)
    (a1 : PySem.W.nsIn K mainGlobals "order_by_strength" = some (some (.ref f1)))
    (l1 : K.lookup f1 = some ⟨oc1, od1, .func (PySem.W.fnOf "order_by_strength" "order_by_strength" (defArgs sAns) (defBody sAns) (defScope sAns) .none kV1 dc1 pm1 an1 cd1 ct1), sl1⟩) (c1 : PySem.W.codeIn K cd1 "order_by_strength" = true) (k1 : PySem.W.keepIn K (.ref f1) = true)
    (a2 : PySem.W.nsIn K mainGlobals "are_lots_within_limits" = some (some (.ref f2)))
    (l2 : K.lookup f2 = some ⟨oc2, od2, .func (PySem.W.fnOf "are_lots_within_limits" "are_lots_within_limits" (defArgs sAre) (defBody sAre) (defScope sAre) .none kV2 dc2 pm2 an2 cd2 ct2), sl2⟩) (c2 : PySem.W.codeIn K cd2 "are_lots_within_limits" = true) (k2 : PySem.W.keepIn K (.ref f2) = true)
    (a3 : PySem.W.nsIn K mainGlobals "is_lot_within_limits" = some (some (.ref f3)))
    (l3 : K.lookup f3 = some ⟨oc3, od3, .func (PySem.W.fnOf "is_lot_within_limits" "is_lot_within_limits" (defArgs sIs) (defBody sIs) (defScope sIs) .none kV3 dc3 pm3 an3 cd3 ct3), sl3⟩) (c3 : PySem.W.codeIn K cd3 "is_lot_within_limits" = true) (k3 : PySem.W.keepIn K (.ref f3) = true)
    (a4 : PySem.W.nsIn K mainGlobals "is_within" = some (some (.ref f4)))
    (l4 : K.lookup f4 = some ⟨oc4, od4, .func (PySem.W.fnOf "is_within" "is_within" (defArgs sWithin) (defBody sWithin) (defScope sWithin) .none kV4 dc4 pm4 an4 cd4 ct4), sl4⟩) (c4 : PySem.W.codeIn K cd4 "is_within" = true) (k4 : PySem.W.keepIn K (.ref f4) = true)
    (a5 : PySem.W.nsIn K mainGlobals "count_lots" = some (some (.ref f5)))
    (l5 : K.lookup f5 = some ⟨oc5, od5, .func (PySem.W.fnOf "count_lots" "count_lots" (defArgs sCount) (defBody sCount) (defScope sCount) .none kV5 dc5 pm5 an5 cd5 ct5), sl5⟩) (c5 : PySem.W.codeIn K cd5 "count_lots" = true) (k5 : PySem.W.keepIn K (.ref f5) = true)
    (a6 : PySem.W.nsIn K mainGlobals "lot_at" = some (some (.ref f6)))
    (l6 : K.lookup f6 = some ⟨oc6, od6, .func (PySem.W.fnOf "lot_at" "lot_at" (defArgs sLotAt) (defBody sLotAt) (defScope sLotAt) .none kV6 dc6 pm6 an6 cd6 ct6), sl6⟩) (c6 : PySem.W.codeIn K cd6 "lot_at" = true) (k6 : PySem.W.keepIn K (.ref f6) = true)
    (a7 : PySem.W.nsIn K mainGlobals "all_lots" = some (some (.ref f7)))
    (l7 : K.lookup f7 = some ⟨oc7, od7, .func (PySem.W.fnOf "all_lots" "all_lots" (defArgs sAll) (defBody sAll) (defScope sAll) .none kV7 dc7 pm7 an7 cd7 ct7), sl7⟩) (c7 : PySem.W.codeIn K cd7 "all_lots" = true) (k7 : PySem.W.keepIn K (.ref f7) = true)
    (a8 : PySem.W.nsIn K mainGlobals "comparable_strengths" = some (some (.ref f8)))
    (l8 : K.lookup f8 = some ⟨oc8, od8, .func (PySem.W.fnOf "comparable_strengths" "comparable_strengths" (defArgs sStr) (defBody sStr) (defScope sStr) .none kV8 dc8 pm8 an8 cd8 ct8), sl8⟩) (c8 : PySem.W.codeIn K cd8 "comparable_strengths" = true) (k8 : PySem.W.keepIn K (.ref f8) = true)
    (a9 : PySem.W.nsIn K mainGlobals "power" = some (some (.ref f9)))
    (l9 : K.lookup f9 = some ⟨oc9, od9, .func (PySem.W.fnOf "power" "power" (defArgs sPower) (defBody sPower) (defScope sPower) .none kV9 dc9 pm9 an9 cd9 ct9), sl9⟩) (c9 : PySem.W.codeIn K cd9 "power" = true) (k9 : PySem.W.keepIn K (.ref f9) = true)
    (pg : PySem.W.plainGet K C Str.empty = true) (hd : PySem.W.hasDictIn K C = true) (po : PySem.W.plainOver K C = true) (sa : PySem.W.findIn K (.ref C) "__setattr__" = some (some (.builtin "object.__setattr__"))) (mk : PySem.W.makesIn K C = true) (kc : PySem.W.keepIn K (.ref C) = true)
    (nW : PySem.W.findIn K (.ref C) "weight" = some none) (nS : PySem.W.findIn K (.ref C) "strength" = some none) (nN : PySem.W.findIn K (.ref C) "num" = some none) (nD : PySem.W.findIn K (.ref C) "den" = some none)
    (gOUTSIDE_LIMITS : PySem.W.nsIn K mainGlobals "OUTSIDE_LIMITS" = some (some (.int (-22) tOUTSIDE_LIMITS)))
    (gNUMBERS_PER_LOT : PySem.W.nsIn K mainGlobals "NUMBERS_PER_LOT" = some (some (.int 4 tNUMBERS_PER_LOT)))
    (gMOST_LOTS : PySem.W.nsIn K mainGlobals "MOST_LOTS" = some (some (.int 6 tMOST_LOTS)))
    (gMOST_WEIGHT : PySem.W.nsIn K mainGlobals "MOST_WEIGHT" = some (some (.int 99 tMOST_WEIGHT)))
    (gMOST_STRENGTH : PySem.W.nsIn K mainGlobals "MOST_STRENGTH" = some (some (.int 999 tMOST_STRENGTH)))
    (gMOST_DEN : PySem.W.nsIn K mainGlobals "MOST_DEN" = some (some (.int 20 tMOST_DEN)))
    (gLAST_MONTH : PySem.W.nsIn K mainGlobals "LAST_MONTH" = some (some (.int 40 tLAST_MONTH)))
    (zlen : PySem.W.nsIn K mainGlobals "len" = some none)
    (zrange : PySem.W.nsIn K mainGlobals "range" = some none)
    (zsorted : PySem.W.nsIn K mainGlobals "sorted" = some none) :
    ∃ fd : FuncData, (∀ (s : Shared) (us : List Value), us.length = (["month", "lots"] : List Str).length → BindsTo s fd ⟨us, []⟩ ((["month", "lots"] : List Str).zip us)) ∧ ∀ base : Heap, K.In base → base.Ns mainGlobals mg → TabB base mg cA PT → FnOk P w K mg base CX0 6 fa fd ["month", "lots"] (spAns PT K) := by
  have e := hfa.symm.trans (PySem.W.mg_of X G a1)
  cases e
  have ec : cd1 = .ref cA := code_of_tab ht a1 l1
  subst ec
  have T : Txt K mg C := ⟨⟨pg, hd, po, sa⟩, nW, nS, nN, nD, PySem.W.mg_of X G aC, ⟨_, PySem.W.mg_of X G gOUTSIDE_LIMITS⟩, ⟨_, PySem.W.mg_of X G gNUMBERS_PER_LOT⟩, ⟨_, PySem.W.mg_of X G gMOST_LOTS⟩, ⟨_, PySem.W.mg_of X G gMOST_WEIGHT⟩, ⟨_, PySem.W.mg_of X G gMOST_STRENGTH⟩, ⟨_, PySem.W.mg_of X G gMOST_DEN⟩, ⟨_, PySem.W.mg_of X G gLAST_MONTH⟩, PySem.W.mg_none_of X G zlen, PySem.W.mg_none_of X G zrange, PySem.W.mg_none_of X G zsorted⟩
  have MM : Mk K C f0 := ⟨mk, a0, i0, kc⟩
  have F0 := fun_mk (st := sInit) l0 c0 k0
  have B0 := F0.binds (ps := ["self", "weight", "strength", "num", "den"]) fun _ _ _ _ _ _ us hl => match us, hl with | [_, _, _, _, _], _ => rfl
  have F2 := fun_mk (st := sAre) l2 c2 k2
  have B2 := F2.binds (ps := ["lots"]) fun _ _ _ _ _ _ us hl => match us, hl with | [_], _ => rfl
  have F3 := fun_mk (st := sIs) l3 c3 k3
  have B3 := F3.binds (ps := ["lot"]) fun _ _ _ _ _ _ us hl => match us, hl with | [_], _ => rfl
  have F4 := fun_mk (st := sWithin) l4 c4 k4
  have B4 := F4.binds (ps := ["least", "number", "most"]) fun _ _ _ _ _ _ us hl => match us, hl with | [_, _, _], _ => rfl
  have F5 := fun_mk (st := sCount) l5 c5 k5
  have B5 := F5.binds (ps := ["lots"]) fun _ _ _ _ _ _ us hl => match us, hl with | [_], _ => rfl
  have F6 := fun_mk (st := sLotAt) l6 c6 k6
  have B6 := F6.binds (ps := ["place", "lots"]) fun _ _ _ _ _ _ us hl => match us, hl with | [_, _], _ => rfl
  have F7 := fun_mk (st := sAll) l7 c7 k7
  have B7 := F7.binds (ps := ["lots"]) fun _ _ _ _ _ _ us hl => match us, hl with | [_], _ => rfl
  have F8 := fun_mk (st := sStr) l8 c8 k8
  have B8 := F8.binds (ps := ["month", "lots"]) fun _ _ _ _ _ _ us hl => match us, hl with | [_, _], _ => rfl
  have F9 := fun_mk (st := sPower) l9 c9 k9
  have B9 := F9.binds (ps := ["base", "exponent"]) fun _ _ _ _ _ _ us hl => match us, hl with | [_, _], _ => rfl
  refine ⟨PySem.W.fnOf "order_by_strength" "order_by_strength" (defArgs sAns) (defBody sAns) (defScope sAns) .none kV1 dc1 pm1 an1 (.ref cA) ct1, fun s us hu => match us, hu with | [_, _], _ => .of_eq rfl, fun base _ _ TB => ?_⟩
  have G4 : Cal P w K mg base 1 "is_within" ["least", "number", "most"] spWithin := Cal.of F4 (PySem.W.mg_of X G a4) B4 (ok_within F4)
  have G3 : Cal P w K mg base 2 "is_lot_within_limits" ["lot"] (spIs C) := Cal.of F3 (PySem.W.mg_of X G a3) B3 (ok_is F3 T G4)
  have G5 : Cal P w K mg base 1 "count_lots" ["lots"] (spCount K) := Cal.of F5 (PySem.W.mg_of X G a5) B5 (ok_count F5 T)
  have G6 : Cal P w K mg base 3 "lot_at" ["place", "lots"] (spLotAt K C) := Cal.of F6 (PySem.W.mg_of X G a6) B6 (ok_lot_at F6 T MM F0 B0)
  have G2 : Cal P w K mg base 4 "are_lots_within_limits" ["lots"] (spAre K) := Cal.of F2 (PySem.W.mg_of X G a2) B2 (ok_are F2 T G5 G6 G3)
  have G7 : Cal P w K mg base 4 "all_lots" ["lots"] (spAll K C) := Cal.of F7 (PySem.W.mg_of X G a7) B7 (ok_all F7 T G5 G6)
  have G9 : Cal P w K mg base 1 "power" ["base", "exponent"] spPower := Cal.of F9 (PySem.W.mg_of X G a9) B9 (ok_power F9 T)
  have G8 : Cal P w K mg base 5 "comparable_strengths" ["month", "lots"] (spStr K) := Cal.of F8 (PySem.W.mg_of X G a8) B8 (ok_str F8 T G7 G9)
  exact (ok_ans l1 c1 TB T G2 G4 G5 G8)
end Fl
open PySem PySem.W PyProof.Rows
set_option maxRecDepth 100000 in
set_option maxHeartbeats 8000000 in
theorem PySem.Challenge.cw_fadinglots_s06_order_by_strength_holds : PySem.Challenge.rw_fadinglots_s06_order_by_strength.Holds := by
  w_on; k_headS; (case hw => exact ⟨[.int 0, .list []], by decide +kernel, by decide +kernel⟩)
  k_fillS
  refine Fl.walk_specT (r := PySem.Challenge.rw_fadinglots_s06_order_by_strength) (k := 6) (ps := ["month", "lots"]) (x := "order_by_strength") (sp := Fl.spAns) (by decide +kernel) rfl ⟨rfl, by decide, by decide⟩ (fun w h Y => PySem.W.kIn_of Y) (by kernel_rfl) (fun _ => by kernel_rfl) (fun _ => by kernel_rfl) ?F ?S
  case F =>
    intro w mg fa h cA PT KX G hmg ht
    refine' Fl.all_mk KX G hmg ht ?aC ?a0 ?i0 ?l0 ?c0 ?k0 ?a1 ?l1 ?c1 ?k1 ?a2 ?l2 ?c2 ?k2 ?a3 ?l3 ?c3 ?k3 ?a4 ?l4 ?c4 ?k4 ?a5 ?l5 ?c5 ?k5 ?a6 ?l6 ?c6 ?k6 ?a7 ?l7 ?c7 ?k7 ?a8 ?l8 ?c8 ?k8 ?a9 ?l9 ?c9 ?k9 ?pg ?hd ?po ?sa ?mk ?kc ?nW ?nS ?nN ?nD ?gOUTSIDE_LIMITS ?gNUMBERS_PER_LOT ?gMOST_LOTS ?gMOST_WEIGHT ?gMOST_STRENGTH ?gMOST_DEN ?gLAST_MONTH ?zlen ?zrange ?zsorted
    (case aC => k_is); (case a0 => k_is); (case i0 => k_is); (case l0 => k_is); (case c0 => k_is); (case k0 => k_is)
    (case a1 => k_is); (case l1 => k_is); (case c1 => k_is); (case k1 => k_is); (case a2 => k_is); (case l2 => k_is)
    (case c2 => k_is); (case k2 => k_is); (case a3 => k_is); (case l3 => k_is); (case c3 => k_is); (case k3 => k_is)
    (case a4 => k_is); (case l4 => k_is); (case c4 => k_is); (case k4 => k_is); (case a5 => k_is); (case l5 => k_is)
    (case c5 => k_is); (case k5 => k_is); (case a6 => k_is); (case l6 => k_is); (case c6 => k_is); (case k6 => k_is)
    (case a7 => k_is); (case l7 => k_is); (case c7 => k_is); (case k7 => k_is); (case a8 => k_is); (case l8 => k_is)
    (case c8 => k_is); (case k8 => k_is); (case a9 => k_is); (case l9 => k_is); (case c9 => k_is); (case k9 => k_is)
    (case pg => k_is); (case hd => k_is); (case po => k_is); (case sa => k_is); (case mk => k_is); (case kc => k_is)
    (case nW => k_is); (case nS => k_is); (case nN => k_is); (case nD => k_is); (case gOUTSIDE_LIMITS => k_is); (case gNUMBERS_PER_LOT => k_is)
    (case gMOST_LOTS => k_is); (case gMOST_WEIGHT => k_is); (case gMOST_STRENGTH => k_is); (case gMOST_DEN => k_is); (case gLAST_MONTH => k_is); (case zlen => k_is)
    (case zrange => k_is); (case zsorted => k_is)
  case S =>
    intro K PT H xs a hP hwi hx
    cases hx with
    | cons h1 h2 =>
      cases h2 with
      | cons h3 h4 =>
        cases h4
        cases h1
        cases h3 with
        | @lst ad xs ds hs ha =>
          have e := L2.ints_dw a.2.1 _ ha
          subst e
          have q : (PySem.W.Codec.inInt 0 4294967295 a.1 && ((PySem.W.Codec.inLen 0 27 a.2.1 && a.2.1.all (PySem.W.Codec.inInt 0 4294967295)) && true)) = true := hwi
          simp only [Bool.and_eq_true] at q
          obtain ⟨q1, ⟨q3, q4⟩, _⟩ := q
          have n1 := (PySem.W.Codec.inInt_iff.mp q1).1
          have n3 : ∀ x ∈ a.2.1, 0 ≤ x := fun x hx => (PySem.W.Codec.inInt_iff.mp (List.all_eq_true.mp q4 x hx)).1
          obtain ⟨x, e1⟩ := Int.eq_ofNat_of_zero_le n1
          have e3 : Fl.cast (a.2.1.map Int.toNat) = a.2.1 := Fl.cast_of n3
          have hl : (a.2.1.map Int.toNat).length ≤ 27 := by rw [List.length_map]; exact (PySem.W.Codec.inNat_iff.mp q3).2
          generalize a.2.1.map Int.toNat = fs at e3 hl
          refine ⟨x, ad, fs, ?_, ?_, hl, fun p hp => ?_, fun H' p hp => ?_⟩
          · rw [e1]
          · show L2.SqL K H ad ((Fl.cast fs).map L2.V.int)
            rw [e3]
            exact hs
          · rw [List.mem_singleton.mp hp]
            exact LamX.TabS.nil hP
          · have z := Fl.order_is x fs
            rw [e3] at z
            show L2.Dw K H' (.ref p) (PySem.W.WData.list ((_ : List Int).map PySem.W.WData.int))
            refine .lst (L2.SqL.of hp) ?_
            rw [← z, ← e1]
            exact L2.dw_ints _
#print axioms PySem.Challenge.cw_fadinglots_s06_order_by_strength_holds
