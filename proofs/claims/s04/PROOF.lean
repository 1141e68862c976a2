import PyProof.Rows.All
import Wide.All
import OpenK.AllK
import Wide.FinOn
import Open.SpecLaws
import KE.OsHead
import KE.OsGo
import HandS.ForSpec
import HandS.Wide
import HandS.WideBits
import HandS.Iter
import PySem.Challenge.RW_fadinglots_s04_retention
set_option Elab.async false
set_option linter.all false
set_option maxRecDepth 100000
set_option maxHeartbeats 2000000
namespace Fl
open Ks604
theorem pow_ne {d : Nat} (h : d ≠ 0) (k : Nat) : d ^ k ≠ 0 := fun e => Nat.lt_irrefl 0 (by have z := Nat.pow_pos (n := k) (Nat.pos_of_ne_zero h); rw [e] at z; exact z)
/-! ### rational numbers: two fractions of the same worth are made alike -/
theorem make_pos {a : Int} {b : Nat} (h : b ≠ 0) : Rational.make a b = ⟨a / (Nat.gcd a.natAbs b : Nat), b / Nat.gcd a.natAbs b⟩ := if_neg h
theorem nat_make (a : Nat) {b : Nat} (h : b ≠ 0) : Rational.make (a : Int) b = ⟨((a / Nat.gcd a b : Nat) : Int), b / Nat.gcd a b⟩ := by
  rw [make_pos h]
  simp
/-- a fraction, shortened -/
theorem make_scale (a : Nat) {b c : Nat} (hb : b ≠ 0) (hc : c ≠ 0) : Rational.make ((a * c : Nat) : Int) (b * c) = Rational.make (a : Int) b := by
  have hbc : b * c ≠ 0 := Nat.mul_ne_zero hb hc
  rw [nat_make _ hbc, nat_make _ hb, Nat.gcd_mul_right]
  rw [Nat.mul_div_mul_right _ _ (Nat.pos_of_ne_zero hc), Nat.mul_div_mul_right _ _ (Nat.pos_of_ne_zero hc)]
theorem make_cross {a a' b b' : Nat} (hb : b ≠ 0) (hb' : b' ≠ 0) (h : a * b' = a' * b) : Rational.make (a : Int) b = Rational.make (a' : Int) b' := by
  rw [← make_scale a hb hb', h, Nat.mul_comm b b', make_scale a' hb' hb]
/-- numerator and denominator of a fraction in lowest terms: a * den = num * b -/
theorem make_num (a : Nat) {b : Nat} (hb : b ≠ 0) : ∃ n d g : Nat, Rational.make (a : Int) b = ⟨(n : Int), d⟩ ∧ a = n * g ∧ b = d * g ∧ g ≠ 0 ∧ d ≠ 0 := by
  have hg : Nat.gcd a b ≠ 0 := fun e => hb (Nat.eq_zero_of_gcd_eq_zero_right e)
  refine ⟨a / Nat.gcd a b, b / Nat.gcd a b, Nat.gcd a b, nat_make a hb, (Nat.div_mul_cancel (Nat.gcd_dvd_left a b)).symm, (Nat.div_mul_cancel (Nat.gcd_dvd_right a b)).symm, hg, ?_⟩
  intro e
  have := Nat.div_mul_cancel (Nat.gcd_dvd_right a b)
  rw [e, Nat.zero_mul] at this
  exact hb this.symm
theorem add_make (a c : Nat) {b d : Nat} (hb : b ≠ 0) (hd : d ≠ 0) : Rational.add (Rational.make (a : Int) b) (Rational.make (c : Int) d) = Rational.make ((a * d + c * b : Nat) : Int) (b * d) := by
  obtain ⟨n, e, g, q, h1, h2, h3, h4⟩ := make_num a hb
  obtain ⟨n', e', g', q', h1', h2', h3', h4'⟩ := make_num c hd
  rw [q, q']
  show Rational.make ((n : Int) * (e' : Int) + (n' : Int) * (e : Int)) (e * e') = _
  have z : ((n : Int) * (e' : Int) + (n' : Int) * (e : Int)) = ((n * e' + n' * e : Nat) : Int) := by simp
  rw [z]
  refine make_cross (Nat.mul_ne_zero h4 h4') (Nat.mul_ne_zero hb hd) ?_
  subst h1 h2 h1' h2'
  simp only [Nat.add_mul, Nat.mul_add, Nat.mul_assoc, Nat.mul_comm, Nat.mul_left_comm]
theorem mul_make (a c : Nat) {b d : Nat} (hb : b ≠ 0) (hd : d ≠ 0) : Rational.mul (Rational.make (a : Int) b) (Rational.make (c : Int) d) = Rational.make ((a * c : Nat) : Int) (b * d) := by
  obtain ⟨n, e, g, q, h1, h2, h3, h4⟩ := make_num a hb
  obtain ⟨n', e', g', q', h1', h2', h3', h4'⟩ := make_num c hd
  rw [q, q']
  show Rational.make ((n : Int) * (n' : Int)) (e * e') = _
  have z : ((n : Int) * (n' : Int)) = ((n * n' : Nat) : Int) := by simp
  rw [z]
  refine make_cross (Nat.mul_ne_zero h4 h4') (Nat.mul_ne_zero hb hd) ?_
  subst h1 h2 h1' h2'
  simp only [Nat.mul_assoc, Nat.mul_comm, Nat.mul_left_comm]
theorem le_make (a c : Nat) {b d : Nat} (hb : b ≠ 0) (hd : d ≠ 0) : Rational.le (Rational.make (a : Int) b) (Rational.make (c : Int) d) = decide (a * d ≤ c * b) := by
  obtain ⟨n, e, g, q, h1, h2, h3, h4⟩ := make_num a hb
  obtain ⟨n', e', g', q', h1', h2', h3', h4'⟩ := make_num c hd
  rw [q, q']
  show decide ((n : Int) * (e' : Int) ≤ (n' : Int) * (e : Int)) = _
  have z : ((n : Int) * (e' : Int) ≤ (n' : Int) * (e : Int)) ↔ (n * e' ≤ n' * e) := by
    rw [← Int.natCast_mul, ← Int.natCast_mul]
    exact Int.ofNat_le
  rw [Bool.eq_iff_iff, decide_eq_true_iff, decide_eq_true_iff, z]
  subst h1 h2 h1' h2'
  have e1 : n * g * (e' * g') = (n * e') * (g * g') := by simp only [Nat.mul_assoc, Nat.mul_comm, Nat.mul_left_comm]
  have e2 : n' * g' * (e * g) = (n' * e) * (g * g') := by simp only [Nat.mul_assoc, Nat.mul_comm, Nat.mul_left_comm]
  rw [e1, e2]
  exact (Nat.mul_le_mul_right_iff (Nat.pos_of_ne_zero (Nat.mul_ne_zero h3 h3'))).symm
theorem ofNat_make (n : Nat) : Rational.ofNat n = Rational.make (n : Int) 1 := by
  rw [nat_make n (by decide), Nat.gcd_one_right, Nat.div_one] <;> rfl
theorem zero_make : Rational.zero = Rational.make ((0 : Nat) : Int) 1 := by decide
theorem one_make : Rational.one = Rational.make ((1 : Nat) : Int) 1 := by decide
theorem power_make (n : Nat) {d : Nat} (hd : d ≠ 0) : ∀ k, power (Rational.make (n : Int) d) k = Rational.make ((n ^ k : Nat) : Int) (d ^ k)
  | 0 => one_make
  | k + 1 => by
    show Rational.mul (power (Rational.make (n : Int) d) k) (Rational.make (n : Int) d) = _
    rw [power_make n hd k, mul_make _ _ (pow_ne hd _) hd, Nat.pow_succ, Nat.pow_succ]
/-! ### the mirror: lots, weights, sums -/
theorem strength_make (m : Lot) (hd : m.retainedDen ≠ 0) (k : Nat) : strengthIn m k = Rational.make ((m.strength * m.retainedNum ^ k : Nat) : Int) (m.retainedDen ^ k) := by
  show Rational.mul (Rational.ofNat m.strength) (power (Rational.make (m.retainedNum : Int) m.retainedDen) k) = _
  rw [ofNat_make, power_make _ hd, mul_make _ _ (by decide) (pow_ne hd _), Nat.one_mul]
/-- one lot more -/
def addLot (k : Nat) (p : Nat × Nat) (m : Lot) : Nat × Nat := (p.1 * m.retainedDen ^ k + m.weight * m.strength * m.retainedNum ^ k * p.2, p.2 * m.retainedDen ^ k)
def sumLots (k : Nat) (ms : List Lot) : Nat × Nat := ms.foldl (addLot k) (0, 1)
def weightOf (ms : List Lot) : Nat := (ms.map fun m => m.weight).sum
def lowest (a b : Nat) : List Int := [((a / Nat.gcd a b : Nat) : Int), ((b / Nat.gcd a b : Nat) : Int)]
def meanOf (k : Nat) (ms : List Lot) : Nat × Nat := ((sumLots k ms).1, (sumLots k ms).2 * weightOf ms)
theorem sum_fold (k : Nat) : ∀ (ms : List Lot) (p : Nat × Nat), (∀ m ∈ ms, m.retainedDen ≠ 0) → p.2 ≠ 0 →
    ms.foldl (fun total m => total + Rational.ofNat m.weight * strengthIn m k) (Rational.make (p.1 : Int) p.2) = Rational.make ((ms.foldl (addLot k) p).1 : Int) (ms.foldl (addLot k) p).2 ∧ (ms.foldl (addLot k) p).2 ≠ 0
  | [], p, _, hp => ⟨rfl, hp⟩
  | m :: ms, p, h, hp => by
    have hd : m.retainedDen ≠ 0 := h m (List.mem_cons_self ..)
    have hdk : m.retainedDen ^ k ≠ 0 := (pow_ne hd _)
    have e : Rational.make (p.1 : Int) p.2 + Rational.ofNat m.weight * strengthIn m k = Rational.make ((addLot k p m).1 : Int) (addLot k p m).2 := by
      show Rational.add _ (Rational.mul _ _) = _
      rw [ofNat_make, strength_make m hd, mul_make _ _ (by decide) hdk, add_make _ _ hp (by rw [Nat.one_mul]; exact hdk), Nat.one_mul, ← Nat.mul_assoc m.weight] <;> rfl
    rw [List.foldl_cons, List.foldl_cons, e]
    exact sum_fold k ms (addLot k p m) (fun x hx => h x (List.mem_cons_of_mem _ hx)) (Nat.mul_ne_zero hp hdk)
theorem map_foldl {α β γ : Type} (f : γ → β → γ) (g : α → β) : ∀ (l : List α) (z : γ), (l.map g).foldl f z = l.foldl (fun z x => f z (g x)) z
  | [], _ => rfl
  | x :: l, z => map_foldl f g l (f z (g x))
theorem total_make (lots : Lots) (set : List Nat) (k : Nat) (h : ∀ m ∈ set.map (lotAt lots), m.retainedDen ≠ 0) :
    totalStrength lots set k = Rational.make ((sumLots k (set.map (lotAt lots))).1 : Int) (sumLots k (set.map (lotAt lots))).2 ∧ (sumLots k (set.map (lotAt lots))).2 ≠ 0 := by
  have z := sum_fold k (set.map (lotAt lots)) (0, 1) h (by decide)
  rw [map_foldl] at z
  refine ⟨?_, z.2⟩
  rw [← map_foldl] at z
  show set.foldl _ Rational.zero = _
  rw [zero_make]
  rw [map_foldl] at z
  exact z.1
theorem weight_of (lots : Lots) (set : List Nat) : totalWeight lots set = weightOf (set.map (lotAt lots)) := by
  unfold totalWeight weightOf
  rw [List.map_map] <;> rfl
theorem mean_make (lots : Lots) (set : List Nat) (k : Nat) (h : ∀ m ∈ set.map (lotAt lots), m.retainedDen ≠ 0) (hw : weightOf (set.map (lotAt lots)) ≠ 0) :
    meanStrength lots set k = Rational.make ((meanOf k (set.map (lotAt lots))).1 : Int) (meanOf k (set.map (lotAt lots))).2 ∧ (meanOf k (set.map (lotAt lots))).2 ≠ 0 := by
  obtain ⟨z, z2⟩ := total_make lots set k h
  refine ⟨?_, Nat.mul_ne_zero z2 hw⟩
  unfold meanStrength
  rw [weight_of, if_neg hw, z]
  show Rational.mul _ (Rational.make ((1 : Nat) : Int) _) = _
  rw [mul_make _ _ z2 hw, Nat.mul_one] <;> rfl
theorem pairs_make (a : Nat) {b : Nat} (hb : b ≠ 0) : pairs [Rational.make (a : Int) b] = lowest a b := by
  rw [nat_make a hb] <;> rfl
end Fl
namespace Fl
open Ks604
/-! ### the list of numbers as lots -/
def lotF (fs : List Nat) (i : Nat) : Lot := ⟨fs.getD (i * 4) 0, fs.getD (i * 4 + 1) 0, fs.getD (i * 4 + 2) 0, fs.getD (i * 4 + 3) 0⟩
def okLot (m : Lot) : Bool := isValidLot m.weight m.strength m.retainedNum m.retainedDen
def lotsF (fs : List Nat) : List Lot := (List.range (fs.length / 4)).map (lotF fs)
def allOk (fs : List Nat) : Bool := (List.range (fs.length / 4)).all fun i => okLot (lotF fs i)
def okLots (fs : List Nat) : Bool := decide (fs.length % 4 = 0) && decide (fs.length ≤ 24) && allOk fs
theorem lotF_zero (a b c d : Nat) (r : List Nat) : lotF (a :: b :: c :: d :: r) 0 = ⟨a, b, c, d⟩ := rfl
theorem lotF_succ (a b c d : Nat) (r : List Nat) (i : Nat) : lotF (a :: b :: c :: d :: r) (i + 1) = lotF r i := by
  unfold lotF
  have e : (i + 1) * 4 = i * 4 + 1 + 1 + 1 + 1 := by omega
  rw [e]
  rfl
theorem lotsF_cons (a b c d : Nat) (r : List Nat) : lotsF (a :: b :: c :: d :: r) = ⟨a, b, c, d⟩ :: lotsF r := by
  unfold lotsF
  have e : (a :: b :: c :: d :: r).length / 4 = r.length / 4 + 1 := by simp only [List.length_cons]; omega
  rw [e, List.range_succ_eq_map, List.map_cons, List.map_map]
  rw [show List.map (lotF (a :: b :: c :: d :: r) ∘ Nat.succ) (List.range (r.length / 4)) = List.map (lotF r) (List.range (r.length / 4)) from List.map_congr_left fun i _ => lotF_succ a b c d r i] <;> rfl
theorem allOk_cons (a b c d : Nat) (r : List Nat) : allOk (a :: b :: c :: d :: r) = (isValidLot a b c d && allOk r) := by
  unfold allOk
  have e : (a :: b :: c :: d :: r).length / 4 = r.length / 4 + 1 := by simp only [List.length_cons]; omega
  rw [e, List.range_succ_eq_map, List.all_cons, List.all_map]
  rw [show ((fun i => okLot (lotF (a :: b :: c :: d :: r) i)) ∘ Nat.succ) = fun i => okLot (lotF r i) from funext fun i => congrArg okLot (lotF_succ a b c d r i)] <;> rfl
theorem parse_eq : ∀ fs : List Nat, parseLots fs = if fs.length % 4 = 0 ∧ allOk fs = true then some (lotsF fs) else none
  | [] => rfl
  | [_] => rfl
  | [_, _] => rfl
  | [_, _, _] => rfl
  | a :: b :: c :: d :: r => by
    have ih := parse_eq r
    have e : (a :: b :: c :: d :: r).length % 4 = r.length % 4 := by simp only [List.length_cons]; omega
    show (if isValidLot a b c d = true then (parseLots r).map fun lots => (⟨a, b, c, d⟩ : Lot) :: lots else none) = _
    rw [ih, e, allOk_cons, lotsF_cons]
    by_cases h : isValidLot a b c d = true
    · by_cases h2 : r.length % 4 = 0 ∧ allOk r = true
      · rw [if_pos h, if_pos h2, if_pos ⟨h2.1, by rw [h, h2.2] <;> rfl⟩] <;> rfl
      · rw [if_pos h, if_neg h2, if_neg (fun z => h2 ⟨z.1, (Bool.and_eq_true_iff.mp z.2).2⟩)] <;> rfl
    · rw [if_neg h, if_neg (fun z => h (Bool.and_eq_true_iff.mp z.2).1)]
theorem lotsF_len (fs : List Nat) : (lotsF fs).length = fs.length / 4 := by simp [lotsF]
theorem okLots_iff (fs : List Nat) : okLots fs = true ↔ (fs.length % 4 = 0 ∧ allOk fs = true) ∧ ¬ 6 < fs.length / 4 := by
  unfold okLots
  rw [Bool.and_eq_true, Bool.and_eq_true, decide_eq_true_iff, decide_eq_true_iff]
  constructor
  · rintro ⟨⟨a, b⟩, c⟩
    exact ⟨⟨a, c⟩, by omega⟩
  · rintro ⟨⟨a, c⟩, b⟩
    exact ⟨⟨a, by omega⟩, c⟩
theorem withLots_eq (fs : List Nat) (g : Lots → Result) : withLots fs g = if okLots fs = true then g (lotsF fs) else number (-22) := by
  unfold withLots
  rw [parse_eq]
  by_cases h : okLots fs = true
  · have h' := (okLots_iff fs).mp h
    rw [if_pos h, if_pos h'.1]
    show (if 6 < (lotsF fs).length then _ else _) = _
    rw [lotsF_len, if_neg h'.2]
  · rw [if_neg h]
    by_cases h1 : fs.length % 4 = 0 ∧ allOk fs = true
    · rw [if_pos h1]
      show (if 6 < (lotsF fs).length then _ else _) = _
      rw [lotsF_len, if_pos (Decidable.byContradiction fun z => h ((okLots_iff fs).mpr ⟨h1, z⟩))]
    · rw [if_neg h1]
theorem lotAt_eq {fs : List Nat} {i : Nat} (h : i < fs.length / 4) : lotAt (lotsF fs) i = lotF fs i := by
  unfold lotAt
  rw [List.getD_eq_getElem?_getD]
  unfold lotsF
  rw [List.getElem?_map, List.getElem?_range h] <;> rfl
/-! ### sets -/
def chosenF (mask : Nat) (fs : List Nat) : List Lot := ((List.range (fs.length / 4)).filter fun i => mask.testBit i).map (lotF fs)
theorem chosen_eq (mask : Nat) (fs : List Nat) : (members (lotsF fs).length mask).map (lotAt (lotsF fs)) = chosenF mask fs := by
  unfold members chosenF
  rw [lotsF_len]
  refine List.map_congr_left fun i hi => lotAt_eq ?_
  exact List.mem_range.mp (List.mem_filter.mp hi).1
theorem ok_of {fs : List Nat} (h : okLots fs = true) {i : Nat} (hi : i < fs.length / 4) : okLot (lotF fs i) = true := by
  have q := ((okLots_iff fs).mp h).1.2
  unfold allOk at q
  exact List.all_eq_true.mp q i (List.mem_range.mpr hi)
theorem okLot_iff {m : Lot} : okLot m = true ↔ m.weight ≤ 99 ∧ m.strength ≤ 999 ∧ 1 ≤ m.retainedNum ∧ m.retainedNum ≤ m.retainedDen ∧ m.retainedDen ≤ 20 := by
  unfold okLot isValidLot
  simp only [Bool.and_eq_true, decide_eq_true_iff]
  constructor
  · rintro ⟨⟨⟨⟨a, b⟩, c⟩, d⟩, e⟩
    exact ⟨a, b, c, d, e⟩
  · rintro ⟨a, b, c, d, e⟩
    exact ⟨⟨⟨⟨a, b⟩, c⟩, d⟩, e⟩
theorem chosen_ok {mask : Nat} {fs : List Nat} (h : okLots fs = true) : ∀ m ∈ chosenF mask fs, okLot m = true := fun m hm => by
  unfold chosenF at hm
  obtain ⟨i, hi, rfl⟩ := List.mem_map.mp hm
  exact ok_of h (List.mem_range.mp (List.mem_filter.mp hi).1)
theorem chosen_den {mask : Nat} {fs : List Nat} (h : okLots fs = true) : ∀ m ∈ chosenF mask fs, m.retainedDen ≠ 0 := fun m hm => by
  have := okLot_iff.mp (chosen_ok h m hm)
  omega
theorem withSet_eq (fs : List Nat) (mask : Nat) (g : List Nat → Result) :
    withSet (lotsF fs) mask g = if mask / 2 ^ (fs.length / 4) ≠ 0 then number (-22) else if weightOf (chosenF mask fs) = 0 then number (-6) else g (members (lotsF fs).length mask) := by
  unfold withSet
  rw [weight_of, chosen_eq, lotsF_len]
  by_cases h : 2 ^ (fs.length / 4) ≤ mask
  · rw [if_pos h, if_pos]
    exact Nat.pos_iff_ne_zero.mp (Nat.div_pos h (Nat.pow_pos (by decide)))
  · rw [if_neg h, if_neg (show ¬ mask / 2 ^ (fs.length / 4) ≠ 0 from fun z => z (Nat.div_eq_of_lt (Nat.lt_of_not_le h)))]
/-! ### the refusals -/
def refusal (mask number most : Nat) (fs : List Nat) : Int :=
  if okLots fs = true then if most < number then -22 else if mask / 2 ^ (fs.length / 4) ≠ 0 then -22 else if weightOf (chosenF mask fs) = 0 then -6 else 0 else -22
theorem refusal_zero {mask number most : Nat} {fs : List Nat} (h : refusal mask number most fs = 0) : okLots fs = true ∧ ¬ most < number ∧ ¬ mask / 2 ^ (fs.length / 4) ≠ 0 ∧ weightOf (chosenF mask fs) ≠ 0 := by
  unfold refusal at h
  by_cases h1 : okLots fs = true
  · rw [if_pos h1] at h
    by_cases h2 : most < number
    · rw [if_pos h2] at h
      cases h
    · rw [if_neg h2] at h
      by_cases h3 : mask / 2 ^ (fs.length / 4) ≠ 0
      · rw [if_pos h3] at h
        cases h
      · rw [if_neg h3] at h
        by_cases h4 : weightOf (chosenF mask fs) = 0
        · rw [if_pos h4] at h
          cases h
        · exact ⟨h1, h2, h3, h4⟩
  · rw [if_neg h1] at h
    cases h
theorem checked (mask number most : Nat) (fs : List Nat) (g : List Nat → Result) :
    Ks604Neutral.integers (withLots fs fun lots => if most < number then Ks604.number (-22) else withSet lots mask g) = if refusal mask number most fs = 0 then Ks604Neutral.integers (g (members (lotsF fs).length mask)) else [refusal mask number most fs] := by
  rw [withLots_eq]
  by_cases h1 : okLots fs = true
  · rw [if_pos h1]
    by_cases h2 : most < number
    · have e : refusal mask number most fs = -22 := by unfold refusal; rw [if_pos h1, if_pos h2]
      rw [if_pos h2, e] <;> rfl
    · rw [if_neg h2, withSet_eq]
      by_cases h3 : mask / 2 ^ (fs.length / 4) ≠ 0
      · have e : refusal mask number most fs = -22 := by unfold refusal; rw [if_pos h1, if_neg h2, if_pos h3]
        rw [if_pos h3, e] <;> rfl
      · rw [if_neg h3]
        by_cases h4 : weightOf (chosenF mask fs) = 0
        · have e : refusal mask number most fs = -6 := by unfold refusal; rw [if_pos h1, if_neg h2, if_neg h3, if_pos h4]
          rw [if_pos h4, e] <;> rfl
        · have e : refusal mask number most fs = 0 := by unfold refusal; rw [if_pos h1, if_neg h2, if_neg h3, if_neg h4]
          rw [if_neg h4, e] <;> rfl
  · have e : refusal mask number most fs = -22 := by unfold refusal; rw [if_neg h1]
    rw [if_neg h1, e] <;> rfl
/-! ### mean_strength -/
def cast (fs : List Nat) : List Int := fs.map fun (n : Nat) => (n : Int)
theorem cast_back (fs : List Nat) : (cast fs).map Int.toNat = fs := by
  unfold cast
  rw [List.map_map]
  conv => rhs; rw [← List.map_id fs]
  exact List.map_congr_left fun n _ => Int.toNat_natCast n
def meanL (k : Nat) (ms : List Lot) : List Int := lowest (meanOf k ms).1 (meanOf k ms).2
def meanAns (mask month : Nat) (fs : List Nat) : List Int := if refusal mask month 40 fs = 0 then 0 :: meanL month (chosenF mask fs) else [refusal mask month 40 fs]
theorem mean_is (mask month : Nat) (fs : List Nat) : PyKs604.mean_strength mask month (cast fs) = meanAns mask month fs := by
  show Ks604Neutral.integers (answer (.meanStrength (Int.toNat (mask : Int)) (Int.toNat (month : Int)) ((cast fs).map Int.toNat))) = _
  rw [Int.toNat_natCast, Int.toNat_natCast, cast_back]
  show Ks604Neutral.integers (withLots fs fun lots => if 40 < month then number (-22) else withSet lots mask fun set => { value := 0, rest := pairs [meanStrength lots set month] }) = _
  unfold meanAns
  by_cases h : refusal mask month 40 fs = 0
  · obtain ⟨h1, h2, h3, h4⟩ := refusal_zero h
    have z := checked mask month 40 fs fun set => { value := 0, rest := pairs [meanStrength (lotsF fs) set month] }
    rw [withLots_eq, if_pos h1] at z ⊢
    rw [z, if_pos h, if_pos h]
    have hc := chosen_eq mask fs
    obtain ⟨m1, m2⟩ := mean_make (lotsF fs) (members (lotsF fs).length mask) month (by rw [hc]; exact chosen_den h1) (by rw [hc]; exact h4)
    rw [hc] at m1 m2
    show 0 :: pairs _ = _
    rw [m1, pairs_make _ m2] <;> rfl
  · have z := checked mask month 40 fs fun set => { value := 0, rest := pairs [meanStrength (lotsF fs) set month] }
    by_cases h1 : okLots fs = true
    · rw [withLots_eq, if_pos h1] at z ⊢
      rw [z, if_neg h, if_neg h]
    · have e : refusal mask month 40 fs = -22 := by unfold refusal; rw [if_neg h1]
      rw [withLots_eq, if_neg h1, if_neg h, e] <;> rfl
/-! ### last_month_at -/
/-- the last of the first n that passes -/
def lastOf (p : Nat → Bool) : Nat → Option Nat
  | 0 => none
  | n + 1 => if p n = true then some n else lastOf p n
theorem last_filter (p : Nat → Bool) : ∀ n, ((List.range n).filter p).getLast? = lastOf p n
  | 0 => rfl
  | n + 1 => by
    rw [List.range_succ, List.filter_append]
    unfold lastOf
    by_cases h : p n = true
    · rw [if_pos h, List.filter_cons, if_pos h, List.filter_nil, List.getLast?_append] <;> rfl
    · rw [if_neg h, List.filter_cons, if_neg h, List.filter_nil, List.append_nil]
      exact last_filter p n
def keeps (ms : List Lot) (t k : Nat) : Bool := decide (t * ((meanOf k ms).2 / Nat.gcd (meanOf k ms).1 (meanOf k ms).2) ≤ (meanOf k ms).1 / Nat.gcd (meanOf k ms).1 (meanOf k ms).2)
def lastAns (mask t : Nat) (fs : List Nat) : List Int := if refusal mask t 999 fs = 0 then (match lastOf (keeps (chosenF mask fs) t) 41 with | none => [-33] | some k => [(k : Int)]) else [refusal mask t 999 fs]
theorem last_is (mask t : Nat) (fs : List Nat) : PyKs604.last_month_at mask t (cast fs) = lastAns mask t fs := by
  show Ks604Neutral.integers (answer (.lastMonthAt (Int.toNat (mask : Int)) (Int.toNat (t : Int)) ((cast fs).map Int.toNat))) = _
  rw [Int.toNat_natCast, Int.toNat_natCast, cast_back]
  show Ks604Neutral.integers (withLots fs fun lots => if 999 < t then number (-22) else withSet lots mask fun set => match lastMonthAt lots set t with | none => number (-33) | some month => number month) = _
  unfold lastAns
  by_cases h : refusal mask t 999 fs = 0
  · obtain ⟨h1, h2, h3, h4⟩ := refusal_zero h
    have z := checked mask t 999 fs fun set => match lastMonthAt (lotsF fs) set t with | none => number (-33) | some month => number month
    rw [withLots_eq, if_pos h1] at z ⊢
    rw [z, if_pos h, if_pos h]
    have hc := chosen_eq mask fs
    have e : lastMonthAt (lotsF fs) (members (lotsF fs).length mask) t = lastOf (keeps (chosenF mask fs) t) 41 := by
      unfold lastMonthAt
      rw [last_filter]
      refine congrArg (fun p => lastOf p 41) (funext fun k => ?_)
      obtain ⟨m1, m2⟩ := mean_make (lotsF fs) (members (lotsF fs).length mask) k (by rw [hc]; exact chosen_den h1) (by rw [hc]; exact h4)
      rw [hc] at m1 m2
      rw [m1, nat_make _ m2]
      show decide ((t : Int) * ((_ : Nat) : Int) ≤ ((_ : Nat) : Int) * (1 : Nat)) = _
      unfold keeps
      rw [Bool.eq_iff_iff, decide_eq_true_iff, decide_eq_true_iff, ← Int.natCast_mul, ← Int.natCast_mul, Int.ofNat_le, Nat.mul_one]
    rw [e]
    cases lastOf (keeps (chosenF mask fs) t) 41 <;> rfl
  · have z := checked mask t 999 fs fun set => match lastMonthAt (lotsF fs) set t with | none => number (-33) | some month => number month
    by_cases h1 : okLots fs = true
    · rw [withLots_eq, if_pos h1] at z ⊢
      rw [z, if_neg h, if_neg h]
    · have e : refusal mask t 999 fs = -22 := by unfold refusal; rw [if_neg h1]
      rw [withLots_eq, if_neg h1, if_neg h, e] <;> rfl
end Fl
namespace Fl
open Ks604
/-! ### comparing fractions in lowest terms and as they are -/
theorem lowest_le (t a : Nat) {b : Nat} (hb : b ≠ 0) : decide (t * (b / Nat.gcd a b) ≤ a / Nat.gcd a b) = decide (t * b ≤ a) := by
  have hg : 0 < Nat.gcd a b := Nat.gcd_pos_of_pos_right a (Nat.pos_of_ne_zero hb)
  have ea := Nat.div_mul_cancel (Nat.gcd_dvd_left a b)
  have eb := Nat.div_mul_cancel (Nat.gcd_dvd_right a b)
  rw [Bool.eq_iff_iff, decide_eq_true_iff, decide_eq_true_iff]
  generalize Nat.gcd a b = g at *
  generalize a / g = x at *
  generalize b / g = y at *
  subst ea eb
  rw [← Nat.mul_assoc]
  exact (Nat.mul_le_mul_right_iff hg).symm
theorem keeps_raw {ms : List Lot} {t k : Nat} (h : (meanOf k ms).2 ≠ 0) : keeps ms t k = decide (t * (meanOf k ms).2 ≤ (meanOf k ms).1) := lowest_le t _ h
theorem lowest_cross {a a' b b' : Nat} (hb : b ≠ 0) (hb' : b' ≠ 0) (h : a * b' = a' * b) : lowest a b = lowest a' b' := by
  rw [← pairs_make a hb, ← pairs_make a' hb', make_cross hb hb' h]
/-! ### retention -/
theorem make_zero {b : Nat} (hb : b ≠ 0) : Rational.make ((0 : Nat) : Int) b = Rational.zero := by
  rw [nat_make 0 hb, Nat.zero_div, Nat.gcd_zero_left, Nat.div_self (Nat.pos_of_ne_zero hb)] <;> rfl
theorem make_eq_zero {a b : Nat} (hb : b ≠ 0) : Rational.make (a : Int) b = Rational.zero ↔ a = 0 := by
  constructor
  · intro h
    obtain ⟨n, d, g, q, h1, h2, h3, h4⟩ := make_num a hb
    rw [q] at h
    have e : (n : Int) = 0 := congrArg Rational.num h
    have e2 : n = 0 := by omega
    rw [h1, e2, Nat.zero_mul]
  · intro h
    rw [h, make_zero hb]
theorem inverse_make {a b : Nat} (ha : a ≠ 0) (hb : b ≠ 0) : Rational.inverse (Rational.make (a : Int) b) = Rational.make (b : Int) a := by
  obtain ⟨n, d, g, q, h1, h2, h3, h4⟩ := make_num a hb
  have hn : n ≠ 0 := fun e => ha (by rw [h1, e, Nat.zero_mul])
  rw [q]
  unfold Rational.inverse
  rw [if_neg (show ¬ (n : Int) = 0 by omega), if_neg (show ¬ (n : Int) < 0 by omega)]
  show Rational.make (d : Int) ((n : Int)).natAbs = _
  rw [Int.natAbs_natCast]
  refine make_cross hn ha ?_
  subst h1 h2
  simp only [Nat.mul_assoc, Nat.mul_comm, Nat.mul_left_comm]
theorem div_make (a : Nat) {b c d : Nat} (hb : b ≠ 0) (hc : c ≠ 0) (hd : d ≠ 0) : Rational.div (Rational.make (a : Int) b) (Rational.make (c : Int) d) = Rational.make ((a * d : Nat) : Int) (b * c) := by
  unfold Rational.div
  rw [inverse_make hc hd, mul_make _ _ hb hc]
theorem retention_make (lots : Lots) (set : List Nat) (k : Nat) (h : ∀ m ∈ set.map (lotAt lots), m.retainedDen ≠ 0) (h0 : (sumLots k (set.map (lotAt lots))).1 ≠ 0) :
    retention lots set k = Rational.make (((sumLots (k + 1) (set.map (lotAt lots))).1 * (sumLots k (set.map (lotAt lots))).2 : Nat) : Int) ((sumLots (k + 1) (set.map (lotAt lots))).2 * (sumLots k (set.map (lotAt lots))).1) := by
  obtain ⟨a1, a2⟩ := total_make lots set (k + 1) h
  obtain ⟨b1, b2⟩ := total_make lots set k h
  show Rational.div _ _ = _
  rw [a1, b1, div_make _ a2 h0 b2]
/-- the answer in whole numbers: of the sums of both months -/
def retOf (k : Nat) (ms : List Lot) : List Int := lowest ((sumLots (k + 1) ms).1 * (sumLots k ms).2) ((sumLots (k + 1) ms).2 * (sumLots k ms).1)
def retAns (mask month : Nat) (fs : List Nat) : List Int :=
  if refusal mask month 39 fs = 0 then if (sumLots month (chosenF mask fs)).1 = 0 then [-33] else 0 :: retOf month (chosenF mask fs) else [refusal mask month 39 fs]
theorem retention_is (mask month : Nat) (fs : List Nat) : PyKs604.retention mask month (cast fs) = retAns mask month fs := by
  show Ks604Neutral.integers (answer (.retention (Int.toNat (mask : Int)) (Int.toNat (month : Int)) ((cast fs).map Int.toNat))) = _
  rw [Int.toNat_natCast, Int.toNat_natCast, cast_back]
  have q : Ks604Neutral.integers (answer (.retention mask month fs)) = Ks604Neutral.integers (withLots fs fun lots => if 39 < month then number (-22) else withSet lots mask fun set => if totalStrength lots set month = Rational.zero then number (-33) else { value := 0, rest := pairs [retention lots set month] }) := rfl
  rw [q]
  unfold retAns
  by_cases h : refusal mask month 39 fs = 0
  · obtain ⟨h1, h2, h3, h4⟩ := refusal_zero h
    have z := checked mask month 39 fs fun set => if totalStrength (lotsF fs) set month = Rational.zero then number (-33) else { value := 0, rest := pairs [retention (lotsF fs) set month] }
    rw [withLots_eq, if_pos h1] at z ⊢
    rw [z, if_pos h, if_pos h]
    have hc := chosen_eq mask fs
    have hd : ∀ m ∈ (members (lotsF fs).length mask).map (lotAt (lotsF fs)), m.retainedDen ≠ 0 := by rw [hc]; exact chosen_den h1
    obtain ⟨m1, m2⟩ := total_make (lotsF fs) (members (lotsF fs).length mask) month hd
    obtain ⟨n1, n2⟩ := total_make (lotsF fs) (members (lotsF fs).length mask) (month + 1) hd
    by_cases c : (sumLots month (chosenF mask fs)).1 = 0
    · have c' : totalStrength (lotsF fs) (members (lotsF fs).length mask) month = Rational.zero := by rw [m1, make_eq_zero m2, hc]; exact c
      rw [if_pos c, if_pos c'] <;> rfl
    · have c' : ¬ totalStrength (lotsF fs) (members (lotsF fs).length mask) month = Rational.zero := by rw [m1, make_eq_zero m2, hc]; exact c
      rw [if_neg c, if_neg c']
      show 0 :: pairs [retention _ _ _] = _
      rw [retention_make _ _ _ hd (by rw [hc]; exact c), pairs_make _ (Nat.mul_ne_zero n2 (by rw [hc]; exact c)), hc] <;> rfl
  · have z := checked mask month 39 fs fun set => if totalStrength (lotsF fs) set month = Rational.zero then number (-33) else { value := 0, rest := pairs [retention (lotsF fs) set month] }
    by_cases h1 : okLots fs = true
    · rw [withLots_eq, if_pos h1] at z ⊢
      rw [z, if_neg h, if_neg h]
    · have e : refusal mask month 39 fs = -22 := by unfold refusal; rw [if_neg h1]
      rw [withLots_eq, if_neg h1, if_neg h, e] <;> rfl
/-! ### first_month_reduced -/
/-- the first of i, i + 1, .., i + n - 1 that passes -/
def firstOf (p : Nat → Bool) : Nat → Nat → Option Nat
  | _, 0 => none
  | i, n + 1 => if p i = true then some i else firstOf p (i + 1) n
theorem find_range' (p : Nat → Bool) : ∀ n i, (List.range' i n).find? p = firstOf p i n
  | 0, _ => rfl
  | n + 1, i => by
    rw [List.range'_succ, List.find?_cons]
    unfold firstOf
    cases h : p i with
    | true => simp
    | false =>
      simp
      exact find_range' p n (i + 1)
theorem find_range (p : Nat → Bool) (n : Nat) : (List.range n).find? p = firstOf p 0 n := by
  rw [List.range_eq_range', find_range']
/-- factor times the mean in the month is at most the mean in month 0 -/
def reduced (ms : List Lot) (f k : Nat) : Bool := decide (f * (meanOf k ms).1 * (meanOf 0 ms).2 ≤ (meanOf 0 ms).1 * (meanOf k ms).2)
/-- which of lots, month or factor is refused; factor is from 1 to 99 -/
def refusalF (mask factor : Nat) (fs : List Nat) : Int := if okLots fs = true then if factor < 1 then -22 else refusal mask factor 99 fs else -22
def firstAns (mask factor : Nat) (fs : List Nat) : List Int := if refusalF mask factor fs = 0 then (match firstOf (reduced (chosenF mask fs) factor) 0 41 with | none => [-33] | some k => [(k : Int)]) else [refusalF mask factor fs]
theorem first_is (mask factor : Nat) (fs : List Nat) : PyKs604.first_month_reduced mask factor (cast fs) = firstAns mask factor fs := by
  show Ks604Neutral.integers (answer (.firstMonthReduced (Int.toNat (mask : Int)) (Int.toNat (factor : Int)) ((cast fs).map Int.toNat))) = _
  rw [Int.toNat_natCast, Int.toNat_natCast, cast_back]
  show Ks604Neutral.integers (withLots fs fun lots => if factor < 1 ∨ 99 < factor then number (-22) else withSet lots mask fun set => match firstMonthReduced lots set factor with | none => number (-33) | some month => number month) = _
  unfold firstAns
  by_cases h1 : okLots fs = true
  · rw [withLots_eq, if_pos h1]
    by_cases c : factor < 1
    · have e : refusalF mask factor fs = -22 := by unfold refusalF; rw [if_pos h1, if_pos c]
      rw [e, if_pos (Or.inl c)] <;> rfl
    · have e : refusalF mask factor fs = refusal mask factor 99 fs := by unfold refusalF; rw [if_pos h1, if_neg c]
      have z := checked mask factor 99 fs fun set => match firstMonthReduced (lotsF fs) set factor with | none => number (-33) | some month => number month
      rw [withLots_eq, if_pos h1] at z
      have e2 : (if factor < 1 ∨ 99 < factor then number (-22) else withSet (lotsF fs) mask fun set => match firstMonthReduced (lotsF fs) set factor with | none => number (-33) | some month => number month) = (if 99 < factor then number (-22) else withSet (lotsF fs) mask fun set => match firstMonthReduced (lotsF fs) set factor with | none => number (-33) | some month => number month) := by
        by_cases c2 : 99 < factor
        · rw [if_pos c2, if_pos (Or.inr c2)]
        · rw [if_neg c2, if_neg (fun x => x.elim c c2)]
      rw [e2, z, e]
      by_cases h : refusal mask factor 99 fs = 0
      · obtain ⟨_, h2, h3, h4⟩ := refusal_zero h
        rw [if_pos h, if_pos h]
        have hc := chosen_eq mask fs
        have e3 : firstMonthReduced (lotsF fs) (members (lotsF fs).length mask) factor = firstOf (reduced (chosenF mask fs) factor) 0 41 := by
          unfold firstMonthReduced
          rw [find_range]
          refine congrArg (fun p => firstOf p 0 41) (funext fun k => ?_)
          obtain ⟨m1, m2⟩ := mean_make (lotsF fs) (members (lotsF fs).length mask) k (by rw [hc]; exact chosen_den h1) (by rw [hc]; exact h4)
          obtain ⟨n1, n2⟩ := mean_make (lotsF fs) (members (lotsF fs).length mask) 0 (by rw [hc]; exact chosen_den h1) (by rw [hc]; exact h4)
          rw [hc] at m1 m2 n1 n2
          show Rational.le (Rational.mul _ _) _ = _
          rw [m1, n1, ofNat_make, mul_make _ _ (by decide) m2, le_make _ _ (by rw [Nat.one_mul]; exact m2) n2, Nat.one_mul] <;> rfl
        rw [e3]
        cases firstOf (reduced (chosenF mask fs) factor) 0 41 <;> rfl
      · rw [if_neg h, if_neg h]
  · have e : refusalF mask factor fs = -22 := by unfold refusalF; rw [if_neg h1]
    rw [withLots_eq, if_neg h1, e] <;> rfl
/-! ### heaviest_set -/
/-- the set's mean strength is at least the threshold, said without a division -/
def reaches (t k : Nat) (ms : List Lot) : Bool := decide (t * weightOf ms * (sumLots k ms).2 ≤ (sumLots k ms).1)
/-- one set more -/
def better (t k : Nat) (fs : List Nat) (best mask : Nat) : Nat := if (reaches t k (chosenF mask fs) && decide (weightOf (chosenF best fs) < weightOf (chosenF mask fs))) = true then mask else best
def bestOf (t k : Nat) (fs : List Nat) (n : Nat) : Nat := (List.range n).foldl (better t k fs) 0
theorem best_step (t k : Nat) (fs : List Nat) (n : Nat) : bestOf t k fs (n + 1) = better t k fs (bestOf t k fs n) n := by
  unfold bestOf
  rw [List.range_succ, List.foldl_append] <;> rfl
def heavyAns (t k : Nat) (fs : List Nat) : List Int :=
  if okLots fs = true then if 999 < t ∨ 40 < k then [-22] else [((weightOf (chosenF (bestOf t k fs (2 ^ (fs.length / 4))) fs) : Nat) : Int), ((bestOf t k fs (2 ^ (fs.length / 4)) : Nat) : Int)] else [-22]
theorem heaviest_eq {t k : Nat} {fs : List Nat} (h1 : okLots fs = true) : heaviestSet (lotsF fs) t k = bestOf t k fs (2 ^ (fs.length / 4)) := by
  unfold heaviestSet bestOf
  rw [lotsF_len]
  refine congrArg (fun f => List.foldl f 0 (List.range (2 ^ (fs.length / 4)))) (funext fun best => funext fun mask => ?_)
  unfold better
  have hc : ∀ m, (members (fs.length / 4) m).map (lotAt (lotsF fs)) = chosenF m fs := fun m => by
    have := chosen_eq m fs
    rw [lotsF_len] at this
    exact this
  obtain ⟨m1, m2⟩ := total_make (lotsF fs) (members (fs.length / 4) mask) k (by rw [hc]; exact chosen_den h1)
  dsimp only
  rw [m1, weight_of, weight_of, hc, hc]
  rw [hc] at m2
  have e : Rational.le (Rational.ofNat t * Rational.ofNat (weightOf (chosenF mask fs))) (Rational.make (((sumLots k (chosenF mask fs)).1 : Nat) : Int) (sumLots k (chosenF mask fs)).2) = reaches t k (chosenF mask fs) := by
    show Rational.le (Rational.mul _ _) _ = _
    rw [ofNat_make, ofNat_make, mul_make _ _ (by decide) (by decide), le_make _ _ (by decide) m2, Nat.mul_one] <;> rfl
  rw [e]
theorem heaviest_is (t k : Nat) (fs : List Nat) : PyKs604.heaviest_set t k (cast fs) = heavyAns t k fs := by
  show Ks604Neutral.integers (answer (.heaviestSet (Int.toNat (t : Int)) (Int.toNat (k : Int)) ((cast fs).map Int.toNat))) = _
  rw [Int.toNat_natCast, Int.toNat_natCast, cast_back]
  show Ks604Neutral.integers (withLots fs fun lots => if 999 < t ∨ 40 < k then number (-22) else { value := totalWeight lots (members lots.length (heaviestSet lots t k)), rest := integers [heaviestSet lots t k] }) = _
  unfold heavyAns
  rw [withLots_eq]
  by_cases h1 : okLots fs = true
  · rw [if_pos h1, if_pos h1]
    by_cases c : 999 < t ∨ 40 < k
    · rw [if_pos c, if_pos c] <;> rfl
    · rw [if_neg c, if_neg c, heaviest_eq h1, weight_of, chosen_eq] <;> rfl
  · rw [if_neg h1, if_neg h1] <;> rfl
end Fl
namespace Fl
open PySem PySem.Spec PyProof.Rows L2
open PySem.W (Codec)
/-! ### the text by places -/
def top (i : Nat) : Stmt := PySem.Challenge.pw_fadinglots_s04_retention.main.body.getD i (.Pass ⟨0, 0, 0, 0⟩)
/-! ### a def that is known: where it stands, what it promises -/
structure Cal (P : Program) (w : World) (K : PySem.W.Frag) (mg : Str → Option Value) (base : Heap) (k : Nat) (x : Str) (ps : List Str) (sp : Sp) : Prop where
  ex : ∃ (f : Addr) (fd : FuncData), FnOk P w K mg base CX0 k f fd ps sp ∧ mg x = some (.ref f) ∧ PySem.W.keepIn K (.ref f) = true ∧ Binds K fd ps []
theorem pe_def {X : Cx} {k : Nat} {x : Str} {ps : List Str} {sp : Sp} {e : Expr} {es : List Expr} {p pos : Pos} {t : TA} (G : Cal X.prog X.w X.K X.mg X.base k x ps sp) (hr : Room k X.A) (hg : Gl X x) (ha : PA X (e :: es) t)
    (hdb : (x == ("__debug__" : Str)) = false := by decide) (he : starEach (e :: es) X.env = (false, eval e X.env) :: starEach es X.env := by rfl) (hpl : (backTo pos (starEach es X.env)).any (·.1) = false := by rfl) :
    PE X (.Call (.Name x p) (e :: es) [] pos) (tCall sp [] E0 t) := by
  obtain ⟨f, fd, F, hm, hk, hb⟩ := G.ex
  exact pe_call F hr hg hm hk hb .nil pass0 ha hdb he hpl
theorem pe_num {X : Cx} {x : Str} {z : Int} {pos : Pos} (hg : Gl X x) (hm : ∃ t, X.mg x = some (.int z t)) (hd : (x == ("__debug__" : Str)) = false := by decide) : PE X (.Name x pos) (tC (.int z)) := by
  obtain ⟨t, h⟩ := hm
  exact pe_glob hg h ⟨t, rfl⟩ hd
theorem tt_if {c : Bool} {A B : Prop} (hc : c = true) (h : A) : if c = true then A else B := by
  subst hc
  exact iteT h
theorem ff_if {c : Bool} {A B : Prop} (hc : c = false) (h : B) : if c = true then A else B := by
  subst hc
  exact iteF h
/-! ### a lot as an instance -/
def lF (m : Ks604.Lot) : List (Str × V) := [("weight", .int (m.weight : Int)), ("strength", .int (m.strength : Int)), ("num", .int (m.retainedNum : Int)), ("den", .int (m.retainedDen : Int))]
def LotAt (C : Addr) (H : Hp) (a : Addr) (m : Ks604.Lot) : Prop := ∃ dx, H a = some (.ins C dx (lF m))
theorem look_hit {k : Str} {v : V} {r : List (Str × V)} : List.lookup k ((k, v) :: r) = some v := by
  simp only [List.lookup, beq_self_eq_true]
theorem look_miss {k g : Str} {v : V} {r : List (Str × V)} (h : (k == g) = false) : List.lookup k ((g, v) :: r) = List.lookup k r := by
  simp only [List.lookup, h]
theorem putF_miss {f g : Str} {v x : V} {r s : List (Str × V)} (h : ¬ g = f) (e : putF f v r = s) : putF f v ((g, x) :: r) = (g, x) :: s := by
  rw [← e]
  exact if_neg h
theorem lF_w (m : Ks604.Lot) : (lF m).lookup ("weight" : Str) = some (.int (m.weight : Int)) := look_hit
theorem lF_s (m : Ks604.Lot) : (lF m).lookup ("strength" : Str) = some (.int (m.strength : Int)) := (look_miss (by decide +kernel)).trans look_hit
theorem lF_n (m : Ks604.Lot) : (lF m).lookup ("num" : Str) = some (.int (m.retainedNum : Int)) := (look_miss (by decide +kernel)).trans ((look_miss (by decide +kernel)).trans look_hit)
theorem lF_d (m : Ks604.Lot) : (lF m).lookup ("den" : Str) = some (.int (m.retainedDen : Int)) := (look_miss (by decide +kernel)).trans ((look_miss (by decide +kernel)).trans ((look_miss (by decide +kernel)).trans look_hit))
theorem lF_new (m : Ks604.Lot) : putF "den" (.int (m.retainedDen : Int)) (putF "num" (.int (m.retainedNum : Int)) (putF "strength" (.int (m.strength : Int)) (putF "weight" (.int (m.weight : Int)) []))) = lF m := by
  have e0 : putF ("weight" : Str) (.int (m.weight : Int)) [] = [(("weight" : Str), V.int (m.weight : Int))] := rfl
  have e1 : putF ("strength" : Str) (.int (m.strength : Int)) [(("weight" : Str), V.int (m.weight : Int))] = [(("weight" : Str), V.int (m.weight : Int)), (("strength" : Str), V.int (m.strength : Int))] := putF_miss (by decide +kernel) rfl
  have e2 : putF ("num" : Str) (.int (m.retainedNum : Int)) [(("weight" : Str), V.int (m.weight : Int)), (("strength" : Str), V.int (m.strength : Int))] = [(("weight" : Str), V.int (m.weight : Int)), (("strength" : Str), V.int (m.strength : Int)), (("num" : Str), V.int (m.retainedNum : Int))] := putF_miss (by decide +kernel) (putF_miss (by decide +kernel) rfl)
  rw [e0, e1, e2]
  exact putF_miss (by decide +kernel) (putF_miss (by decide +kernel) (putF_miss (by decide +kernel) rfl))
theorem LotAt.keep {C : Addr} {H H' : Hp} {a : Addr} {m : Ks604.Lot} (h : LotAt C H a m) (s : Same H H') : LotAt C H' a m := let ⟨dx, e⟩ := h; ⟨dx, s _ _ e⟩
/-- at as stand the lots ms -/
structure LotsAt (C : Addr) (H : Hp) (as : List Addr) (ms : List Ks604.Lot) : Prop where
  len : as.length = ms.length
  at_ : ∀ (j : Nat) (a : Addr) (m : Ks604.Lot), as[j]? = some a → ms[j]? = some m → LotAt C H a m
theorem LotsAt.keep {C : Addr} {H H' : Hp} {as : List Addr} {ms : List Ks604.Lot} (h : LotsAt C H as ms) (s : Same H H') : LotsAt C H' as ms := ⟨h.len, fun j a m e1 e2 => (h.at_ j a m e1 e2).keep s⟩
/-- what a walk over the list hands over -/
theorem LotsAt.item {C : Addr} {H : Hp} {as : List Addr} {ms : List Ks604.Lot} (h : LotsAt C H as ms) {i : Nat} {x : V} (e : (as.map V.ref)[i]? = some x) : ∃ a m, x = .ref a ∧ ms[i]? = some m ∧ LotAt C H a m := by
  rw [List.getElem?_map] at e
  cases q : as[i]? with
  | none =>
    rw [q] at e
    cases e
  | some a =>
    rw [q] at e
    have hl := (List.getElem?_eq_some_iff.mp q).1
    have hl2 : i < ms.length := by rw [← h.len]; exact hl
    have hm : ms[i]? = some (ms[i]'hl2) := List.getElem?_eq_getElem hl2
    exact ⟨a, _, (Option.some.inj e).symm, hm, h.at_ i a _ q hm⟩
theorem take_one {α : Type} : ∀ {l : List α} {i : Nat} {x : α}, l[i]? = some x → l.take (i + 1) = l.take i ++ [x]
  | [], i, x, h => by simp at h
  | a :: l, 0, x, h => by
    cases h
    rfl
  | a :: l, i + 1, x, h => by
    have ih := take_one (l := l) (i := i) (x := x) h
    show a :: l.take (i + 1) = a :: l.take i ++ [x]
    rw [ih] <;> rfl
/-! ### the handed list of numbers -/
abbrev nV (fs : List Nat) : List V := (cast fs).map V.int
theorem nV_len (fs : List Nat) : (nV fs).length = fs.length := by simp [nV, cast]
theorem nV_at {fs : List Nat} {j : Nat} (h : j < fs.length) : (nV fs)[j]? = some (.int ((fs.getD j 0 : Nat) : Int)) := by
  simp only [nV, cast, List.getElem?_map, List.getElem?_eq_getElem h, List.getD_eq_getElem?_getD, Option.map_some, Option.getD_some]
theorem cast_of : ∀ {l : List Int}, (∀ x ∈ l, 0 ≤ x) → cast (l.map Int.toNat) = l
  | [], _ => rfl
  | a :: r, h => by
    have h0 : ((a.toNat : Nat) : Int) = a := Int.toNat_of_nonneg (h a (List.mem_cons_self ..))
    show ((a.toNat : Nat) : Int) :: cast (r.map Int.toNat) = a :: r
    rw [h0, cast_of fun x hx => h x (List.mem_cons_of_mem _ hx)]
theorem div_cast (m k : Nat) : (m : Int) / 2 ^ k = ((m / 2 ^ k : Nat) : Int) := by simp
theorem Same.put {H H' : Hp} {l : Addr} {o : HO} (s : Same H H') (n : H l = none) : Same H (upd H' l o) := fun b u e => by
  rw [upd_ne (ne_of_none e n)]
  exact s b u e
/-- what the top has written: the class, the constants, the built-in names -/
structure Txt (K : PySem.W.Frag) (mg : Str → Option Value) (C : Addr) : Prop where
  cl : Cls K C
  nW : NoAttr K C "weight"
  nS : NoAttr K C "strength"
  nN : NoAttr K C "num"
  nD : NoAttr K C "den"
  gC : mg "Lot" = some (.ref C)
  cOUTSIDE_LIMITS : ∃ t, mg "OUTSIDE_LIMITS" = some (.int (-22) t)
  cNO_WEIGHT : ∃ t, mg "NO_WEIGHT" = some (.int (-6) t)
  cNO_STRENGTH : ∃ t, mg "NO_STRENGTH" = some (.int (-33) t)
  cNUMBERS_PER_LOT : ∃ t, mg "NUMBERS_PER_LOT" = some (.int 4 t)
  cMOST_LOTS : ∃ t, mg "MOST_LOTS" = some (.int 6 t)
  cMOST_WEIGHT : ∃ t, mg "MOST_WEIGHT" = some (.int 99 t)
  cMOST_STRENGTH : ∃ t, mg "MOST_STRENGTH" = some (.int 999 t)
  cMOST_DEN : ∃ t, mg "MOST_DEN" = some (.int 20 t)
  cLAST_MONTH_OF_RETENTION : ∃ t, mg "LAST_MONTH_OF_RETENTION" = some (.int 39 t)
  len : mg "len" = none
  range : mg "range" = none
section
variable {P : Program} {w : World} {K : PySem.W.Frag} {mg : Str → Option Value} {base : Heap} {C : Addr}
theorem Cal.of {k : Nat} {x qual : Str} {st : Stmt} {f : Addr} {fd : FuncData} {ps : List Str} {sp : Sp} (F : Fun K x qual st f fd) (hm : mg x = some (.ref f)) (b : Binds K fd ps []) (ok : FnOk P w K mg base CX0 k f fd ps sp) : Cal P w K mg base k x ps sp :=
  ⟨⟨f, fd, ok, hm, F.kp, b⟩⟩
/-! ### Lot.__init__ -/
abbrev sInit : Stmt := inClass (top 10) 0
def spInit (C : Addr) : Sp := fun vs H Q _ => ∃ (p dx : Addr) (m : Ks604.Lot), vs = [.ref p, .int (m.weight : Int), .int (m.strength : Int), .int (m.retainedNum : Int), .int (m.retainedDen : Int)] ∧ H p = some (.ins C dx []) ∧
  ∀ H' : Hp, LotAt C H' p m → (∀ b o, H b = some o → b ≠ p → H' b = some o) → Q .non H'
theorem scInit : FnScope ["self", "weight", "strength", "num", "den"] ["self", "weight", "strength", "num", "den"] (defScope sInit) := ⟨rfl, rfl, rfl, by decide +kernel, rfl, by decide +kernel, by decide +kernel⟩
theorem ok_init {f : Addr} {fd : FuncData} (F : Fun K "__init__" "Lot.__init__" sInit f fd) (T : Txt K mg C) : FnOk P w K mg base CX0 1 f fd ["self", "weight", "strength", "num", "den"] (spInit C) := by
  refine F.ok scInit (fun vs H Q E h => ?_) (fun cdv A outer s H vs Q E hr h => ?_)
  · obtain ⟨p, dx, m, rfl, _⟩ := h
    rfl
  · obtain ⟨p, dx, m, rfl, hp, k⟩ := h
    refine ⟨_, pss_cons (ps_fld (pv 0) (pv 1) rfl) (pss_cons (ps_fld (pv 0) (pv 2) rfl) (pss_cons (ps_fld (pv 0) (pv 3) rfl) (pss_one (ps_fld (pv 0) (pv 4) rfl)))), ?_⟩
    refine ⟨_, rfl, _, rfl, p, C, dx, [], rfl, hp, T.cl, T.nW, (by show 0 < 1000; decide), ?_⟩
    refine ⟨_, rfl, _, rfl, p, C, dx, _, rfl, upd_same, T.cl, T.nS, (by show 1 < 1000; decide), ?_⟩
    refine ⟨_, rfl, _, rfl, p, C, dx, _, rfl, upd_same, T.cl, T.nN, (by show 2 < 1000; decide), ?_⟩
    refine ⟨_, rfl, _, rfl, p, C, dx, _, rfl, upd_same, T.cl, T.nD, (by show 3 < 1000; decide), ?_⟩
    exact k _ ⟨dx, Eq.trans upd_same (congrArg (fun q => some (HO.ins C dx q)) (lF_new m))⟩ fun b o e hb => by
      rw [upd_ne hb, upd_ne hb, upd_ne hb, upd_ne hb]
      exact e
/-! ### lot_at -/
abbrev sLotAt : Stmt := top 18
def spLotAt (K : PySem.W.Frag) (C : Addr) : Sp := fun vs H Q _ => ∃ (z : Int) (i : Nat) (a : Addr) (fs : List Nat), vs = [.int z, .ref a] ∧ z = (i : Int) ∧ SqL K H a (nV fs) ∧ i < fs.length / 4 ∧
  ∀ (H' : Hp) (p : Addr), Same H H' → LotAt C H' p (lotF fs i) → Q (.ref p) H'
theorem scLotAt : FnScope ["place", "lots", "start"] ["place", "lots"] (defScope sLotAt) := ⟨rfl, rfl, rfl, by decide +kernel, rfl, by decide +kernel, by decide +kernel⟩
theorem ok_lot_at {f fI : Addr} {fd fdI : FuncData} (F : Fun K "lot_at" "lot_at" sLotAt f fd) (T : Txt K mg C) (M : Mk K C fI) (FI : Fun K "__init__" "Lot.__init__" sInit fI fdI) (bI : Binds K fdI ["self", "weight", "strength", "num", "den"] []) :
    FnOk P w K mg base CX0 3 f fd ["place", "lots"] (spLotAt K C) := by
  have GI : FnOk P w K mg base CX0 1 fI fdI ["self", "weight", "strength", "num", "den"] (spInit C) := ok_init FI T
  refine F.ok scLotAt (fun vs H Q E h => ?_) (fun cdv A outer s H vs Q E hr h => ?_)
  · obtain ⟨z, i, a, fs, rfl, _⟩ := h
    rfl
  · obtain ⟨z, i, a, fs, rfl, ez, hS, hi, k⟩ := h
    subst ez
    refine ⟨_, pss_cons (ps_set (i := 2) scLotAt.nd rfl (Or.inl rfl) (pe_op op_mul (pv 0) (pe_num rfl T.cNUMBERS_PER_LOT)))
      (pss_one (ps_ret (pe_make M GI hr rfl T.gC bI .nil pass0 (pa_cons (pe_ix ix_list (pv 1) (pv 2) (fun _ _ => rfl))
        (pa_cons (pe_ix ix_list (pv 1) (pe_op op_add (pv 2) pe_int) (fun _ _ => rfl))
        (pa_cons (pe_ix ix_list (pv 1) (pe_op op_add (pv 2) pe_int) (fun _ _ => rfl))
        (pa_cons (pe_ix ix_list (pv 1) (pe_op op_add (pv 2) pe_int) (fun _ _ => rfl)) pa_nil))))))), ?_⟩
    refine ⟨_, rfl, _, _, rfl, rfl, Or.inr ⟨by decide, by decide⟩, ?_⟩
    refine ⟨_, rfl, _, rfl, a, _, _, _, rfl, rfl, hS, at_of (j := i * 4) (by omega) (nV_at (by omega)), ?_⟩
    refine ⟨_, rfl, _, rfl, _, _, rfl, rfl, a, _, _, _, rfl, rfl, hS, at_of (j := i * 4 + 1) (by omega) (nV_at (by omega)), ?_⟩
    refine ⟨_, rfl, _, rfl, _, _, rfl, rfl, a, _, _, _, rfl, rfl, hS, at_of (j := i * 4 + 2) (by omega) (nV_at (by omega)), ?_⟩
    refine ⟨_, rfl, _, rfl, _, _, rfl, rfl, a, _, _, _, rfl, rfl, hS, at_of (j := i * 4 + 3) (by omega) (nV_at (by omega)), ?_⟩
    intro x dx nx nd ne
    exact ⟨x, dx, lotF fs i, rfl, upd_same, fun H1 J kp => ⟨rfl, k H1 x (Same.made nx nd kp) J⟩⟩
/-! ### count_lots -/
abbrev sCount : Stmt := top 17
def spCount (K : PySem.W.Frag) : Sp := fun vs H Q _ => ∃ (a : Addr) (fs : List Nat), vs = [.ref a] ∧ SqL K H a (nV fs) ∧ Q (.int ((fs.length / 4 : Nat) : Int)) H
theorem scCount : FnScope ["lots"] ["lots"] (defScope sCount) := ⟨rfl, rfl, rfl, by decide +kernel, rfl, by decide +kernel, by decide +kernel⟩
theorem ok_count {f : Addr} {fd : FuncData} (F : Fun K "count_lots" "count_lots" sCount f fd) (T : Txt K mg C) : FnOk P w K mg base CX0 1 f fd ["lots"] (spCount K) := by
  refine F.ok scCount (fun vs H Q E h => ?_) (fun cdv A outer s H vs Q E hr h => ?_)
  · obtain ⟨a, fs, rfl, _⟩ := h
    rfl
  · obtain ⟨a, fs, rfl, hS, k⟩ := h
    refine ⟨_, pss_one (ps_ret (pe_op op_fdiv (pe_callB call_len_seq (by rfl) T.len PySem.boot_len (pa_cons (pv 0) pa_nil)) (pe_num rfl T.cNUMBERS_PER_LOT))), ?_⟩
    refine ⟨_, rfl, a, _, rfl, Or.inl hS, _, _, rfl, rfl, ⟨by decide, by decide⟩, ?_⟩
    have e : ((nV fs).length : Int) / 4 = ((fs.length / 4 : Nat) : Int) := by
      rw [nV_len]
      omega
    show Q (.int (((nV fs).length : Int) / 4)) H
    rw [e]
    exact k
/-! ### has_unknown_lot -/
abbrev sUnk : Stmt := top 16
def spUnk (K : PySem.W.Frag) : Sp := fun vs H Q _ => ∃ (mask : Nat) (a : Addr) (fs : List Nat), vs = [.int (mask : Int), .ref a] ∧ SqL K H a (nV fs) ∧ Q (.bl (decide (mask / 2 ^ (fs.length / 4) ≠ 0))) H
theorem scUnk : FnScope ["mask", "lots"] ["mask", "lots"] (defScope sUnk) := ⟨rfl, rfl, rfl, by decide +kernel, rfl, by decide +kernel, by decide +kernel⟩
theorem ne_bool (n : Nat) : (!decide (V.int (n : Int) = V.int 0)) = decide (n ≠ 0) := by
  by_cases h : n = 0
  · subst h
    rfl
  · have h2 : ¬ V.int (n : Int) = V.int 0 := fun e => h (by injection e with e; omega)
    rw [decide_eq_false h2, decide_eq_true h] <;> rfl
theorem ok_unk {f : Addr} {fd : FuncData} (F : Fun K "has_unknown_lot" "has_unknown_lot" sUnk f fd) (T : Txt K mg C) (GC : Cal P w K mg base 1 "count_lots" ["lots"] (spCount K)) : FnOk P w K mg base CX0 2 f fd ["mask", "lots"] (spUnk K) := by
  refine F.ok scUnk (fun vs H Q E h => ?_) (fun cdv A outer s H vs Q E hr h => ?_)
  · obtain ⟨m, a, fs, rfl, _⟩ := h
    rfl
  · obtain ⟨m, a, fs, rfl, hS, k⟩ := h
    refine ⟨_, pss_one (ps_ret (pe_cmpR op_ne (pe_op op_shrN (pv 0) (pe_def GC hr rfl (pa_cons (pv 1) pa_nil))) pe_int (nomark _))), ?_⟩
    refine ⟨_, rfl, _, rfl, a, fs, rfl, hS, (m : Int), fs.length / 4, rfl, rfl, rfl, ?_⟩
    show Q (.bl (!decide (V.int ((m : Int) / 2 ^ (fs.length / 4)) = V.int 0))) H
    rw [div_cast, ne_bool]
    exact k
/-! ### is_within -/
abbrev sWithin : Stmt := top 15
def spWithin : Sp := fun vs H Q _ => ∃ (lo n hi : Nat), vs = [.int (lo : Int), .int (n : Int), .int (hi : Int)] ∧ Q (.bl (decide (lo ≤ n ∧ n ≤ hi))) H
theorem scWithin : FnScope ["least", "number", "most"] ["least", "number", "most"] (defScope sWithin) := ⟨rfl, rfl, rfl, by decide +kernel, rfl, by decide +kernel, by decide +kernel⟩
theorem ok_within {f : Addr} {fd : FuncData} (F : Fun K "is_within" "is_within" sWithin f fd) : FnOk P w K mg base CX0 1 f fd ["least", "number", "most"] spWithin := by
  refine F.ok scWithin (fun vs H Q E h => ?_) (fun cdv A outer s H vs Q E hr h => ?_)
  · obtain ⟨lo, n, hi, rfl, _⟩ := h
    rfl
  · obtain ⟨lo, n, hi, rfl, k⟩ := h
    refine ⟨_, pss_one (ps_ret (pe_and (pe_cmpR op_le (pv 0) (pv 1) (nomark _)) (pe_one (pe_cmpR op_le (pv 1) (pv 2) (nomark _))))), ?_⟩
    refine ⟨_, rfl, _, rfl, _, _, rfl, rfl, _, rfl, ?_⟩
    by_cases c : lo ≤ n
    · refine tt_if (decide_eq_true (Int.ofNat_le.mpr c)) ?_
      refine ⟨_, rfl, _, rfl, _, _, rfl, rfl, ?_⟩
      have e : decide ((n : Int) ≤ (hi : Int)) = decide (lo ≤ n ∧ n ≤ hi) := by
        rw [Bool.eq_iff_iff, decide_eq_true_iff, decide_eq_true_iff, Int.ofNat_le]
        exact ⟨fun z => ⟨c, z⟩, fun z => z.2⟩
      show Q (.bl (decide ((n : Int) ≤ (hi : Int)))) H
      rw [e]
      exact k
    · refine ff_if (decide_eq_false (fun z => c (Int.ofNat_le.mp z))) ?_
      rw [decide_eq_false (fun z => c z.1)] at k
      exact k
/-! ### is_lot_within_limits -/
abbrev sIs : Stmt := top 14
def spIs (C : Addr) : Sp := fun vs H Q _ => ∃ (a : Addr) (m : Ks604.Lot), vs = [.ref a] ∧ LotAt C H a m ∧ Q (.bl (okLot m)) H
theorem scIs : FnScope ["lot"] ["lot"] (defScope sIs) := ⟨rfl, rfl, rfl, by decide +kernel, rfl, by decide +kernel, by decide +kernel⟩
theorem okLot_not {m : Ks604.Lot} (h : ¬ (m.weight ≤ 99 ∧ m.strength ≤ 999 ∧ 1 ≤ m.retainedNum ∧ m.retainedNum ≤ m.retainedDen ∧ m.retainedDen ≤ 20)) : okLot m = false := by
  cases e : okLot m with
  | false => rfl
  | true => exact absurd (okLot_iff.mp e) h
theorem not_true {p : Prop} [Decidable p] (h : ¬ p) : (!decide p) = true := by rw [decide_eq_false h] <;> rfl
theorem not_false' {p : Prop} [Decidable p] (h : p) : (!decide p) = false := by rw [decide_eq_true h] <;> rfl
theorem ok_is {f : Addr} {fd : FuncData} (F : Fun K "is_lot_within_limits" "is_lot_within_limits" sIs f fd) (T : Txt K mg C) (GF : Cal P w K mg base 1 "is_within" ["least", "number", "most"] spWithin) : FnOk P w K mg base CX0 2 f fd ["lot"] (spIs C) := by
  refine F.ok scIs (fun vs H Q E h => ?_) (fun cdv A outer s H vs Q E hr h => ?_)
  · obtain ⟨a, m, rfl, _⟩ := h
    rfl
  · obtain ⟨a, m, rfl, ⟨dx, h1⟩, k⟩ := h
    refine ⟨_, pss_cons (ps_if (PW.pt (pw_or (pt_not (pt_val (pe_def GF hr rfl (pa_cons pe_int (pa_cons (pe_fld (pv 0) rfl) (pa_cons (pe_num rfl T.cMOST_WEIGHT) pa_nil))))))
        (pw_or1 (pt_not (pt_val (pe_def GF hr rfl (pa_cons pe_int (pa_cons (pe_fld (pv 0) rfl) (pa_cons (pe_num rfl T.cMOST_STRENGTH) pa_nil))))))))) (pss_one (ps_ret pe_bl)) pss_nil)
      (pss_one (ps_ret (pe_and (pe_def GF hr rfl (pa_cons pe_int (pa_cons (pe_fld (pv 0) rfl) (pa_cons (pe_fld (pv 0) rfl) pa_nil)))) (pe_one (pe_cmpR op_le (pe_fld (pv 0) rfl) (pe_num rfl T.cMOST_DEN) (nomark _)))))), ?_⟩
    refine ⟨_, rfl, a, C, dx, _, _, rfl, h1, T.cl, T.nW, lF_w m, 0, m.weight, 99, rfl, _, rfl, ?_⟩
    by_cases c1 : m.weight ≤ 99
    · refine ff_if (not_false' ⟨Nat.zero_le _, c1⟩) ?_
      refine ⟨_, rfl, a, C, dx, _, _, rfl, h1, T.cl, T.nS, lF_s m, 0, m.strength, 999, rfl, _, rfl, ?_⟩
      by_cases c2 : m.strength ≤ 999
      · refine ff_if (not_false' ⟨Nat.zero_le _, c2⟩) ?_
        refine ⟨_, rfl, a, C, dx, _, _, rfl, h1, T.cl, T.nN, lF_n m, _, rfl, a, C, dx, _, _, rfl, h1, T.cl, T.nD, lF_d m, 1, m.retainedNum, m.retainedDen, rfl, _, rfl, ?_⟩
        by_cases c3 : 1 ≤ m.retainedNum ∧ m.retainedNum ≤ m.retainedDen
        · refine tt_if (decide_eq_true c3) ?_
          refine ⟨_, rfl, a, C, dx, _, _, rfl, h1, T.cl, T.nD, lF_d m, _, _, rfl, rfl, ?_⟩
          show Q (.bl (decide ((m.retainedDen : Int) ≤ 20))) H
          by_cases c5 : m.retainedDen ≤ 20
          · rw [decide_eq_true (by omega)]
            rw [okLot_iff.mpr ⟨c1, c2, c3.1, c3.2, c5⟩] at k
            exact k
          · rw [decide_eq_false (by omega)]
            rw [okLot_not (fun z => c5 z.2.2.2.2)] at k
            exact k
        · refine ff_if (decide_eq_false c3) ?_
          rw [okLot_not (fun z => c3 ⟨z.2.2.1, z.2.2.2.1⟩)] at k
          exact k
      · refine tt_if (not_true (fun z => c2 z.2)) ?_
        rw [okLot_not (fun z => c2 z.2.1)] at k
        exact k
    · refine tt_if (not_true (fun z => c1 z.2)) ?_
      rw [okLot_not (fun z => c1 z.1)] at k
      exact k
/-! ### are_lots_within_limits -/
abbrev sAre : Stmt := top 13
def spAre (K : PySem.W.Frag) : Sp := fun vs H Q _ => ∃ (a : Addr) (fs : List Nat), vs = [.ref a] ∧ SqL K H a (nV fs) ∧ fs.length ≤ 27 ∧ ∀ H' : Hp, Same H H' → Q (.bl (okLots fs)) H'
theorem scAre : FnScope ["lots", "place"] ["lots"] (defScope sAre) := ⟨rfl, rfl, rfl, by decide +kernel, rfl, by decide +kernel, by decide +kernel⟩
theorem okLots_not {fs : List Nat} (h : ¬ ((fs.length % 4 = 0 ∧ allOk fs = true) ∧ ¬ 6 < fs.length / 4)) : okLots fs = false := by
  cases e : okLots fs with
  | false => rfl
  | true => exact absurd ((okLots_iff fs).mp e) h
theorem ok_are {f : Addr} {fd : FuncData} (F : Fun K "are_lots_within_limits" "are_lots_within_limits" sAre f fd) (T : Txt K mg C) (GC : Cal P w K mg base 1 "count_lots" ["lots"] (spCount K)) (GL : Cal P w K mg base 3 "lot_at" ["place", "lots"] (spLotAt K C))
    (GS : Cal P w K mg base 2 "is_lot_within_limits" ["lot"] (spIs C)) : FnOk P w K mg base CX0 4 f fd ["lots"] (spAre K) := by
  refine F.ok scAre (fun vs H Q E h => ?_) (fun cdv A outer s H vs Q E hr h => ?_)
  · obtain ⟨a, fs, rfl, _⟩ := h
    rfl
  · obtain ⟨a, fs, rfl, hS, hlen, k⟩ := h
    have hr1 : Room 1 _ := hr.mono (by decide)
    refine ⟨_, pss_cons (ps_if (PW.pt (pw_or (pt_cmpR op_ne (pe_op op_mod (pe_callB call_len_seq (by rfl) T.len PySem.boot_len (pa_cons (pv 0) pa_nil)) (pe_num rfl T.cNUMBERS_PER_LOT)) pe_int (nomark _))
        (pw_or1 (pt_cmpR op_gt (pe_callB call_len_seq (by rfl) T.len PySem.boot_len (pa_cons (pv 0) pa_nil)) (pe_op op_mul (pe_num rfl T.cMOST_LOTS) (pe_num rfl T.cNUMBERS_PER_LOT)) (nomark _))))) (pss_one (ps_ret pe_bl)) pss_nil)
      (pss_cons (ps_for PassesOwn.never rfl (pi_range1 (by rfl) T.range (pa_cons (pe_def GC hr1 rfl (pa_cons (pv 0) pa_nil)) pa_nil)) (pg_name (i := 1) scAre.nd rfl (Or.inl rfl))
        (pss_one (ps_if (pt_not (pt_val (pe_def GS (hr.mono (by decide)) rfl (pa_cons (pe_def GL hr rfl (pa_cons (pv 1) (pa_cons (pv 0) pa_nil))) pa_nil)))) (pss_one (ps_ret pe_bl)) pss_nil)))
      (pss_one (ps_ret pe_bl))), ?_⟩
    have same := Same.refl H
    refine ⟨_, rfl, a, _, rfl, Or.inl hS, _, _, rfl, rfl, (by show (0 : Int) < 4; decide), rfl, _, rfl, ?_⟩
    have el := nV_len fs
    by_cases c1 : fs.length % 4 = 0
    · refine ff_if ?_ ?_
      · have e0 : ((nV fs).length : Int) % 4 = 0 := by omega
        show (!decide (V.int (((nV fs).length : Int) % 4) = V.int 0)) = false
        rw [e0]
        rfl
      refine ⟨_, rfl, a, _, rfl, Or.inl hS, _, _, rfl, rfl, Or.inl ⟨by decide, by decide⟩, _, _, rfl, rfl, _, rfl, ?_⟩
      by_cases c2 : fs.length ≤ 24
      · refine ff_if (decide_eq_false (by omega)) ?_
        refine ⟨_, rfl, a, fs, rfl, hS, ?_⟩
        refine ⟨_, rfl, (by omega), (by omega), for_range (lo := 0) (n := fs.length / 4) (fun i σ H' => ∃ v : Option V, σ = [some (.ref a), v] ∧ Same H H' ∧ ∀ j, j < i → okLot (lotF fs j) = true)
          ⟨none, rfl, Same.refl H, fun j hj => absurd hj (Nat.not_lt_zero j)⟩ ?_ ?_⟩
        · rintro i σ H' hi ⟨v, rfl, s1, ho⟩
          refine ⟨_, rfl, _, rfl, 0 + (i : Int), i, a, fs, rfl, Int.zero_add _, s1.seq hS, hi, fun H2 p s2 hp => ?_⟩
          refine ⟨p, lotF fs i, rfl, hp, _, rfl, ?_⟩
          by_cases c3 : okLot (lotF fs i) = true
          · refine ff_if (by rw [c3] <;> rfl) ?_
            refine ⟨_, rfl, s1.trans s2, fun j hj => ?_⟩
            by_cases e : j = i
            · rw [e]
              exact c3
            · exact ho j (by omega)
          · refine tt_if (by rw [Bool.eq_false_iff.mpr c3] <;> rfl) ?_
            have q := k H2 (s1.trans s2)
            rw [okLots_not (fun z => c3 (List.all_eq_true.mp z.1.2 i (List.mem_range.mpr hi)))] at q
            exact q
        · rintro σ H' ⟨v, rfl, s1, ho⟩
          have q := k H' s1
          rw [(okLots_iff fs).mpr ⟨⟨c1, List.all_eq_true.mpr fun i hi => ho i (List.mem_range.mp hi)⟩, by omega⟩] at q
          exact q
      · refine tt_if (decide_eq_true (by omega)) ?_
        have q := k H same
        rw [okLots_not (fun z => z.2 (by omega))] at q
        exact q
    · refine tt_if ?_ ?_
      · have e0 : ¬ V.int (((nV fs).length : Int) % 4) = V.int 0 := fun e => c1 (by injection e with e; omega)
        show (!decide (V.int (((nV fs).length : Int) % 4) = V.int 0)) = true
        rw [decide_eq_false e0]
        rfl
      have q := k H same
      rw [okLots_not (fun z => c1 z.1.1)] at q
      exact q
/-! ### chosen_lots -/
abbrev sChosen : Stmt := top 19
def spChosen (K : PySem.W.Frag) (C : Addr) : Sp := fun vs H Q _ => ∃ (mask : Nat) (a : Addr) (fs : List Nat), vs = [.int (mask : Int), .ref a] ∧ SqL K H a (nV fs) ∧ fs.length ≤ 27 ∧
  ∀ (H' : Hp) (l : Addr) (as : List Addr), Same H H' → H l = none → H' l = some (.lst (as.map V.ref)) → LotsAt C H' as (chosenF mask fs) → Q (.ref l) H'
theorem scChosen : FnScope ["mask", "lots", "chosen", "place"] ["mask", "lots"] (defScope sChosen) := ⟨rfl, rfl, rfl, by decide +kernel, rfl, by decide +kernel, by decide +kernel⟩
def part (mask : Nat) (fs : List Nat) (i : Nat) : List Ks604.Lot := ((List.range i).filter fun i => mask.testBit i).map (lotF fs)
theorem part_in {mask : Nat} {fs : List Nat} {i : Nat} (h : mask.testBit i = true) : part mask fs (i + 1) = part mask fs i ++ [lotF fs i] := by
  unfold part
  rw [List.range_succ, List.filter_append, List.map_append, List.filter_cons, if_pos h] <;> rfl
theorem part_out {mask : Nat} {fs : List Nat} {i : Nat} (h : mask.testBit i = false) : part mask fs (i + 1) = part mask fs i := by
  unfold part
  rw [List.range_succ, List.filter_append, List.map_append, List.filter_cons, if_neg (by rw [h]; exact Bool.false_ne_true), List.filter_nil, List.map_nil, List.append_nil]
theorem part_len (mask : Nat) (fs : List Nat) (i : Nat) : (part mask fs i).length ≤ i := by
  unfold part
  rw [List.length_map]
  exact Nat.le_trans (List.length_filter_le _ _) (by rw [List.length_range]; exact Nat.le_refl _)
theorem bit_is (mask i : Nat) : decide (V.int ((mask / 2 ^ i % 2 : Nat) : Int) = V.int 1) = mask.testBit i := by
  rw [Nat.testBit_eq_decide_div_mod_eq, Bool.eq_iff_iff, decide_eq_true_iff, decide_eq_true_iff]
  constructor
  · intro e
    injection e with e
    omega
  · intro e
    rw [e]
    rfl
theorem LotsAt.more {C : Addr} {H : Hp} {as : List Addr} {ms : List Ks604.Lot} {a : Addr} {m : Ks604.Lot} (h : LotsAt C H as ms) (q : LotAt C H a m) : LotsAt C H (as ++ [a]) (ms ++ [m]) := by
  refine ⟨by rw [List.length_append, List.length_append, h.len] <;> rfl, fun j b x e1 e2 => ?_⟩
  by_cases c : j < as.length
  · rw [List.getElem?_append_left c] at e1
    rw [List.getElem?_append_left (by rw [← h.len]; exact c)] at e2
    exact h.at_ j b x e1 e2
  · rw [List.getElem?_append_right (Nat.le_of_not_lt c)] at e1
    rw [List.getElem?_append_right (by rw [← h.len]; exact Nat.le_of_not_lt c), ← h.len] at e2
    cases hj : j - as.length with
    | zero =>
      rw [hj] at e1 e2
      cases e1
      cases e2
      exact q
    | succ n =>
      rw [hj] at e1
      simp at e1
/-- a store to a list leaves the lots as they are -/
theorem LotAt.put {C : Addr} {H : Hp} {a l : Addr} {m : Ks604.Lot} {xs ys : List V} (h : LotAt C H a m) (q : H l = some (.lst xs)) : LotAt C (upd H l (.lst ys)) a m := by
  obtain ⟨dx, e⟩ := h
  exact ⟨dx, by rw [upd_ne (ne_of e q (by intro z; cases z))]; exact e⟩
theorem LotsAt.put {C : Addr} {H : Hp} {as : List Addr} {l : Addr} {ms : List Ks604.Lot} {xs ys : List V} (h : LotsAt C H as ms) (q : H l = some (.lst xs)) : LotsAt C (upd H l (.lst ys)) as ms :=
  ⟨h.len, fun j a m e1 e2 => (h.at_ j a m e1 e2).put q⟩
theorem ok_chosen {f : Addr} {fd : FuncData} (F : Fun K "chosen_lots" "chosen_lots" sChosen f fd) (T : Txt K mg C) (GC : Cal P w K mg base 1 "count_lots" ["lots"] (spCount K)) (GL : Cal P w K mg base 3 "lot_at" ["place", "lots"] (spLotAt K C)) :
    FnOk P w K mg base CX0 4 f fd ["mask", "lots"] (spChosen K C) := by
  refine F.ok scChosen (fun vs H Q E h => ?_) (fun cdv A outer s H vs Q E hr h => ?_)
  · obtain ⟨m, a, fs, rfl, _⟩ := h
    rfl
  · obtain ⟨mask, a, fs, rfl, hS, hlen, k⟩ := h
    have hr1 : Room 1 _ := hr.mono (by decide)
    refine ⟨_, pss_cons (ps_set (i := 2) scChosen.nd rfl (Or.inl rfl) (pe_lst pa_nil))
      (pss_cons (ps_for PassesOwn.never rfl (pi_range1 (by rfl) T.range (pa_cons (pe_def GC hr1 rfl (pa_cons (pv 1) pa_nil)) pa_nil)) (pg_name (i := 3) scChosen.nd rfl (Or.inl rfl))
        (pss_one (ps_if (pt_cmpR op_eq (pe_op op_odd (pe_op op_shrN (pv 0) (pv 3)) pe_int) pe_int (nomark _))
          (pss_one (ps_expr (pe_bm PySem.F.plainAttrs_list PySem.F.slot_list_append PySem.F.type_list_append mt_append (pv 2) (pa_cons (pe_def GL hr rfl (pa_cons (pv 3) (pa_cons (pv 1) pa_nil))) pa_nil)))) pss_nil)))
      (pss_one (ps_ret (pv 2)))), ?_⟩
    refine ⟨Nat.zero_le _, fun l hl => ?_⟩
    have s0 : Same H (upd H l (.lst [])) := Same.put (Same.refl H) hl
    refine ⟨_, rfl, a, fs, rfl, s0.seq hS, ?_⟩
    refine ⟨_, rfl, (by omega), (by omega), for_range (lo := 0) (n := fs.length / 4) (fun i σ H' => ∃ (v : Option V) (as : List Addr), σ = [some (.int (mask : Int)), some (.ref a), some (.ref l), v] ∧ Same H H' ∧ H' l = some (.lst (as.map V.ref)) ∧ LotsAt C H' as (part mask fs i))
      ⟨none, [], rfl, s0, upd_same, rfl, fun j b m e1 _ => by simp at e1⟩ ?_ ?_⟩
    · rintro i σ H' hi ⟨v, as, rfl, s1, hq, hA⟩
      refine ⟨_, rfl, _, rfl, (mask : Int), i, rfl, congrArg V.int (Int.zero_add _), mask / 2 ^ i, congrArg V.int (div_cast mask i), rfl, rfl, _, rfl, ?_⟩
      have eb := bit_is mask i
      cases c : mask.testBit i with
      | true =>
        refine tt_if (eb.trans c) ?_
        refine ⟨_, rfl, Or.inl ⟨rfl, _, SqL.of hq⟩, _, rfl, _, rfl, 0 + (i : Int), i, a, fs, rfl, Int.zero_add _, s1.seq hS, hi, fun H2 p s2 hp => ?_⟩
        have hq2 := s2 _ _ hq
        refine ⟨l, _, _, rfl, rfl, hq2, ?_, ?_⟩
        · have := hA.len
          have := part_len mask fs i
          rw [List.length_map]
          exact small1000 (by omega)
        · refine ⟨_, as ++ [p], rfl, Same.put (s1.trans s2) hl, ?_, ?_⟩
          · rw [upd_same, List.map_append] <;> rfl
          · rw [part_in c]
            exact ((hA.keep s2).more hp).put hq2
      | false =>
        refine ff_if (eb.trans c) ?_
        refine ⟨_, as, rfl, s1, hq, ?_⟩
        rw [part_out c]
        exact hA
    · rintro σ H' ⟨v, as, rfl, s1, hq, hA⟩
      exact ⟨_, rfl, k H' l as s1 hl hq hA⟩
/-! ### total_weight -/
abbrev sTotal : Stmt := top 20
def spTotal (C : Addr) : Sp := fun vs H Q _ => ∃ (l : Addr) (as : List Addr) (ms : List Ks604.Lot), vs = [.ref l] ∧ H l = some (.lst (as.map V.ref)) ∧ LotsAt C H as ms ∧ Q (.int ((weightOf ms : Nat) : Int)) H
theorem scTotal : FnScope ["chosen", "weight", "lot"] ["chosen"] (defScope sTotal) := ⟨rfl, rfl, rfl, by decide +kernel, rfl, by decide +kernel, by decide +kernel⟩
theorem weight_take {ms : List Ks604.Lot} {i : Nat} {m : Ks604.Lot} (h : ms[i]? = some m) : weightOf (ms.take (i + 1)) = weightOf (ms.take i) + m.weight := by
  rw [take_one h]
  unfold weightOf
  simp
theorem ok_total {f : Addr} {fd : FuncData} (F : Fun K "total_weight" "total_weight" sTotal f fd) (T : Txt K mg C) : FnOk P w K mg base CX0 1 f fd ["chosen"] (spTotal C) := by
  refine F.ok scTotal (fun vs H Q E h => ?_) (fun cdv A outer s H vs Q E hr h => ?_)
  · obtain ⟨l, as, ms, rfl, _⟩ := h
    rfl
  · obtain ⟨l, as, ms, rfl, hq, hA, k⟩ := h
    refine ⟨_, pss_cons (ps_set (i := 1) scTotal.nd rfl (Or.inl rfl) pe_int)
      (pss_cons (ps_for PassesOwn.never rfl (pi_list (pv 0)) (pg_name (i := 2) scTotal.nd rfl (Or.inl rfl))
        (pss_one (ps_set (i := 1) scTotal.nd rfl (Or.inl rfl) (pe_op op_add (pv 1) (pe_fld (pv 2) rfl)))))
      (pss_one (ps_ret (pv 1)))), ?_⟩
    refine ⟨_, rfl, l, rfl, ⟨_, SqL.of hq⟩, for_list (K := K) (a := l) (xs := as.map V.ref) (fun i σ H' => H' = H ∧ ∃ v : Option V, σ = [some (.ref l), some (.int ((weightOf (ms.take i) : Nat) : Int)), v])
      ⟨rfl, none, rfl⟩ (fun i σ H' _ h => by rw [h.1]; exact SqL.of hq) ?_ ?_⟩
    · rintro i x σ H' hi ⟨rfl, v, rfl⟩
      obtain ⟨a, m, rfl, hm, dx, hd⟩ := hA.item hi
      refine ⟨_, rfl, _, rfl, a, C, dx, _, _, rfl, hd, T.cl, T.nW, lF_w m, _, _, rfl, rfl, rfl, some (.ref a), ?_⟩
      rw [weight_take hm]
      rfl
    · rintro σ H' ⟨rfl, v, rfl⟩
      rw [List.length_map, hA.len, List.take_length]
      exact ⟨_, rfl, k⟩
/-! ### power -/
abbrev sPower : Stmt := top 22
def spPower : Sp := fun vs H Q _ => ∃ (b e : Nat), vs = [.int (b : Int), .int (e : Int)] ∧ b ≤ 4294967296 ∧ e ≤ 4294967296 ∧ Q (.int ((b ^ e : Nat) : Int)) H
theorem scPower : FnScope ["base", "exponent", "product", "turn"] ["base", "exponent"] (defScope sPower) := ⟨rfl, rfl, rfl, by decide +kernel, rfl, by decide +kernel, by decide +kernel⟩
theorem ok_power {f : Addr} {fd : FuncData} (F : Fun K "power" "power" sPower f fd) (T : Txt K mg C) : FnOk P w K mg base CX0 1 f fd ["base", "exponent"] spPower := by
  refine F.ok scPower (fun vs H Q E h => ?_) (fun cdv A outer s H vs Q E hr h => ?_)
  · obtain ⟨b, e, rfl, _⟩ := h
    rfl
  · obtain ⟨b, e, rfl, hb, he, k⟩ := h
    refine ⟨_, pss_cons (ps_set (i := 2) scPower.nd rfl (Or.inl rfl) pe_int)
      (pss_cons (ps_for PassesOwn.never rfl (pi_range1 (by rfl) T.range (pa_cons (pv 1) pa_nil)) (pg_name (i := 3) scPower.nd rfl (Or.inl rfl))
        (pss_one (ps_set (i := 2) scPower.nd rfl (Or.inl rfl) (pe_op op_mul (pv 2) (pv 0)))))
      (pss_one (ps_ret (pv 2)))), ?_⟩
    refine ⟨_, rfl, _, rfl, (by omega), (by omega), for_range (lo := 0) (n := e) (fun i σ H' => H' = H ∧ ∃ v : Option V, σ = [some (.int (b : Int)), some (.int (e : Int)), some (.int ((b ^ i : Nat) : Int)), v])
      ⟨rfl, none, rfl⟩ ?_ ?_⟩
    · rintro i σ H' hi ⟨rfl, v, rfl⟩
      refine ⟨_, rfl, _, rfl, _, _, rfl, rfl, Or.inr ⟨by omega, by omega⟩, rfl, some (.int (0 + (i : Int))), ?_⟩
      rw [Nat.pow_succ]
      rfl
    · rintro σ H' ⟨rfl, v, rfl⟩
      exact ⟨_, rfl, k⟩
/-! ### mean_in_month -/
abbrev sMean : Stmt := top 21
def spMean (C : Addr) : Sp := fun vs H Q _ => ∃ (l : Addr) (as : List Addr) (ms : List Ks604.Lot) (n : Nat), vs = [.ref l, .int (n : Int)] ∧ H l = some (.lst (as.map V.ref)) ∧ LotsAt C H as ms ∧ (∀ m ∈ ms, okLot m = true) ∧ ms.length ≤ 6 ∧ n ≤ 40 ∧
  ∀ p, H p = none → Q (.ref p) (upd H p (.lst [.int (((meanOf n ms).1 : Nat) : Int), .int (((meanOf n ms).2 : Nat) : Int)]))
theorem scMean : FnScope ["chosen", "month", "top", "bottom", "lot", "parts", "kept"] ["chosen", "month"] (defScope sMean) := ⟨rfl, rfl, rfl, by decide +kernel, rfl, by decide +kernel, by decide +kernel⟩
theorem pow20 {d k : Nat} (hd : d ≤ 20) (hk : k ≤ 40) : d ^ k < 2 ^ 200 :=
  Nat.lt_of_le_of_lt (Nat.le_trans (Nat.pow_le_pow_left hd k) (Nat.pow_le_pow_right (by decide) hk)) (by decide +kernel)
theorem add_bound {k a : Nat} {p : Nat × Nat} {m : Ks604.Lot} (hk : k ≤ 40) (hm : okLot m = true) (h1 : p.1 < 2 ^ (1 + 220 * a)) (h2 : p.2 < 2 ^ (1 + 200 * a)) (h3 : p.2 ≠ 0) :
    (addLot k p m).1 < 2 ^ (1 + 220 * (a + 1)) ∧ (addLot k p m).2 < 2 ^ (1 + 200 * (a + 1)) ∧ (addLot k p m).2 ≠ 0 := by
  obtain ⟨q1, q2, q3, q4, q5⟩ := okLot_iff.mp hm
  have hd : m.retainedDen ^ k < 2 ^ 200 := pow20 q5 hk
  have hn : m.retainedNum ^ k < 2 ^ 200 := pow20 (Nat.le_trans q4 q5) hk
  have hws : m.weight * m.strength < 2 ^ 17 := Nat.lt_of_le_of_lt (Nat.mul_le_mul q1 q2) (by decide)
  refine ⟨?_, ?_, Nat.mul_ne_zero h3 (pow_ne (by omega) k)⟩
  · have x1 : p.1 * m.retainedDen ^ k < 2 ^ (220 + 220 * a) := Nat.lt_of_lt_of_le (Nat.mul_lt_mul'' h1 hd) (by rw [← Nat.pow_add]; exact Nat.pow_le_pow_right (by decide) (by omega))
    have x2 : m.weight * m.strength * m.retainedNum ^ k * p.2 < 2 ^ (220 + 220 * a) :=
      Nat.lt_of_lt_of_le (Nat.mul_lt_mul'' (Nat.mul_lt_mul'' hws hn) h2) (by rw [← Nat.pow_add, ← Nat.pow_add]; exact Nat.pow_le_pow_right (by decide) (by omega))
    have e : 2 ^ (1 + 220 * (a + 1)) = 2 ^ (220 + 220 * a) * 2 := by rw [← Nat.pow_succ]; exact congrArg _ (by omega)
    rw [e]
    show p.1 * m.retainedDen ^ k + m.weight * m.strength * m.retainedNum ^ k * p.2 < _
    omega
  · show p.2 * m.retainedDen ^ k < _
    exact Nat.lt_of_lt_of_le (Nat.mul_lt_mul'' h2 hd) (by rw [← Nat.pow_add]; exact Nat.pow_le_pow_right (by decide) (by omega))
theorem sum_take1 {k : Nat} {ms : List Ks604.Lot} {i : Nat} {m : Ks604.Lot} (h : ms[i]? = some m) : sumLots k (ms.take (i + 1)) = addLot k (sumLots k (ms.take i)) m := by
  unfold sumLots
  rw [take_one h, List.foldl_append] <;> rfl
theorem sum_bound {k : Nat} {ms : List Ks604.Lot} (hk : k ≤ 40) (hm : ∀ m ∈ ms, okLot m = true) : ∀ i, i ≤ ms.length → (sumLots k (ms.take i)).1 < 2 ^ (1 + 220 * i) ∧ (sumLots k (ms.take i)).2 < 2 ^ (1 + 200 * i) ∧ (sumLots k (ms.take i)).2 ≠ 0
  | 0, _ => by
    rw [List.take_zero]
    exact ⟨(by show 0 < 2 ^ (1 + 220 * 0); decide), (by show 1 < 2 ^ (1 + 200 * 0); decide), (by show 1 ≠ 0; decide)⟩
  | i + 1, h => by
    obtain ⟨h1, h2, h3⟩ := sum_bound hk hm i (by omega)
    have hi : i < ms.length := by omega
    have e : ms[i]? = some (ms[i]'hi) := List.getElem?_eq_getElem hi
    rw [sum_take1 e]
    exact add_bound hk (hm _ (List.getElem_mem hi)) h1 h2 h3
theorem weight_bound {ms : List Ks604.Lot} (hm : ∀ m ∈ ms, okLot m = true) : weightOf ms ≤ 99 * ms.length := by
  induction ms with
  | nil => exact Nat.le_refl _
  | cons m r ih =>
    have h1 := (okLot_iff.mp (hm m (List.mem_cons_self ..))).1
    have h2 := ih fun x hx => hm x (List.mem_cons_of_mem _ hx)
    show m.weight + weightOf r ≤ 99 * (r.length + 1)
    omega
theorem nat_abs_lt {n b : Nat} (h : n < 2 ^ b) : ((n : Int)).natAbs < 2 ^ b := by
  rw [Int.natAbs_natCast]
  exact h
theorem up_to {n a b : Nat} (h : n < 2 ^ a) (hab : a ≤ b) : n < 2 ^ b := Nat.lt_of_lt_of_le h (Nat.pow_le_pow_right (by decide) hab)
theorem mean_bound {n : Nat} {ms : List Ks604.Lot} (hn : n ≤ 40) (hok : ∀ m ∈ ms, okLot m = true) (hlen : ms.length ≤ 6) : (sumLots n ms).1 < 2 ^ 2000 ∧ (sumLots n ms).2 < 2 ^ 2000 ∧ (sumLots n ms).2 ≠ 0 ∧ (meanOf n ms).2 < 2 ^ 2010 := by
  have hb := sum_bound hn hok ms.length (Nat.le_refl _)
  rw [List.take_length] at hb
  have c1 := up_to hb.1 (show 1 + 220 * ms.length ≤ 2000 by omega)
  have c2 := up_to hb.2.1 (show 1 + 200 * ms.length ≤ 2000 by omega)
  have hwb := weight_bound hok
  refine ⟨c1, c2, hb.2.2, ?_⟩
  show (sumLots n ms).2 * weightOf ms < _
  rw [show (2010 : Nat) = 2000 + 10 from rfl, Nat.pow_add]
  exact Nat.mul_lt_mul'' c2 (by omega)
theorem ne_zero_bool {z : Int} (h : z ≠ 0) : (!decide (V.int z = V.int 0)) = true := by
  rw [decide_eq_false fun e => h (by injection e)] <;> rfl
theorem chosen_len {mask : Nat} {fs : List Nat} (h : okLots fs = true) : (chosenF mask fs).length ≤ 6 := by
  have := ((okLots_iff fs).mp h).2
  have := part_len mask fs (fs.length / 4)
  show (part mask fs (fs.length / 4)).length ≤ 6
  omega
theorem ok_mean {f : Addr} {fd : FuncData} (F : Fun K "mean_in_month" "mean_in_month" sMean f fd) (T : Txt K mg C) (GP : Cal P w K mg base 1 "power" ["base", "exponent"] spPower) (GW : Cal P w K mg base 1 "total_weight" ["chosen"] (spTotal C)) :
    FnOk P w K mg base CX0 2 f fd ["chosen", "month"] (spMean C) := by
  refine F.ok scMean (fun vs H Q E h => ?_) (fun cdv A outer s H vs Q E hr h => ?_)
  · obtain ⟨l, as, ms, n, rfl, _⟩ := h
    rfl
  · obtain ⟨l, as, ms, n, rfl, hq, hA, hok, hlen, hn, k⟩ := h
    have hr1 : Room 1 _ := hr
    refine ⟨_, pss_cons (ps_set (i := 2) scMean.nd rfl (Or.inl rfl) pe_int)
      (pss_cons (ps_set (i := 3) scMean.nd rfl (Or.inl rfl) pe_int)
      (pss_cons (ps_for PassesOwn.never rfl (pi_list (pv 0)) (pg_name (i := 4) scMean.nd rfl (Or.inl rfl))
        (pss_cons (ps_set (i := 5) scMean.nd rfl (Or.inl rfl) (pe_def GP hr1 rfl (pa_cons (pe_fld (pv 4) rfl) (pa_cons (pv 1) pa_nil))))
        (pss_cons (ps_set (i := 6) scMean.nd rfl (Or.inl rfl) (pe_def GP hr1 rfl (pa_cons (pe_fld (pv 4) rfl) (pa_cons (pv 1) pa_nil))))
        (pss_cons (ps_set (i := 2) scMean.nd rfl (Or.inl rfl) (pe_op op_add (pe_op op_mulW (pv 2) (pv 5)) (pe_op op_mulW (pe_op op_mul (pe_op op_mul (pe_fld (pv 4) rfl) (pe_fld (pv 4) rfl)) (pv 6)) (pv 3))))
        (pss_one (ps_set (i := 3) scMean.nd rfl (Or.inl rfl) (pe_op op_mulW (pv 3) (pv 5))))))))
      (pss_one (ps_ret (pe_lst (pa_cons (pv 2) (pa_cons (pe_op op_mul (pv 3) (pe_def GW hr1 rfl (pa_cons (pv 0) pa_nil))) pa_nil))))))), ?_⟩
    refine ⟨_, rfl, l, rfl, ⟨_, SqL.of hq⟩, for_list (K := K) (a := l) (xs := as.map V.ref) (fun i σ H' => H' = H ∧ ∃ v4 v5 v6 : Option V, σ = [some (.ref l), some (.int (n : Int)), some (.int (((sumLots n (ms.take i)).1 : Nat) : Int)), some (.int (((sumLots n (ms.take i)).2 : Nat) : Int)), v4, v5, v6])
      ⟨rfl, none, none, none, rfl⟩ (fun i σ H' _ h => by rw [h.1]; exact SqL.of hq) ?_ ?_⟩
    · rintro i x σ H' hi ⟨rfl, v4, v5, v6, rfl⟩
      obtain ⟨a, m, rfl, hm, dx, hd⟩ := hA.item hi
      have mi : m ∈ ms := List.mem_of_getElem? hm
      obtain ⟨q1, q2, q3, q4, q5⟩ := okLot_iff.mp (hok m mi)
      have hil : i < ms.length := (List.getElem?_eq_some_iff.mp hm).1
      obtain ⟨b1, b2, b3⟩ := sum_bound hn hok i (by omega)
      have p1 := pow20 q5 hn
      have p2 := pow20 (Nat.le_trans q4 q5) hn
      have pw : m.weight * m.strength < 2 ^ 17 := Nat.lt_of_le_of_lt (Nat.mul_le_mul q1 q2) (by decide)
      have c1 := up_to b1 (show 1 + 220 * i ≤ 2000 by omega)
      have c2 := up_to b2 (show 1 + 200 * i ≤ 2000 by omega)
      have w1 : CMulW (((sumLots n (ms.take i)).1 : Nat) : Int) ((m.retainedDen ^ n : Nat) : Int) := wide_mul (a := 2000) (b := 200) (nat_abs_lt c1) (nat_abs_lt p1) (by decide) (by decide) (by decide)
      have w2 : CMulW ((m.weight * m.strength * m.retainedNum ^ n : Nat) : Int) (((sumLots n (ms.take i)).2 : Nat) : Int) := wide_mul (a := 217) (b := 2000) (nat_abs_lt (by rw [show (217 : Nat) = 17 + 200 from rfl, Nat.pow_add]; exact Nat.mul_lt_mul'' pw p2)) (nat_abs_lt c2) (by decide) (by decide) (by decide)
      have w3 : CMulW (((sumLots n (ms.take i)).2 : Nat) : Int) ((m.retainedDen ^ n : Nat) : Int) := wide_mul (a := 2000) (b := 200) (nat_abs_lt c2) (nat_abs_lt p1) (by decide) (by decide) (by decide)
      have z : (m.weight : Int) * (m.strength : Int) = ((m.weight * m.strength : Nat) : Int) := rfl
      refine ⟨_, rfl, a, C, dx, _, _, rfl, hd, T.cl, T.nD, lF_d m, _, rfl, m.retainedDen, n, rfl, by omega, by omega, ?_⟩
      refine ⟨_, rfl, a, C, dx, _, _, rfl, hd, T.cl, T.nN, lF_n m, _, rfl, m.retainedNum, n, rfl, by omega, by omega, ?_⟩
      refine ⟨_, rfl, _, rfl, _, _, rfl, rfl, w1, ?_⟩
      refine ⟨_, rfl, a, C, dx, _, _, rfl, hd, T.cl, T.nW, lF_w m, _, rfl, a, C, dx, _, _, rfl, hd, T.cl, T.nS, lF_s m, _, _, rfl, rfl, Or.inl ⟨by omega, by omega⟩, ?_⟩
      refine ⟨_, rfl, _, _, rfl, rfl, Or.inl ⟨by rw [z]; omega, by rw [z]; omega⟩, ?_⟩
      refine ⟨_, rfl, _, _, rfl, rfl, w2, _, _, rfl, rfl, ?_⟩
      refine ⟨_, rfl, _, rfl, _, _, rfl, rfl, w3, rfl, some (.ref a), some (.int ((m.retainedDen ^ n : Nat) : Int)), some (.int ((m.retainedNum ^ n : Nat) : Int)), ?_⟩
      rw [sum_take1 hm]
      rfl
    · rintro σ H' ⟨rfl, v4, v5, v6, rfl⟩
      rw [List.length_map, hA.len, List.take_length]
      have hwb := weight_bound hok
      refine ⟨_, rfl, _, rfl, _, rfl, l, as, ms, rfl, hq, hA, _, _, rfl, rfl, Or.inr ⟨by omega, by omega⟩, (by show 2 ≤ sizeLine; decide), fun p hp => ?_⟩
      exact k p hp
/-! ### greatest_common_divisor -/
abbrev sGcd : Stmt := top 24
def spGcd : Sp := fun vs H Q _ => ∃ (a b : Nat), vs = [.int (a : Int), .int (b : Int)] ∧ Q (.int ((Nat.gcd a b : Nat) : Int)) H
theorem scGcd : FnScope ["first", "second", "rest"] ["first", "second"] (defScope sGcd) := ⟨rfl, rfl, rfl, by decide +kernel, rfl, by decide +kernel, by decide +kernel⟩
def second (σ : L2.St) : Nat := match σ[1]? with
  | some (some (V.int y)) => y.toNat
  | _ => 0
theorem ok_gcd {f : Addr} {fd : FuncData} (F : Fun K "greatest_common_divisor" "greatest_common_divisor" sGcd f fd) : FnOk P w K mg base CX0 1 f fd ["first", "second"] spGcd := by
  refine F.ok scGcd (fun vs H Q E h => ?_) (fun cdv A outer s H vs Q E hr h => ?_)
  · obtain ⟨a, b, rfl, _⟩ := h
    rfl
  · obtain ⟨a, b, rfl, k⟩ := h
    refine ⟨_, pss_cons (ps_while PassesOwn.never (pt_cmpR op_ne (pv 1) pe_int (nomark _))
        (pss_cons (ps_set (i := 2) scGcd.nd rfl (Or.inl rfl) (pe_op op_mod (pv 0) (pv 1))) (pss_cons (ps_set (i := 0) scGcd.nd rfl (Or.inl rfl) (pv 1)) (pss_one (ps_set (i := 1) scGcd.nd rfl (Or.inl rfl) (pv 2))))))
      (pss_one (ps_ret (pv 0))), ?_⟩
    refine while_by (fun σ H' => H' = H ∧ ∃ (x y : Nat) (v : Option V), σ = [some (.int (x : Int)), some (.int (y : Int)), v] ∧ Nat.gcd x y = Nat.gcd a b) (fun σ _ => second σ) ⟨rfl, a, b, none, rfl, rfl⟩ ?_ ?_
    · rintro σ H' ⟨rfl, x, y, v, rfl, e⟩
      refine ⟨_, rfl, rfl, _, rfl, ?_⟩
      show if (!decide (V.int (y : Int) = V.int 0)) = true then _ else _
      by_cases c : y = 0
      · subst c
        refine ff_if rfl ?_
        rw [Nat.gcd_zero_right] at e
        refine ⟨_, rfl, ?_⟩
        rw [e]
        exact k
      · refine tt_if (by rw [decide_eq_false (fun z => c (by injection z with z; omega))] <;> rfl) ?_
        refine ⟨_, rfl, _, rfl, _, _, rfl, rfl, (by show (0 : Int) < (y : Int); omega), ?_⟩
        refine ⟨_, rfl, _, rfl, ⟨rfl, y, x % y, _, rfl, ?_⟩, ?_⟩
        · rw [← e, Nat.gcd_comm x y, Nat.gcd_rec y x, Nat.gcd_comm]
        · show (((x : Int) % (y : Int))).toNat < ((y : Int)).toNat
          have h1 := Nat.mod_lt x (Nat.pos_of_ne_zero c)
          rw [← Int.natCast_emod, Int.toNat_natCast, Int.toNat_natCast]
          exact h1
    · rintro σ H' Q' Q'' imp ⟨v, hv, hs, b, hb, q⟩
      exact ⟨v, hv, hs, b, hb, imp _ _ q⟩
/-! ### in_lowest_terms -/
abbrev sLowest : Stmt := top 23
def spLowest : Sp := fun vs H Q _ => ∃ (a b : Nat), vs = [.int (a : Int), .int (b : Int)] ∧ b ≠ 0 ∧ b < 2 ^ 8000 ∧ ∀ p, H p = none → Q (.ref p) (upd H p (.lst ((lowest a b).map V.int)))
theorem scLowest : FnScope ["top", "bottom", "divisor"] ["top", "bottom"] (defScope sLowest) := ⟨rfl, rfl, rfl, by decide +kernel, rfl, by decide +kernel, by decide +kernel⟩
theorem ok_lowest {f : Addr} {fd : FuncData} (F : Fun K "in_lowest_terms" "in_lowest_terms" sLowest f fd) (GG : Cal P w K mg base 1 "greatest_common_divisor" ["first", "second"] spGcd) : FnOk P w K mg base CX0 2 f fd ["top", "bottom"] spLowest := by
  refine F.ok scLowest (fun vs H Q E h => ?_) (fun cdv A outer s H vs Q E hr h => ?_)
  · obtain ⟨a, b, rfl, _⟩ := h
    rfl
  · obtain ⟨a, b, rfl, hb, hl, k⟩ := h
    have g0 : 0 < Nat.gcd a b := Nat.gcd_pos_of_pos_right a (Nat.pos_of_ne_zero hb)
    have g1 : Nat.gcd a b < 2 ^ 8000 := Nat.lt_of_le_of_lt (Nat.gcd_le_right a (Nat.pos_of_ne_zero hb)) hl
    have hw : CDivW (a : Int) ((Nat.gcd a b : Nat) : Int) := wide_div (b := 8000) (by omega) (by rw [Int.natAbs_natCast]; exact g1) (by decide) (by decide)
    have hw2 : CDivW (b : Int) ((Nat.gcd a b : Nat) : Int) := hw
    refine ⟨_, pss_cons (ps_set (i := 2) scLowest.nd rfl (Or.inl rfl) (pe_def GG hr rfl (pa_cons (pv 0) (pa_cons (pv 1) pa_nil))))
      (pss_one (ps_ret (pe_lst (pa_cons (pe_op op_fdivW (pv 0) (pv 2)) (pa_cons (pe_op op_fdivW (pv 1) (pv 2)) pa_nil))))), ?_⟩
    refine ⟨_, rfl, _, rfl, a, b, rfl, ?_⟩
    refine ⟨_, rfl, _, rfl, _, _, rfl, rfl, hw, _, rfl, _, rfl, _, _, rfl, rfl, hw2, (by show 2 ≤ sizeLine; decide), fun p hp => ?_⟩
    exact k p hp
/-! ### find_refusal -/
abbrev sRefusal : Stmt := top 12
/-- with a least number, too -/
def refusalL (mask number least most : Nat) (fs : List Nat) : Int := if okLots fs = true then if number < least then -22 else refusal mask number most fs else -22
theorem refusalL_0 (mask number most : Nat) (fs : List Nat) : refusalL mask number 0 most fs = refusal mask number most fs := by
  unfold refusalL
  by_cases h : okLots fs = true
  · rw [if_pos h, if_neg (Nat.not_lt_zero _)]
  · unfold refusal
    rw [if_neg h, if_neg h]
def spRefusal (K : PySem.W.Frag) : Sp := fun vs H Q _ => ∃ (mask number least most : Nat) (a : Addr) (fs : List Nat), vs = [.int (mask : Int), .int (number : Int), .int (least : Int), .int (most : Int), .ref a] ∧ SqL K H a (nV fs) ∧ fs.length ≤ 27 ∧
  ∀ (H' : Hp) (z : Int), Same H H' → refusalL mask number least most fs = z → Q (.int z) H'
theorem scRefusal : FnScope ["mask", "number", "least", "most", "lots"] ["mask", "number", "least", "most", "lots"] (defScope sRefusal) := ⟨rfl, rfl, rfl, by decide +kernel, rfl, by decide +kernel, by decide +kernel⟩
theorem ok_refusal {f : Addr} {fd : FuncData} (F : Fun K "find_refusal" "find_refusal" sRefusal f fd) (T : Txt K mg C) (GF : Cal P w K mg base 1 "is_within" ["least", "number", "most"] spWithin) (GA : Cal P w K mg base 4 "are_lots_within_limits" ["lots"] (spAre K)) (GU : Cal P w K mg base 2 "has_unknown_lot" ["mask", "lots"] (spUnk K))
    (GS : Cal P w K mg base 4 "chosen_lots" ["mask", "lots"] (spChosen K C)) (GW : Cal P w K mg base 1 "total_weight" ["chosen"] (spTotal C)) : FnOk P w K mg base CX0 5 f fd ["mask", "number", "least", "most", "lots"] (spRefusal K) := by
  refine F.ok scRefusal (fun vs H Q E h => ?_) (fun cdv A outer s H vs Q E hr h => ?_)
  · obtain ⟨mask, number, least, most, a, fs, rfl, _⟩ := h
    rfl
  · obtain ⟨mask, number, least, most, a, fs, rfl, hS, hlen, k⟩ := h
    refine ⟨_, pss_cons (ps_if (pt_not (pt_val (pe_def GA hr rfl (pa_cons (pv 4) pa_nil)))) (pss_one (ps_ret (pe_num rfl T.cOUTSIDE_LIMITS))) pss_nil)
      (pss_cons (ps_if (pt_not (pt_val (pe_def GF (hr.mono (by decide)) rfl (pa_cons (pv 2) (pa_cons (pv 1) (pa_cons (pv 3) pa_nil)))))) (pss_one (ps_ret (pe_num rfl T.cOUTSIDE_LIMITS))) pss_nil)
      (pss_cons (ps_if (pt_val (pe_def GU (hr.mono (by decide)) rfl (pa_cons (pv 0) (pa_cons (pv 4) pa_nil)))) (pss_one (ps_ret (pe_num rfl T.cOUTSIDE_LIMITS))) pss_nil)
      (pss_cons (ps_if (pt_cmpR op_eq (pe_def GW (hr.mono (by decide)) rfl (pa_cons (pe_def GS hr rfl (pa_cons (pv 0) (pa_cons (pv 4) pa_nil))) pa_nil)) pe_int (nomark _)) (pss_one (ps_ret (pe_num rfl T.cNO_WEIGHT))) pss_nil)
      (pss_one (ps_ret pe_int))))), ?_⟩
    unfold refusalL refusal at k
    refine ⟨_, rfl, a, fs, rfl, hS, hlen, fun H1 s1 => ⟨_, rfl, ?_⟩⟩
    by_cases c1 : okLots fs = true
    · rw [if_pos c1, if_pos c1] at k
      refine ff_if (by rw [c1] <;> rfl) ?_
      refine ⟨_, rfl, _, rfl, _, rfl, least, number, most, rfl, _, rfl, ?_⟩
      by_cases c0 : number < least
      · rw [if_pos c0] at k
        exact tt_if (not_true (by omega)) (k H1 _ s1 rfl)
      rw [if_neg c0] at k
      by_cases c2 : most < number
      · rw [if_pos c2] at k
        exact tt_if (not_true (by omega)) (k H1 _ s1 rfl)
      · rw [if_neg c2] at k
        refine ff_if (not_false' (by omega)) ?_
        refine ⟨_, rfl, _, rfl, mask, a, fs, rfl, s1.seq hS, _, rfl, ?_⟩
        by_cases c3 : mask / 2 ^ (fs.length / 4) ≠ 0
        · rw [if_pos c3] at k
          exact tt_if (decide_eq_true c3) (k H1 _ s1 rfl)
        · rw [if_neg c3] at k
          refine ff_if (decide_eq_false c3) ?_
          refine ⟨_, rfl, _, rfl, mask, a, fs, rfl, s1.seq hS, hlen, fun H2 l as s2 hl hq hA => ?_⟩
          refine ⟨l, as, _, rfl, hq, hA, rfl, _, rfl, ?_⟩
          by_cases c4 : weightOf (chosenF mask fs) = 0
          · rw [if_pos c4] at k
            refine tt_if ?_ (k H2 _ (s1.trans s2) rfl)
            rw [c4]
            rfl
          · rw [if_neg c4] at k
            refine ff_if (decide_eq_false fun z => c4 (by injection z with z; omega)) ?_
            exact k H2 _ (s1.trans s2) rfl
    · rw [if_neg c1] at k
      exact tt_if (by rw [Bool.eq_false_iff.mpr c1] <;> rfl) (k H1 _ s1 rfl)
/-! ### retention -/
abbrev sAns : Stmt := top 11
def spAns (K : PySem.W.Frag) : Sp := fun vs H Q _ => ∃ (mask month : Nat) (a : Addr) (fs : List Nat), vs = [.int (mask : Int), .int (month : Int), .ref a] ∧ SqL K H a (nV fs) ∧ fs.length ≤ 27 ∧
  ∀ (H' : Hp) (p : Addr), H' p = some (.lst ((retAns mask month fs).map V.int)) → Q (.ref p) H'
theorem scAns : FnScope ["mask", "month", "lots", "refusal", "chosen", "before", "after"] ["mask", "month", "lots"] (defScope sAns) := ⟨rfl, rfl, rfl, by decide +kernel, rfl, by decide +kernel, by decide +kernel⟩
theorem ret_cross {k : Nat} {ms : List Ks604.Lot} (h1 : (sumLots (k + 1) ms).2 ≠ 0) (h2 : (sumLots k ms).1 ≠ 0) (hw : weightOf ms ≠ 0) :
    lowest ((meanOf (k + 1) ms).1 * (meanOf k ms).2) ((meanOf (k + 1) ms).2 * (meanOf k ms).1) = retOf k ms := by
  unfold retOf meanOf
  refine lowest_cross (Nat.mul_ne_zero (Nat.mul_ne_zero h1 hw) h2) (Nat.mul_ne_zero h1 h2) ?_
  simp only [Nat.mul_assoc, Nat.mul_comm, Nat.mul_left_comm]
theorem ok_ans {f : Addr} {fd : FuncData} (F : Fun K "retention" "retention" sAns f fd) (T : Txt K mg C) (GR : Cal P w K mg base 5 "find_refusal" ["mask", "number", "least", "most", "lots"] (spRefusal K)) (GS : Cal P w K mg base 4 "chosen_lots" ["mask", "lots"] (spChosen K C))
    (GM : Cal P w K mg base 2 "mean_in_month" ["chosen", "month"] (spMean C)) (GT : Cal P w K mg base 2 "in_lowest_terms" ["top", "bottom"] spLowest) : FnOk P w K mg base CX0 6 f fd ["mask", "month", "lots"] (spAns K) := by
  refine F.ok scAns (fun vs H Q E h => ?_) (fun cdv A outer s H vs Q E hr h => ?_)
  · obtain ⟨mask, month, a, fs, rfl, _⟩ := h
    rfl
  · obtain ⟨mask, month, a, fs, rfl, hS, hlen, k⟩ := h
    refine ⟨_, pss_cons (ps_set (i := 3) scAns.nd rfl (Or.inl rfl) (pe_def GR hr rfl (pa_cons (pv 0) (pa_cons (pv 1) (pa_cons pe_int (pa_cons (pe_num rfl T.cLAST_MONTH_OF_RETENTION) (pa_cons (pv 2) pa_nil)))))))
      (pss_cons (ps_if (pt_cmpR op_ne (pv 3) pe_int (nomark _)) (pss_one (ps_ret (pe_lst (pa_cons (pv 3) pa_nil)))) pss_nil)
      (pss_cons (ps_set (i := 4) scAns.nd rfl (Or.inl rfl) (pe_def GS (hr.mono (by decide)) rfl (pa_cons (pv 0) (pa_cons (pv 2) pa_nil))))
      (pss_cons (ps_set (i := 5) scAns.nd rfl (Or.inl rfl) (pe_def GM (hr.mono (by decide)) rfl (pa_cons (pv 4) (pa_cons (pv 1) pa_nil))))
      (pss_cons (ps_if (pt_cmpR op_eq (pe_ix ix_list (pv 5) pe_int (fun _ _ => rfl)) pe_int (nomark _)) (pss_one (ps_ret (pe_lst (pa_cons (pe_num rfl T.cNO_STRENGTH) pa_nil)))) pss_nil)
      (pss_cons (ps_set (i := 6) scAns.nd rfl (Or.inl rfl) (pe_def GM (hr.mono (by decide)) rfl (pa_cons (pv 4) (pa_cons (pe_op op_add (pv 1) pe_int) pa_nil))))
      (pss_one (ps_ret (pe_op op_cat (pe_lst (pa_cons pe_int pa_nil)) (pe_def GT (hr.mono (by decide)) rfl
        (pa_cons (pe_op op_mulW (pe_ix ix_list (pv 6) pe_int (fun _ _ => rfl)) (pe_ix ix_list (pv 5) pe_int (fun _ _ => rfl)))
        (pa_cons (pe_op op_mulW (pe_ix ix_list (pv 6) pe_int (fun _ _ => rfl)) (pe_ix ix_list (pv 5) pe_int (fun _ _ => rfl))) pa_nil))))))))))), ?_⟩
    unfold retAns at k
    refine ⟨_, rfl, _, rfl, _, rfl, mask, month, 0, 39, a, fs, rfl, hS, hlen, fun H1 z1 s1 ez => ?_⟩
    subst ez
    rw [refusalL_0]
    refine ⟨_, rfl, rfl, _, rfl, ?_⟩
    by_cases c : refusal mask month 39 fs = 0
    · rw [if_pos c] at k
      obtain ⟨g1, g2, g3, g4⟩ := refusal_zero c
      refine ff_if ?_ ?_
      · show (!decide (V.int (refusal mask month 39 fs) = V.int 0)) = false
        rw [c]
        rfl
      refine ⟨_, rfl, _, rfl, mask, a, fs, rfl, s1.seq hS, hlen, fun H2 l as s3 hl hq hA => ?_⟩
      have ho := chosen_ok g1 (mask := mask)
      have hc := chosen_len g1 (mask := mask)
      have hb := mean_bound (show month ≤ 40 by omega) ho hc
      have hb1 := mean_bound (show month + 1 ≤ 40 by omega) ho hc
      generalize chosenF mask fs = ms at *
      refine ⟨_, rfl, _, rfl, l, as, ms, month, rfl, hq, hA, ho, hc, by omega, fun p1 hp1 => ?_⟩
      have n1 : l ≠ p1 := ne_of_none hq hp1
      have s4 : Same H2 (upd H2 p1 (.lst [.int (((meanOf month ms).1 : Nat) : Int), .int (((meanOf month ms).2 : Nat) : Int)])) := Same.put (Same.refl H2) hp1
      have h1 : (upd H2 p1 (.lst [.int (((meanOf month ms).1 : Nat) : Int), .int (((meanOf month ms).2 : Nat) : Int)])) p1 = some (.lst [.int (((meanOf month ms).1 : Nat) : Int), .int (((meanOf month ms).2 : Nat) : Int)]) := upd_same
      generalize upd H2 p1 (.lst [.int (((meanOf month ms).1 : Nat) : Int), .int (((meanOf month ms).2 : Nat) : Int)]) = H3 at *
      refine ⟨_, rfl, p1, _, _, _, rfl, rfl, SqL.of h1, at_of (j := 0) rfl rfl, rfl, _, rfl, ?_⟩
      by_cases c2 : (sumLots month ms).1 = 0
      · rw [if_pos c2] at k
        refine tt_if ?_ ⟨(by show 1 ≤ sizeLine; decide), fun p hp => k _ p upd_same⟩
        show decide (V.int (((sumLots month ms).1 : Nat) : Int) = V.int 0) = true
        rw [c2]
        rfl
      · rw [if_neg c2] at k
        refine ff_if (decide_eq_false fun z => c2 (by injection z with z; exact Int.ofNat.inj z)) ?_
        have z1 : (meanOf month ms).1 < 2 ^ 2000 := hb.1
        have z2 : (meanOf (month + 1) ms).1 < 2 ^ 2000 := hb1.1
        refine ⟨_, rfl, _, rfl, _, _, rfl, rfl, l, as, ms, month + 1, rfl, s4 _ _ hq, hA.keep s4, ho, hc, by omega, fun p2 hp2 => ?_⟩
        have s5 : Same H3 (upd H3 p2 (.lst [.int (((meanOf (month + 1) ms).1 : Nat) : Int), .int (((meanOf (month + 1) ms).2 : Nat) : Int)])) := Same.put (Same.refl H3) hp2
        have h2 : (upd H3 p2 (.lst [.int (((meanOf (month + 1) ms).1 : Nat) : Int), .int (((meanOf (month + 1) ms).2 : Nat) : Int)])) p2 = some (.lst [.int (((meanOf (month + 1) ms).1 : Nat) : Int), .int (((meanOf (month + 1) ms).2 : Nat) : Int)]) := upd_same
        generalize upd H3 p2 (.lst [.int (((meanOf (month + 1) ms).1 : Nat) : Int), .int (((meanOf (month + 1) ms).2 : Nat) : Int)]) = H4 at *
        refine ⟨(by show 1 ≤ sizeLine; decide), fun p0 hp0 => ?_⟩
        have s6 : Same H4 (upd H4 p0 (.lst [.int 0])) := Same.put (Same.refl H4) hp0
        have h2' := s6 _ _ h2
        have h1' := s6 _ _ (s5 _ _ h1)
        have h0' : (upd H4 p0 (.lst [.int 0])) p0 = some (.lst [.int 0]) := upd_same
        generalize upd H4 p0 (.lst [.int 0]) = H5 at *
        have w1 : CMulW (((meanOf (month + 1) ms).1 : Nat) : Int) (((meanOf month ms).2 : Nat) : Int) := wide_mul (a := 2000) (b := 2010) (nat_abs_lt z2) (nat_abs_lt hb.2.2.2) (by decide) (by decide) (by decide)
        have w2 : CMulW (((meanOf (month + 1) ms).2 : Nat) : Int) (((meanOf month ms).1 : Nat) : Int) := wide_mul (a := 2010) (b := 2000) (nat_abs_lt hb1.2.2.2) (nat_abs_lt z1) (by decide) (by decide) (by decide)
        refine ⟨_, rfl, p2, _, _, _, rfl, rfl, SqL.of h2', at_of (j := 0) rfl rfl, _, rfl, p1, _, _, _, rfl, rfl, SqL.of h1', at_of (j := 1) rfl rfl, _, _, rfl, rfl, w1, ?_⟩
        refine ⟨_, rfl, p2, _, _, _, rfl, rfl, SqL.of h2', at_of (j := 1) rfl rfl, _, rfl, p1, _, _, _, rfl, rfl, SqL.of h1', at_of (j := 0) rfl rfl, _, _, rfl, rfl, w2, ?_⟩
        refine ⟨(meanOf (month + 1) ms).1 * (meanOf month ms).2, (meanOf (month + 1) ms).2 * (meanOf month ms).1, rfl, Nat.mul_ne_zero (Nat.mul_ne_zero hb1.2.2.1 g4) c2, ?_, fun p3 hp3 => ?_⟩
        · refine up_to (a := 2010 + 2000) ?_ (by decide)
          rw [Nat.pow_add]
          exact Nat.mul_lt_mul'' hb1.2.2.2 z1
        rw [ret_cross hb1.2.2.1 c2 g4]
        refine ⟨p0, p3, _, _, rfl, rfl, by rw [upd_ne (ne_of_none h0' hp3)]; exact h0', upd_same, (by show 3 ≤ sizeLine; decide), fun p4 hp4 => ?_⟩
        exact k _ p4 upd_same
    · rw [if_neg c] at k
      refine tt_if (ne_zero_bool c) ?_
      refine ⟨_, rfl, (by show 1 ≤ sizeLine; decide), fun p hp => ?_⟩
      exact k _ p upd_same
end
theorem all_mk {P : Program} {w : World} {K : PySem.W.Frag} {h : Heap} {mg : Str → Option Value} {fa C f0 f1 f2 f3 f4 f5 f6 f7 f8 f9 f10 f11 f12 f13 f14 : Addr} (X : K.In h) (G : h.Ns mainGlobals mg) (hfa : mg "retention" = some (.ref fa))
    {od0 an0 od1 an1 od2 an2 od3 an3 od4 an4 od5 an5 od6 an6 od7 an7 od8 an8 od9 an9 od10 an10 od11 an11 od12 an12 od13 an13 od14 an14 : Option Addr} {sl0 sl1 sl2 sl3 sl4 sl5 sl6 sl7 sl8 sl9 sl10 sl11 sl12 sl13 sl14 : Array (Option Value)} {oc0 kV0 dc0 pm0 cd0 ct0 oc1 kV1 dc1 pm1 cd1 ct1 oc2 kV2 dc2 pm2 cd2 ct2 oc3 kV3 dc3 pm3 cd3 ct3 oc4 kV4 dc4 pm4 cd4 ct4 oc5 kV5 dc5 pm5 cd5 ct5 oc6 kV6 dc6 pm6 cd6 ct6 oc7 kV7 dc7 pm7 cd7 ct7 oc8 kV8 dc8 pm8 cd8 ct8 oc9 kV9 dc9 pm9 cd9 ct9 oc10 kV10 dc10 pm10 cd10 ct10 oc11 kV11 dc11 pm11 cd11 ct11 oc12 kV12 dc12 pm12 cd12 ct12 oc13 kV13 dc13 pm13 cd13 ct13 oc14 kV14 dc14 pm14 cd14 ct14 : Value} {tOUTSIDE_LIMITS tNO_WEIGHT tNO_STRENGTH tNUMBERS_PER_LOT tMOST_LOTS tMOST_WEIGHT tMOST_STRENGTH tMOST_DEN tLAST_MONTH_OF_RETENTION : Tok}
    (aC : PySem.W.nsIn K mainGlobals "Lot" = some (some (.ref C)))
    (a0 : PySem.W.findIn K (.ref C) "__init__" = some (some (.ref f0))) (i0 : PySem.W.isFn K (.ref f0) = true)
    (l0 : K.lookup f0 = some ⟨oc0, od0, .func (PySem.W.fnOf "__init__" "Lot.__init__" (defArgs sInit) (defBody sInit) (defScope sInit) .none kV0 dc0 pm0 an0 cd0 ct0), sl0⟩) (c0 : PySem.W.codeIn K cd0 "Lot.__init__" = true) (k0 : PySem.W.keepIn K (.ref f0) = true)
    (a1 : PySem.W.nsIn K mainGlobals "retention" = some (some (.ref f1)))
    (l1 : K.lookup f1 = some ⟨oc1, od1, .func (PySem.W.fnOf "retention" "retention" (defArgs sAns) (defBody sAns) (defScope sAns) .none kV1 dc1 pm1 an1 cd1 ct1), sl1⟩) (c1 : PySem.W.codeIn K cd1 "retention" = true) (k1 : PySem.W.keepIn K (.ref f1) = true)
    (a2 : PySem.W.nsIn K mainGlobals "find_refusal" = some (some (.ref f2)))
    (l2 : K.lookup f2 = some ⟨oc2, od2, .func (PySem.W.fnOf "find_refusal" "find_refusal" (defArgs sRefusal) (defBody sRefusal) (defScope sRefusal) .none kV2 dc2 pm2 an2 cd2 ct2), sl2⟩) (c2 : PySem.W.codeIn K cd2 "find_refusal" = true) (k2 : PySem.W.keepIn K (.ref f2) = true)
    (a3 : PySem.W.nsIn K mainGlobals "are_lots_within_limits" = some (some (.ref f3)))
    (l3 : K.lookup f3 = some ⟨oc3, od3, .func (PySem.W.fnOf "are_lots_within_limits" "are_lots_within_limits" (defArgs sAre) (defBody sAre) (defScope sAre) .none kV3 dc3 pm3 an3 cd3 ct3), sl3⟩) (c3 : PySem.W.codeIn K cd3 "are_lots_within_limits" = true) (k3 : PySem.W.keepIn K (.ref f3) = true)
    (a4 : PySem.W.nsIn K mainGlobals "is_lot_within_limits" = some (some (.ref f4)))
    (l4 : K.lookup f4 = some ⟨oc4, od4, .func (PySem.W.fnOf "is_lot_within_limits" "is_lot_within_limits" (defArgs sIs) (defBody sIs) (defScope sIs) .none kV4 dc4 pm4 an4 cd4 ct4), sl4⟩) (c4 : PySem.W.codeIn K cd4 "is_lot_within_limits" = true) (k4 : PySem.W.keepIn K (.ref f4) = true)
    (a5 : PySem.W.nsIn K mainGlobals "is_within" = some (some (.ref f5)))
    (l5 : K.lookup f5 = some ⟨oc5, od5, .func (PySem.W.fnOf "is_within" "is_within" (defArgs sWithin) (defBody sWithin) (defScope sWithin) .none kV5 dc5 pm5 an5 cd5 ct5), sl5⟩) (c5 : PySem.W.codeIn K cd5 "is_within" = true) (k5 : PySem.W.keepIn K (.ref f5) = true)
    (a6 : PySem.W.nsIn K mainGlobals "has_unknown_lot" = some (some (.ref f6)))
    (l6 : K.lookup f6 = some ⟨oc6, od6, .func (PySem.W.fnOf "has_unknown_lot" "has_unknown_lot" (defArgs sUnk) (defBody sUnk) (defScope sUnk) .none kV6 dc6 pm6 an6 cd6 ct6), sl6⟩) (c6 : PySem.W.codeIn K cd6 "has_unknown_lot" = true) (k6 : PySem.W.keepIn K (.ref f6) = true)
    (a7 : PySem.W.nsIn K mainGlobals "count_lots" = some (some (.ref f7)))
    (l7 : K.lookup f7 = some ⟨oc7, od7, .func (PySem.W.fnOf "count_lots" "count_lots" (defArgs sCount) (defBody sCount) (defScope sCount) .none kV7 dc7 pm7 an7 cd7 ct7), sl7⟩) (c7 : PySem.W.codeIn K cd7 "count_lots" = true) (k7 : PySem.W.keepIn K (.ref f7) = true)
    (a8 : PySem.W.nsIn K mainGlobals "lot_at" = some (some (.ref f8)))
    (l8 : K.lookup f8 = some ⟨oc8, od8, .func (PySem.W.fnOf "lot_at" "lot_at" (defArgs sLotAt) (defBody sLotAt) (defScope sLotAt) .none kV8 dc8 pm8 an8 cd8 ct8), sl8⟩) (c8 : PySem.W.codeIn K cd8 "lot_at" = true) (k8 : PySem.W.keepIn K (.ref f8) = true)
    (a9 : PySem.W.nsIn K mainGlobals "chosen_lots" = some (some (.ref f9)))
    (l9 : K.lookup f9 = some ⟨oc9, od9, .func (PySem.W.fnOf "chosen_lots" "chosen_lots" (defArgs sChosen) (defBody sChosen) (defScope sChosen) .none kV9 dc9 pm9 an9 cd9 ct9), sl9⟩) (c9 : PySem.W.codeIn K cd9 "chosen_lots" = true) (k9 : PySem.W.keepIn K (.ref f9) = true)
    (a10 : PySem.W.nsIn K mainGlobals "total_weight" = some (some (.ref f10)))
    (l10 : K.lookup f10 = some ⟨oc10, od10, .func (PySem.W.fnOf "total_weight" "total_weight" (defArgs sTotal) (defBody sTotal) (defScope sTotal) .none kV10 dc10 pm10 an10 cd10 ct10), sl10⟩) (c10 : PySem.W.codeIn K cd10 "total_weight" = true) (k10 : PySem.W.keepIn K (.ref f10) = true)
    (a11 : PySem.W.nsIn K mainGlobals "mean_in_month" = some (some (.ref f11)))
    (l11 : K.lookup f11 = some ⟨oc11, od11, .func (PySem.W.fnOf "mean_in_month" "mean_in_month" (defArgs sMean) (defBody sMean) (defScope sMean) .none kV11 dc11 pm11 an11 cd11 ct11), sl11⟩) (c11 : PySem.W.codeIn K cd11 "mean_in_month" = true) (k11 : PySem.W.keepIn K (.ref f11) = true)
    (a12 : PySem.W.nsIn K mainGlobals "power" = some (some (.ref f12)))
    (l12 : K.lookup f12 = some ⟨oc12, od12, .func (PySem.W.fnOf "power" "power" (defArgs sPower) (defBody sPower) (defScope sPower) .none kV12 dc12 pm12 an12 cd12 ct12), sl12⟩) (c12 : PySem.W.codeIn K cd12 "power" = true) (k12 : PySem.W.keepIn K (.ref f12) = true)
    (a13 : PySem.W.nsIn K mainGlobals "in_lowest_terms" = some (some (.ref f13)))
    (l13 : K.lookup f13 = some ⟨oc13, od13, .func (PySem.W.fnOf "in_lowest_terms" "in_lowest_terms" (defArgs sLowest) (defBody sLowest) (defScope sLowest) .none kV13 dc13 pm13 an13 cd13 ct13), sl13⟩) (c13 : PySem.W.codeIn K cd13 "in_lowest_terms" = true) (k13 : PySem.W.keepIn K (.ref f13) = true)
    (a14 : PySem.W.nsIn K mainGlobals "greatest_common_divisor" = some (some (.ref f14)))
    (l14 : K.lookup f14 = some ⟨oc14, od14, .func (PySem.W.fnOf "greatest_common_divisor" "greatest_common_divisor" (defArgs sGcd) (defBody sGcd) (defScope sGcd) .none kV14 dc14 pm14 an14 cd14 ct14), sl14⟩) (c14 : PySem.W.codeIn K cd14 "greatest_common_divisor" = true) (k14 : PySem.W.keepIn K (.ref f14) = true)
    (pg : PySem.W.plainGet K C Str.empty = true) (hd : PySem.W.hasDictIn K C = true) (po : PySem.W.plainOver K C = true) (sa : PySem.W.findIn K (.ref C) "__setattr__" = some (some (.builtin "object.__setattr__"))) (mk : PySem.W.makesIn K C = true) (kc : PySem.W.keepIn K (.ref C) = true)
    (nW : PySem.W.findIn K (.ref C) "weight" = some none) (nS : PySem.W.findIn K (.ref C) "strength" = some none) (nN : PySem.W.findIn K (.ref C) "num" = some none) (nD : PySem.W.findIn K (.ref C) "den" = some none)
    (gOUTSIDE_LIMITS : PySem.W.nsIn K mainGlobals "OUTSIDE_LIMITS" = some (some (.int (-22) tOUTSIDE_LIMITS)))
    (gNO_WEIGHT : PySem.W.nsIn K mainGlobals "NO_WEIGHT" = some (some (.int (-6) tNO_WEIGHT)))
    (gNO_STRENGTH : PySem.W.nsIn K mainGlobals "NO_STRENGTH" = some (some (.int (-33) tNO_STRENGTH)))
    (gNUMBERS_PER_LOT : PySem.W.nsIn K mainGlobals "NUMBERS_PER_LOT" = some (some (.int 4 tNUMBERS_PER_LOT)))
    (gMOST_LOTS : PySem.W.nsIn K mainGlobals "MOST_LOTS" = some (some (.int 6 tMOST_LOTS)))
    (gMOST_WEIGHT : PySem.W.nsIn K mainGlobals "MOST_WEIGHT" = some (some (.int 99 tMOST_WEIGHT)))
    (gMOST_STRENGTH : PySem.W.nsIn K mainGlobals "MOST_STRENGTH" = some (some (.int 999 tMOST_STRENGTH)))
    (gMOST_DEN : PySem.W.nsIn K mainGlobals "MOST_DEN" = some (some (.int 20 tMOST_DEN)))
    (gLAST_MONTH_OF_RETENTION : PySem.W.nsIn K mainGlobals "LAST_MONTH_OF_RETENTION" = some (some (.int 39 tLAST_MONTH_OF_RETENTION)))
    (zlen : PySem.W.nsIn K mainGlobals "len" = some none)
    (zrange : PySem.W.nsIn K mainGlobals "range" = some none) :
    ∃ fd : FuncData, (∀ (s : Shared) (us : List Value), us.length = (["mask", "month", "lots"] : List Str).length → BindsTo s fd ⟨us, []⟩ ((["mask", "month", "lots"] : List Str).zip us)) ∧ ∀ base : Heap, K.In base → base.Ns mainGlobals mg → FnOk P w K mg base CX0 6 fa fd ["mask", "month", "lots"] (spAns K) := by
  have e := hfa.symm.trans (PySem.W.mg_of X G a1)
  cases e
  have T : Txt K mg C := ⟨⟨pg, hd, po, sa⟩, nW, nS, nN, nD, PySem.W.mg_of X G aC, ⟨_, PySem.W.mg_of X G gOUTSIDE_LIMITS⟩, ⟨_, PySem.W.mg_of X G gNO_WEIGHT⟩, ⟨_, PySem.W.mg_of X G gNO_STRENGTH⟩, ⟨_, PySem.W.mg_of X G gNUMBERS_PER_LOT⟩, ⟨_, PySem.W.mg_of X G gMOST_LOTS⟩, ⟨_, PySem.W.mg_of X G gMOST_WEIGHT⟩, ⟨_, PySem.W.mg_of X G gMOST_STRENGTH⟩, ⟨_, PySem.W.mg_of X G gMOST_DEN⟩, ⟨_, PySem.W.mg_of X G gLAST_MONTH_OF_RETENTION⟩, PySem.W.mg_none_of X G zlen, PySem.W.mg_none_of X G zrange⟩
  have MM : Mk K C f0 := ⟨mk, a0, i0, kc⟩
  have F0 := fun_mk (st := sInit) l0 c0 k0
  have B0 := F0.binds (ps := ["self", "weight", "strength", "num", "den"]) fun _ _ _ _ _ _ us hl => match us, hl with | [_, _, _, _, _], _ => rfl
  have F1 := fun_mk (st := sAns) l1 c1 k1
  have B1 := F1.binds (ps := ["mask", "month", "lots"]) fun _ _ _ _ _ _ us hl => match us, hl with | [_, _, _], _ => rfl
  have F2 := fun_mk (st := sRefusal) l2 c2 k2
  have B2 := F2.binds (ps := ["mask", "number", "least", "most", "lots"]) fun _ _ _ _ _ _ us hl => match us, hl with | [_, _, _, _, _], _ => rfl
  have F3 := fun_mk (st := sAre) l3 c3 k3
  have B3 := F3.binds (ps := ["lots"]) fun _ _ _ _ _ _ us hl => match us, hl with | [_], _ => rfl
  have F4 := fun_mk (st := sIs) l4 c4 k4
  have B4 := F4.binds (ps := ["lot"]) fun _ _ _ _ _ _ us hl => match us, hl with | [_], _ => rfl
  have F5 := fun_mk (st := sWithin) l5 c5 k5
  have B5 := F5.binds (ps := ["least", "number", "most"]) fun _ _ _ _ _ _ us hl => match us, hl with | [_, _, _], _ => rfl
  have F6 := fun_mk (st := sUnk) l6 c6 k6
  have B6 := F6.binds (ps := ["mask", "lots"]) fun _ _ _ _ _ _ us hl => match us, hl with | [_, _], _ => rfl
  have F7 := fun_mk (st := sCount) l7 c7 k7
  have B7 := F7.binds (ps := ["lots"]) fun _ _ _ _ _ _ us hl => match us, hl with | [_], _ => rfl
  have F8 := fun_mk (st := sLotAt) l8 c8 k8
  have B8 := F8.binds (ps := ["place", "lots"]) fun _ _ _ _ _ _ us hl => match us, hl with | [_, _], _ => rfl
  have F9 := fun_mk (st := sChosen) l9 c9 k9
  have B9 := F9.binds (ps := ["mask", "lots"]) fun _ _ _ _ _ _ us hl => match us, hl with | [_, _], _ => rfl
  have F10 := fun_mk (st := sTotal) l10 c10 k10
  have B10 := F10.binds (ps := ["chosen"]) fun _ _ _ _ _ _ us hl => match us, hl with | [_], _ => rfl
  have F11 := fun_mk (st := sMean) l11 c11 k11
  have B11 := F11.binds (ps := ["chosen", "month"]) fun _ _ _ _ _ _ us hl => match us, hl with | [_, _], _ => rfl
  have F12 := fun_mk (st := sPower) l12 c12 k12
  have B12 := F12.binds (ps := ["base", "exponent"]) fun _ _ _ _ _ _ us hl => match us, hl with | [_, _], _ => rfl
  have F13 := fun_mk (st := sLowest) l13 c13 k13
  have B13 := F13.binds (ps := ["top", "bottom"]) fun _ _ _ _ _ _ us hl => match us, hl with | [_, _], _ => rfl
  have F14 := fun_mk (st := sGcd) l14 c14 k14
  have B14 := F14.binds (ps := ["first", "second"]) fun _ _ _ _ _ _ us hl => match us, hl with | [_, _], _ => rfl
  refine ⟨PySem.W.fnOf "retention" "retention" (defArgs sAns) (defBody sAns) (defScope sAns) .none kV1 dc1 pm1 an1 cd1 ct1, fun s us hu => match us, hu with | [_, _, _], _ => .of_eq rfl, fun base _ _ => ?_⟩
  have G5 : Cal P w K mg base 1 "is_within" ["least", "number", "most"] spWithin := Cal.of F5 (PySem.W.mg_of X G a5) B5 (ok_within F5)
  have G4 : Cal P w K mg base 2 "is_lot_within_limits" ["lot"] (spIs C) := Cal.of F4 (PySem.W.mg_of X G a4) B4 (ok_is F4 T G5)
  have G7 : Cal P w K mg base 1 "count_lots" ["lots"] (spCount K) := Cal.of F7 (PySem.W.mg_of X G a7) B7 (ok_count F7 T)
  have G6 : Cal P w K mg base 2 "has_unknown_lot" ["mask", "lots"] (spUnk K) := Cal.of F6 (PySem.W.mg_of X G a6) B6 (ok_unk F6 T G7)
  have G8 : Cal P w K mg base 3 "lot_at" ["place", "lots"] (spLotAt K C) := Cal.of F8 (PySem.W.mg_of X G a8) B8 (ok_lot_at F8 T MM F0 B0)
  have G3 : Cal P w K mg base 4 "are_lots_within_limits" ["lots"] (spAre K) := Cal.of F3 (PySem.W.mg_of X G a3) B3 (ok_are F3 T G7 G8 G4)
  have G9 : Cal P w K mg base 4 "chosen_lots" ["mask", "lots"] (spChosen K C) := Cal.of F9 (PySem.W.mg_of X G a9) B9 (ok_chosen F9 T G7 G8)
  have G10 : Cal P w K mg base 1 "total_weight" ["chosen"] (spTotal C) := Cal.of F10 (PySem.W.mg_of X G a10) B10 (ok_total F10 T)
  have G2 : Cal P w K mg base 5 "find_refusal" ["mask", "number", "least", "most", "lots"] (spRefusal K) := Cal.of F2 (PySem.W.mg_of X G a2) B2 (ok_refusal F2 T G5 G3 G6 G9 G10)
  have G12 : Cal P w K mg base 1 "power" ["base", "exponent"] spPower := Cal.of F12 (PySem.W.mg_of X G a12) B12 (ok_power F12 T)
  have G11 : Cal P w K mg base 2 "mean_in_month" ["chosen", "month"] (spMean C) := Cal.of F11 (PySem.W.mg_of X G a11) B11 (ok_mean F11 T G12 G10)
  have G14 : Cal P w K mg base 1 "greatest_common_divisor" ["first", "second"] spGcd := Cal.of F14 (PySem.W.mg_of X G a14) B14 (ok_gcd F14)
  have G13 : Cal P w K mg base 2 "in_lowest_terms" ["top", "bottom"] spLowest := Cal.of F13 (PySem.W.mg_of X G a13) B13 (ok_lowest F13 G14)
  exact (ok_ans F1 T G2 G9 G11 G13)
end Fl
open PySem PySem.W PyProof.Rows
set_option maxRecDepth 100000 in
set_option maxHeartbeats 8000000 in
theorem PySem.Challenge.cw_fadinglots_s04_retention_holds : PySem.Challenge.rw_fadinglots_s04_retention.Holds := by
  w_on; k_headS; (case hw => exact ⟨[.int 0, .int 0, .list []], by decide +kernel, by decide +kernel⟩)
  k_fillS
  refine L2.walk_specK (r := PySem.Challenge.rw_fadinglots_s04_retention) (k := 6) (CX := L2.CX0) (ps := ["mask", "month", "lots"]) (sp := Fl.spAns) (by decide +kernel) rfl rfl ⟨rfl, by decide, by decide⟩ (fun w h Y => PySem.W.kIn_of Y) ?F ?S (fun _ _ _ _ z => z)
  case F =>
    intro w mg fa h Y KX G hmg
    refine' Fl.all_mk KX G hmg ?aC ?a0 ?i0 ?l0 ?c0 ?k0 ?a1 ?l1 ?c1 ?k1 ?a2 ?l2 ?c2 ?k2 ?a3 ?l3 ?c3 ?k3 ?a4 ?l4 ?c4 ?k4 ?a5 ?l5 ?c5 ?k5 ?a6 ?l6 ?c6 ?k6 ?a7 ?l7 ?c7 ?k7 ?a8 ?l8 ?c8 ?k8 ?a9 ?l9 ?c9 ?k9 ?a10 ?l10 ?c10 ?k10 ?a11 ?l11 ?c11 ?k11 ?a12 ?l12 ?c12 ?k12 ?a13 ?l13 ?c13 ?k13 ?a14 ?l14 ?c14 ?k14 ?pg ?hd ?po ?sa ?mk ?kc ?nW ?nS ?nN ?nD ?gOUTSIDE_LIMITS ?gNO_WEIGHT ?gNO_STRENGTH ?gNUMBERS_PER_LOT ?gMOST_LOTS ?gMOST_WEIGHT ?gMOST_STRENGTH ?gMOST_DEN ?gLAST_MONTH_OF_RETENTION ?zlen ?zrange
    (case aC => k_is); (case a0 => k_is); (case i0 => k_is); (case l0 => k_is); (case c0 => k_is); (case k0 => k_is)
    (case a1 => k_is); (case l1 => k_is); (case c1 => k_is); (case k1 => k_is); (case a2 => k_is); (case l2 => k_is)
    (case c2 => k_is); (case k2 => k_is); (case a3 => k_is); (case l3 => k_is); (case c3 => k_is); (case k3 => k_is)
    (case a4 => k_is); (case l4 => k_is); (case c4 => k_is); (case k4 => k_is); (case a5 => k_is); (case l5 => k_is)
    (case c5 => k_is); (case k5 => k_is); (case a6 => k_is); (case l6 => k_is); (case c6 => k_is); (case k6 => k_is)
    (case a7 => k_is); (case l7 => k_is); (case c7 => k_is); (case k7 => k_is); (case a8 => k_is); (case l8 => k_is)
    (case c8 => k_is); (case k8 => k_is); (case a9 => k_is); (case l9 => k_is); (case c9 => k_is); (case k9 => k_is)
    (case a10 => k_is); (case l10 => k_is); (case c10 => k_is); (case k10 => k_is); (case a11 => k_is); (case l11 => k_is)
    (case c11 => k_is); (case k11 => k_is); (case a12 => k_is); (case l12 => k_is); (case c12 => k_is); (case k12 => k_is)
    (case a13 => k_is); (case l13 => k_is); (case c13 => k_is); (case k13 => k_is); (case a14 => k_is); (case l14 => k_is)
    (case c14 => k_is); (case k14 => k_is); (case pg => k_is); (case hd => k_is); (case po => k_is); (case sa => k_is)
    (case mk => k_is); (case kc => k_is); (case nW => k_is); (case nS => k_is); (case nN => k_is); (case nD => k_is)
    (case gOUTSIDE_LIMITS => k_is); (case gNO_WEIGHT => k_is); (case gNO_STRENGTH => k_is); (case gNUMBERS_PER_LOT => k_is); (case gMOST_LOTS => k_is); (case gMOST_WEIGHT => k_is)
    (case gMOST_STRENGTH => k_is); (case gMOST_DEN => k_is); (case gLAST_MONTH_OF_RETENTION => k_is); (case zlen => k_is); (case zrange => k_is)
  case S =>
    intro K H xs a hO hwi hask hx
    cases hx with
    | cons h1 h2 =>
      cases h2 with
      | cons h3 h4 =>
        cases h4 with
        | cons h5 h6 =>
          cases h6
          cases h1
          cases h3
          cases h5 with
          | @lst ad xs ds hs ha =>
            have e := L2.ints_dw a.2.2.1 _ ha
            subst e
            have q : (Codec.inInt 0 4294967295 a.1 && (Codec.inInt 0 4294967295 a.2.1 && ((Codec.inLen 0 27 a.2.2.1 && a.2.2.1.all (Codec.inInt 0 4294967295)) && true))) = true := hwi
            simp only [Bool.and_eq_true] at q
            obtain ⟨q1, q2, ⟨q3, q4⟩, _⟩ := q
            have n1 := (Codec.inInt_iff.mp q1).1
            have n2 := (Codec.inInt_iff.mp q2).1
            have n3 : ∀ x ∈ a.2.2.1, 0 ≤ x := fun x hx => (Codec.inInt_iff.mp (List.all_eq_true.mp q4 x hx)).1
            obtain ⟨x, e1⟩ := Int.eq_ofNat_of_zero_le n1
            obtain ⟨y, e2⟩ := Int.eq_ofNat_of_zero_le n2
            have e3 : Fl.cast (a.2.2.1.map Int.toNat) = a.2.2.1 := Fl.cast_of n3
            have hl : (a.2.2.1.map Int.toNat).length ≤ 27 := by rw [List.length_map]; exact (Codec.inNat_iff.mp q3).2
            generalize a.2.2.1.map Int.toNat = fs at e3 hl
            refine ⟨x, y, ad, fs, ?_, ?_, hl, fun H' p hp => ?_⟩
            · rw [e1, e2]
            · show L2.SqL K H ad ((Fl.cast fs).map L2.V.int)
              rw [e3]
              exact hs
            · have z := Fl.retention_is x y fs
              rw [e3] at z
              show L2.Dw K H' (.ref p) (WData.list ((_ : List Int).map WData.int))
              refine .lst (L2.SqL.of hp) ?_
              rw [← z, ← e1, ← e2]
              exact L2.dw_ints _
#print axioms PySem.Challenge.cw_fadinglots_s04_retention_holds
