import PyProof.Rows.All
import Wide.All
import OpenK.AllK
import Wide.FinOn
import Open.SpecLaws
import KE.OsGo
import HandS.ForSpec
import HandS.ForMost
import HandS.Zip
import HandS.Wide
import PySem.Challenge.RW_pairblend_s04_predict_combination
/-! Mathematics over the specification: rational numbers in lowest terms. -/
namespace Mx
open Ks604 (Rational)
open Ks604.Rational (make zero ofInt ofNat)

theorem make_pos {a : Int} {b : Nat} (hb : 0 < b) : make a b = ⟨a / (Nat.gcd a.natAbs b : Nat), b / Nat.gcd a.natAbs b⟩ := by
  unfold Ks604.Rational.make
  rw [if_neg (by omega)]
theorem gcd_pos {a : Int} {b : Nat} (hb : 0 < b) : 0 < Nat.gcd a.natAbs b := Nat.gcd_pos_of_pos_right _ hb
theorem make_den {a : Int} {b : Nat} (hb : 0 < b) : 0 < (make a b).den := by
  rw [make_pos hb]
  exact Nat.div_pos (Nat.le_of_dvd hb (Nat.gcd_dvd_right _ _)) (gcd_pos hb)
theorem make_cross {a : Int} {b : Nat} (hb : 0 < b) : (make a b).num * (b : Int) = a * ((make a b).den : Int) := by
  rw [make_pos hb]
  show a / (Nat.gcd a.natAbs b : Nat) * (b : Int) = a * ((b / Nat.gcd a.natAbs b : Nat) : Int)
  have hg : 0 < Nat.gcd a.natAbs b := gcd_pos hb
  obtain ⟨k, hk⟩ : ((Nat.gcd a.natAbs b : Nat) : Int) ∣ a := Int.dvd_natAbs.mp (Int.natCast_dvd_natCast.mpr (Nat.gcd_dvd_left _ _))
  obtain ⟨m, hm⟩ : Nat.gcd a.natAbs b ∣ b := Nat.gcd_dvd_right _ _
  generalize Nat.gcd a.natAbs b = g at hg hk hm
  have hg' : (g : Int) ≠ 0 := by omega
  have e1 : a / (g : Int) = k := by rw [hk]; exact Int.mul_ediv_cancel_left k hg'
  have e2 : b / g = m := by rw [hm]; exact Nat.mul_div_cancel_left m hg
  rw [e1, e2, hk, hm, Int.natCast_mul]
  grind
theorem make_scale {a : Int} {b k : Nat} (hb : 0 < b) (hk : 0 < k) : make (a * k) (b * k) = make a b := by
  rw [make_pos hb, make_pos (Nat.mul_pos hb hk)]
  have e : Nat.gcd (a * (k : Int)).natAbs (b * k) = Nat.gcd a.natAbs b * k := by
    rw [Int.natAbs_mul, Int.natAbs_natCast, Nat.gcd_mul_right]
  rw [e]
  have e1 : a * (k : Int) / ((Nat.gcd a.natAbs b * k : Nat) : Int) = a / (Nat.gcd a.natAbs b : Nat) := by
    rw [Int.natCast_mul]
    exact Int.mul_ediv_mul_of_pos_left _ _ (by omega)
  have e2 : b * k / (Nat.gcd a.natAbs b * k) = b / Nat.gcd a.natAbs b := Nat.mul_div_mul_right _ _ hk
  rw [e1, e2]
theorem make_eq {a c : Int} {b d : Nat} (hb : 0 < b) (hd : 0 < d) (h : a * d = c * b) : make a b = make c d := by
  rw [← make_scale (a := a) hb hd, ← make_scale (a := c) hd hb, h, Nat.mul_comm b d]
theorem add_def (p q : Rational) : p + q = make (p.num * q.den + q.num * p.den) (p.den * q.den) := rfl
theorem mul_def (p q : Rational) : p * q = make (p.num * q.num) (p.den * q.den) := rfl
theorem sub_def (p q : Rational) : p - q = p + (⟨-q.num, q.den⟩ : Rational) := rfl
theorem make_add {a c : Int} {b d : Nat} (hb : 0 < b) (hd : 0 < d) : make a b + make c d = make (a * d + c * b) (b * d) := by
  rw [add_def]
  have h1 := make_cross (a := a) hb
  have h2 := make_cross (a := c) hd
  have p1 := make_den (a := a) hb
  have p2 := make_den (a := c) hd
  refine make_eq (Nat.mul_pos p1 p2) (Nat.mul_pos hb hd) ?_
  rw [Int.natCast_mul, Int.natCast_mul]
  generalize (make a b).num = n1 at *
  generalize (make c d).num = n2 at *
  generalize (make a b).den = d1 at *
  generalize (make c d).den = d2 at *
  grind
theorem make_mul {a c : Int} {b d : Nat} (hb : 0 < b) (hd : 0 < d) : make a b * make c d = make (a * c) (b * d) := by
  rw [mul_def]
  have h1 := make_cross (a := a) hb
  have h2 := make_cross (a := c) hd
  have p1 := make_den (a := a) hb
  have p2 := make_den (a := c) hd
  refine make_eq (Nat.mul_pos p1 p2) (Nat.mul_pos hb hd) ?_
  rw [Int.natCast_mul, Int.natCast_mul]
  generalize (make a b).num = n1 at *
  generalize (make c d).num = n2 at *
  generalize (make a b).den = d1 at *
  generalize (make c d).den = d2 at *
  grind
theorem make_one (a : Int) : make a 1 = ofInt a := by
  rw [make_pos (by decide)]
  show (⟨a / ((Nat.gcd a.natAbs 1 : Nat) : Int), 1 / Nat.gcd a.natAbs 1⟩ : Rational) = ⟨a, 1⟩
  rw [Nat.gcd_one_right]
  simp
theorem make_zero {b : Nat} (hb : 0 < b) : make 0 b = zero := by
  rw [make_pos hb]
  show (⟨0 / ((Nat.gcd (0 : Int).natAbs b : Nat) : Int), b / Nat.gcd (0 : Int).natAbs b⟩ : Rational) = ⟨0, 1⟩
  simp [hb]
theorem ofInt_add (a b : Int) : ofInt a + ofInt b = ofInt (a + b) := by
  rw [← make_one, ← make_one, make_add (by decide) (by decide), ← make_one]
  simp
theorem ofInt_mul (a b : Int) : ofInt a * ofInt b = ofInt (a * b) := by
  rw [← make_one, ← make_one, make_mul (by decide) (by decide), ← make_one]
theorem ofInt_sub (a b : Int) : ofInt a - ofInt b = ofInt (a - b) := by
  rw [sub_def]
  show ofInt a + ofInt (-b) = _
  rw [ofInt_add]
  rfl
theorem make_add_same {a c : Int} {b : Nat} (hb : 0 < b) : make a b + make c b = make (a + c) b := by
  rw [make_add hb hb]
  refine make_eq (Nat.mul_pos hb hb) hb ?_
  rw [Int.natCast_mul]
  grind
theorem sum_make_go {b : Nat} (hb : 0 < b) {α : Type} (f : α → Int) : ∀ (l : List α) (a : Int),
    (l.map fun i => make (f i) b).foldl Ks604.Rational.add (make a b) = make (a + (l.map f).sum) b
  | [], a => by simp
  | x :: r, a => by
    rw [List.map_cons, List.foldl_cons]
    have e : Ks604.Rational.add (make a b) (make (f x) b) = make (a + f x) b := make_add_same hb
    rw [e, sum_make_go hb f r, List.map_cons, List.sum_cons, Int.add_assoc]
theorem sum_make {b : Nat} (hb : 0 < b) {α : Type} (f : α → Int) (l : List α) : Ks604.Rational.sum (l.map fun i => make (f i) b) = make ((l.map f).sum) b := by
  unfold Ks604.Rational.sum
  rw [← make_zero hb, sum_make_go hb f l 0, Int.zero_add]
end Mx
namespace Mx
open Ks604 (Rational)
open Ks604.Rational (make zero ofInt ofNat)
open Ks608 (allPairs pairIndex)

/-! ### The mirror -/
/-- every number lies between -/
def okAll (lo hi : Int) (l : List Int) : Bool := l.all fun z => decide (lo ≤ z) && decide (z ≤ hi)
def respOk (p b : List Int) : Bool := decide (1 ≤ p.length) && (decide (p.length ≤ 4) && (decide (b.length = (allPairs p.length).length) && (okAll (-999) 999 p && okAll (-999) 999 b)))
def mixOk (m : List Int) (n : Nat) : Bool := decide (m.length = n) && (okAll 0 99 m && decide (0 < m.sum))
/-- the interaction of each pair -/
def interOne (p : List Int) (q : (Nat × Nat) × Int) : Int := 4 * q.2 - 2 * (p.getD q.1.1 0 + p.getD q.1.2 0)
def inter (p b : List Int) : List Int := ((allPairs p.length).zip b).map (interOne p)
def psum (p m : List Int) : Int := ((m.zip p).map fun q => q.1 * q.2).sum
def qone (m : List Int) (q : (Nat × Nat) × Int) : Int := q.2 * m.getD q.1.1 0 * m.getD q.1.2 0
def qsum (p b m : List Int) : Int := (((allPairs p.length).zip (inter p b)).map (qone m)).sum
def numer (p b m : List Int) : Int := psum p m * m.sum + qsum p b m
/-- what is due of interactions -/
def interDue (p b : List Int) : List Int := ((inter p b).length : Int) :: (inter p b).flatMap fun i => [i, 1]

/-! ### Limits -/
theorem pairs1 : allPairs 1 = [] := by decide
theorem pairs2 : allPairs 2 = [(0, 1)] := by decide
theorem pairs3 : allPairs 3 = [(0, 1), (0, 2), (1, 2)] := by decide
theorem pairs4 : allPairs 4 = [(0, 1), (0, 2), (0, 3), (1, 2), (1, 3), (2, 3)] := by decide
theorem any_okAll (l : List Int) : (l.any fun x => decide (999 < x.natAbs)) = !okAll (-999) 999 l := by
  induction l with
  | nil => rfl
  | cons x r ih =>
    rw [List.any_cons, ih]
    show _ = !((decide (-999 ≤ x) && decide (x ≤ 999)) && okAll (-999) 999 r)
    rw [Bool.not_and]
    congr 1
    by_cases h : 999 < x.natAbs
    · have h2 : ¬ (-999 ≤ x ∧ x ≤ 999) := by omega
      simp only [h, decide_true]
      symm
      rw [Bool.not_eq_true', Bool.and_eq_false_iff, decide_eq_false_iff_not, decide_eq_false_iff_not]
      omega
    · have h1 : -999 ≤ x := by omega
      have h2 : x ≤ 999 := by omega
      simp [h, h1, h2]
theorem parse_is (p b : List Int) : Ks608.parseResponses p b = if respOk p b = true then some ⟨p, b⟩ else none := by
  unfold Ks608.parseResponses
  rw [List.any_append, any_okAll, any_okAll]
  have e : (p.length < 1 ∨ Ks608.maxComponents < p.length ∨ 2 * b.length ≠ p.length * (p.length - 1) ∨ ((!okAll (-999) 999 p || !okAll (-999) 999 b) = true)) ↔ ¬ respOk p b = true := by
    unfold respOk Ks608.maxComponents
    rw [← Bool.not_and]
    generalize (okAll (-999) 999 p && okAll (-999) 999 b) = o
    rw [Bool.and_eq_true, Bool.and_eq_true, Bool.and_eq_true, decide_eq_true_eq, decide_eq_true_eq, decide_eq_true_eq, Bool.not_eq_true']
    by_cases h1 : 1 ≤ p.length
    · by_cases h4 : p.length ≤ 4
      · have hl : 2 * b.length ≠ p.length * (p.length - 1) ↔ ¬ b.length = (allPairs p.length).length := by
          have h : p.length = 1 ∨ p.length = 2 ∨ p.length = 3 ∨ p.length = 4 := by omega
          rcases h with h | h | h | h <;> rw [h]
          · rw [pairs1]; simp only [List.length_nil]; omega
          · rw [pairs2]; simp only [List.length_nil, List.length_cons]; omega
          · rw [pairs3]; simp only [List.length_nil, List.length_cons]; omega
          · rw [pairs4]; simp only [List.length_nil, List.length_cons]; omega
        rw [hl]
        have n1 : ¬ p.length < 1 := by omega
        have n4 : ¬ 4 < p.length := by omega
        by_cases hb : b.length = (allPairs p.length).length
        · cases o <;> simp [n1, n4, h1, h4, hb]
        · cases o <;> simp [n1, n4, h1, h4, hb]
      · have n4 : 4 < p.length := by omega
        simp [h4, n4]
    · have n1 : p.length < 1 := by omega
      simp only [h1, n1, true_or, false_and, not_false_eq_true]
  by_cases h : respOk p b = true
  · rw [if_pos h, if_neg (fun z => (e.mp z) h)]
  · rw [if_neg h, if_pos (e.mpr h)]
theorem respOk_spec {p b : List Int} (h : respOk p b = true) : (p.length = 1 ∨ p.length = 2 ∨ p.length = 3 ∨ p.length = 4) ∧ b.length = (allPairs p.length).length ∧ okAll (-999) 999 p = true ∧ okAll (-999) 999 b = true := by
  unfold respOk at h
  rw [Bool.and_eq_true, Bool.and_eq_true, Bool.and_eq_true, Bool.and_eq_true, decide_eq_true_eq, decide_eq_true_eq, decide_eq_true_eq] at h
  exact ⟨by omega, h.2.2.1, h.2.2.2.1, h.2.2.2.2⟩

/-! ### Interactions -/
theorem interaction_is (p b : List Int) (i j : Nat) : Ks608.interaction ⟨p, b⟩ i j = ofInt (4 * b.getD (pairIndex p.length (min i j) (max i j)) 0 - 2 * (p.getD i 0 + p.getD j 0)) := by
  unfold Ks608.interaction Ks608.binaryResponse Ks608.pureResponse Ks608.componentCount
  rw [ofInt_add, ofInt_mul, ofInt_mul, ofInt_sub]
/-- an interaction as a number -/
def I (p b : List Int) (q : Nat × Nat) : Int := 4 * b.getD (pairIndex p.length (min q.1 q.2) (max q.1 q.2)) 0 - 2 * (p.getD q.1 0 + p.getD q.2 0)
theorem inter_is {p b : List Int} (h : respOk p b = true) : inter p b = (allPairs p.length).map (I p b) := by
  obtain ⟨h1, h2, _, _⟩ := respOk_spec h
  unfold inter
  rcases h1 with h1 | h1 | h1 | h1
  · rw [h1, pairs1]; rfl
  · rw [h1, pairs2] at h2
    match p, h1, b, h2 with
    | [_, _], _, [_], _ => rw [show ([_, _] : List Int).length = 2 from rfl, pairs2]; rfl
  · rw [h1, pairs3] at h2
    match p, h1, b, h2 with
    | [_, _, _], _, [_, _, _], _ => rw [show ([_, _, _] : List Int).length = 3 from rfl, pairs3]; rfl
  · rw [h1, pairs4] at h2
    match p, h1, b, h2 with
    | [_, _, _, _], _, [_, _, _, _, _, _], _ => rw [show ([_, _, _, _] : List Int).length = 4 from rfl, pairs4]; rfl
theorem pairs_ofInt : ∀ l : List Int, Ks604.pairs (l.map ofInt) = l.flatMap fun i => [i, 1]
  | [] => rfl
  | x :: r => by
    have ih := pairs_ofInt r
    unfold Ks604.pairs at ih ⊢
    rw [List.map_cons, List.flatMap_cons, List.flatMap_cons, ih]
    rfl
theorem due_interactions (p b : List Int) : PyKs608.interactions p b = if respOk p b = true then interDue p b else [-22] := by
  show Ks608Neutral.integers (Ks608.withResponses p b _) = _
  unfold Ks608.withResponses
  rw [parse_is]
  by_cases h : respOk p b = true
  · rw [if_pos h, if_pos h]
    show ((allPairs p.length).length : Int) :: Ks604.pairs ((allPairs p.length).map fun q => Ks608.interaction ⟨p, b⟩ q.1 q.2) = _
    unfold interDue
    rw [inter_is h, List.length_map, ← pairs_ofInt, List.map_map]
    congr 2
    refine List.map_congr_left fun q _ => ?_
    exact interaction_is p b q.1 q.2
  · rw [if_neg h, if_neg h]
    rfl
end Mx
namespace Mx
open Ks604 (Rational)
open Ks604.Rational (make zero ofInt ofNat)
open Ks608 (allPairs pairIndex)

/-! ### Mixtures -/
theorem toNat_getD (m : List Int) (h : ∀ z ∈ m, 0 ≤ z) (i : Nat) : (((m.map Int.toNat).getD i 0 : Nat) : Int) = m.getD i 0 := by
  rw [List.getD_eq_getElem?_getD, List.getD_eq_getElem?_getD, List.getElem?_map]
  cases e : m[i]? with
  | none => rfl
  | some z => exact Int.toNat_of_nonneg (h z (List.mem_of_getElem? e))
theorem toNat_sum : ∀ (m : List Int), (∀ z ∈ m, 0 ≤ z) → (((m.map Int.toNat).sum : Nat) : Int) = m.sum
  | [], _ => rfl
  | z :: r, h => by
    have h1 := toNat_sum r fun y hy => h y (List.mem_cons_of_mem _ hy)
    have h2 := h z List.mem_cons_self
    rw [List.map_cons, List.sum_cons, List.sum_cons]
    omega
theorem toNat_all : ∀ (m : List Int), (∀ z ∈ m, 0 ≤ z) → ((m.map Int.toNat).all fun v => decide (v ≤ 99)) = okAll 0 99 m
  | [], _ => rfl
  | z :: r, h => by
    have h1 := toNat_all r fun y hy => h y (List.mem_cons_of_mem _ hy)
    have h2 := h z List.mem_cons_self
    rw [List.map_cons, List.all_cons, h1]
    show _ = ((decide (0 ≤ z) && decide (z ≤ 99)) && okAll 0 99 r)
    congr 1
    rw [decide_eq_true h2, Bool.true_and]
    exact decide_eq_decide.mpr (by omega)
theorem valid_is {p b m : List Int} (h : ∀ z ∈ m, 0 ≤ z) : Ks608.isValidMixture ⟨p, b⟩ (m.map Int.toNat) = mixOk m p.length := by
  unfold Ks608.isValidMixture mixOk
  rw [toNat_all m h, List.length_map]
  show ((m.length == p.length) && _ && _) = _
  rw [Bool.and_assoc]
  congr 1
  congr 1
  exact decide_eq_decide.mpr (by have := toNat_sum m h; omega)
theorem fractions_at (x : List Nat) (hT : 0 < x.sum) (i : Nat) : (Ks608.fractions x).getD i zero = make ((x.getD i 0 : Nat) : Int) x.sum := by
  unfold Ks608.fractions
  rw [List.getD_eq_getElem?_getD, List.getElem?_map, List.getD_eq_getElem?_getD]
  cases e : x[i]? with
  | none => exact (make_zero hT).symm
  | some z => rfl
/-- the predicted response of fractions over one denominator -/
theorem predict_over {p b : List Int} {x : List Rational} {c : Nat → Int} {T : Nat} (hT : 0 < T) (hx : ∀ i, x.getD i zero = make (c i) T) :
    Ks608.predict ⟨p, b⟩ x = make (((List.range p.length).map fun i => c i * p.getD i 0).sum * T + ((allPairs p.length).map fun q => I p b q * (c q.1 * c q.2)).sum) (T * T) := by
  unfold Ks608.predict
  have e1 : ((List.range (Ks608.componentCount ⟨p, b⟩)).map fun i => x.getD i zero * Ks608.pureResponse ⟨p, b⟩ i) = (List.range p.length).map fun i => make (c i * p.getD i 0) T := by
    refine List.map_congr_left fun i _ => ?_
    show x.getD i zero * ofInt (p.getD i 0) = _
    rw [hx, ← make_one, make_mul hT (by decide), Nat.mul_one]
  have e2 : ((allPairs (Ks608.componentCount ⟨p, b⟩)).map fun q => Ks608.interaction ⟨p, b⟩ q.1 q.2 * (x.getD q.1 zero * x.getD q.2 zero)) = (allPairs p.length).map fun q => make (I p b q * (c q.1 * c q.2)) (T * T) := by
    refine List.map_congr_left fun q _ => ?_
    rw [interaction_is, hx, hx, ← make_one, make_mul hT hT, make_mul (by decide) (Nat.mul_pos hT hT), Nat.one_mul]
    rfl
  rw [e1, e2, sum_make hT, sum_make (Nat.mul_pos hT hT), ← make_scale (a := ((List.range p.length).map fun i => c i * p.getD i 0).sum) hT hT, make_add_same (Nat.mul_pos hT hT)]
theorem getD_at {l : List Int} {i : Nat} (h : i < l.length) : l.getD i 0 = l[i] := by
  rw [List.getD_eq_getElem?_getD, List.getElem?_eq_getElem h]
  rfl
theorem psum_is {p m : List Int} (h : m.length = p.length) : psum p m = ((List.range p.length).map fun i => m.getD i 0 * p.getD i 0).sum := by
  unfold psum
  congr 1
  refine List.ext_getElem (by simp [h]) fun i h1 h2 => ?_
  have hm : i < m.length := by simp at h1; omega
  have hp : i < p.length := by simp at h2; omega
  rw [List.getElem_map, List.getElem_map, List.getElem_zip, List.getElem_range, getD_at hm, getD_at hp]
theorem qsum_is {p b m : List Int} (h : respOk p b = true) : qsum p b m = ((allPairs p.length).map fun q => I p b q * (m.getD q.1 0 * m.getD q.2 0)).sum := by
  unfold qsum
  rw [inter_is h]
  generalize allPairs p.length = l
  congr 1
  refine List.ext_getElem (by simp) fun i h1 h2 => ?_
  rw [List.getElem_map, List.getElem_map, List.getElem_zip, List.getElem_map]
  unfold qone
  exact Int.mul_assoc _ _ _
theorem predict_is {p b m : List Int} (h : respOk p b = true) (hm : m.length = p.length) (h0 : ∀ z ∈ m, 0 ≤ z) (hs : 0 < m.sum) :
    Ks608.predict ⟨p, b⟩ (Ks608.fractions (m.map Int.toNat)) = make (numer p b m) (m.sum * m.sum).toNat := by
  have e := toNat_sum m h0
  have hT : 0 < (m.map Int.toNat).sum := by omega
  rw [predict_over hT (c := fun i => m.getD i 0) (fun i => by rw [fractions_at _ hT, toNat_getD m h0]), ← psum_is hm, ← qsum_is h, e]
  unfold numer
  congr 1
  have e2 : m.sum * m.sum = (((m.map Int.toNat).sum * (m.map Int.toNat).sum : Nat) : Int) := by rw [Int.natCast_mul, e]
  rw [e2]
  rfl
/-- what is due of predict -/
def predDue (p b m : List Int) : List Int := [0, (make (numer p b m) (m.sum * m.sum).toNat).num, ((make (numer p b m) (m.sum * m.sum).toNat).den : Int)]
theorem mixOk_spec {m : List Int} {n : Nat} (h : mixOk m n = true) : m.length = n ∧ okAll 0 99 m = true ∧ 0 < m.sum := by
  unfold mixOk at h
  rw [Bool.and_eq_true, Bool.and_eq_true, decide_eq_true_eq, decide_eq_true_eq] at h
  exact ⟨h.1, h.2.1, h.2.2⟩
theorem due_predict (p b m : List Int) (h0 : ∀ z ∈ m, 0 ≤ z) : PyKs608.predict p b m = if respOk p b = true then (if mixOk m p.length = true then predDue p b m else [-22]) else [-22] := by
  show Ks608Neutral.integers (Ks608.withResponses p b fun r => if Ks608.isValidMixture r (m.map Int.toNat) = false then Ks608.number (-22) else { value := 0, rest := Ks604.pairs [Ks608.predict r (Ks608.fractions (m.map Int.toNat))] }) = _
  unfold Ks608.withResponses
  rw [parse_is]
  by_cases h : respOk p b = true
  · rw [if_pos h, if_pos h]
    show Ks608Neutral.integers (if Ks608.isValidMixture ⟨p, b⟩ (m.map Int.toNat) = false then _ else _) = _
    rw [valid_is h0]
    by_cases hm : mixOk m p.length = true
    · rw [if_pos hm, if_neg (by rw [hm]; decide)]
      obtain ⟨h1, _, h3⟩ := mixOk_spec hm
      rw [predict_is h h1 h0 h3]
      rfl
    · rw [if_neg hm, if_pos (by simpa using hm)]
      rfl
  · rw [if_neg h, if_neg h]
    rfl

/-! ### Lowest terms by division with remainder -/
/-- what lowest_terms hands back -/
def low (n d : Int) : List Int := [n / (Nat.gcd n.natAbs d.toNat : Nat), d / (Nat.gcd n.natAbs d.toNat : Nat)]
theorem low_is {n d : Int} (h : 0 < d) : low n d = [(make n d.toNat).num, ((make n d.toNat).den : Int)] := by
  have hd : 0 < d.toNat := by omega
  rw [make_pos hd]
  unfold low
  show [_, _] = [_, ((d.toNat / Nat.gcd n.natAbs d.toNat : Nat) : Int)]
  rw [Int.natCast_ediv, Int.toNat_of_nonneg (by omega)]
end Mx
namespace Mx
open Ks604 (Rational)
open Ks604.Rational (make zero ofInt ofNat)
open Ks608 (allPairs pairIndex)

/-! ### Combinations of two mixtures -/
theorem getD_none {l : List Int} {i : Nat} (h : l.length ≤ i) : l.getD i 0 = 0 := by
  rw [List.getD_eq_getElem?_getD, List.getElem?_eq_none h]
  rfl
/-- a rational number that was made is made of itself -/
theorem make_self {a : Int} {b : Nat} (hb : 0 < b) : make (make a b).num (make a b).den = make a b :=
  make_eq (make_den hb) hb (make_cross hb)
theorem ofNat_make (n : Nat) : ofNat n = make (n : Int) 1 := (make_one (n : Int)).symm
/-- whole parts of the combination -/
def combAt (k m F S : Int) (q : Int × Int) : Int := k * q.1 * S + m * q.2 * F
def comb (k m : Int) (f s : List Int) : List Int := (f.zip s).map (combAt k m f.sum s.sum)
theorem comb_len {k m : Int} {f s : List Int} (h : f.length = s.length) : (comb k m f s).length = f.length := by
  unfold comb
  rw [List.length_map, List.length_zip, h, Nat.min_self]
theorem combAt_sum (k m F S : Int) : ∀ {f s : List Int}, f.length = s.length → ((f.zip s).map (combAt k m F S)).sum = k * f.sum * S + m * s.sum * F
  | [], [], _ => by simp
  | x :: f, y :: s, h => by
    have ih := combAt_sum k m F S (f := f) (s := s) (by simpa using h)
    rw [List.zip_cons_cons, List.map_cons, List.sum_cons, ih, List.sum_cons, List.sum_cons]
    unfold combAt
    grind
  | [], _ :: _, h => by simp at h
  | _ :: _, [], h => by simp at h
theorem comb_sum {k m : Int} {f s : List Int} (h : f.length = s.length) : (comb k m f s).sum = f.sum * s.sum * (k + m) := by
  unfold comb
  rw [combAt_sum _ _ _ _ h]
  grind
theorem comb_at {k m : Int} {f s : List Int} (h : f.length = s.length) {i : Nat} (hi : i < f.length) : (comb k m f s).getD i 0 = combAt k m f.sum s.sum (f.getD i 0, s.getD i 0) := by
  rw [getD_at (by rw [comb_len h]; exact hi), getD_at hi, getD_at (by omega : i < s.length)]
  unfold comb
  rw [List.getElem_map, List.getElem_zip]
theorem combine_at {k m : Int} {f s : List Int} (h : f.length = s.length) (f0 : ∀ z ∈ f, 0 ≤ z) (s0 : ∀ z ∈ s, 0 ≤ z) (hf : 0 < f.sum) (hs : 0 < s.sum) (hk : 0 < k) (hm : 0 < m) (i : Nat) :
    (Ks608.combine k.toNat m.toNat (Ks608.fractions (f.map Int.toNat)) (Ks608.fractions (s.map Int.toNat))).getD i zero = make ((comb k m f s).getD i 0) (comb k m f s).sum.toNat := by
  have ef := toNat_sum f f0
  have es := toNat_sum s s0
  have pT : 0 < (comb k m f s).sum := by
    rw [comb_sum h]
    exact Int.mul_pos (Int.mul_pos hf hs) (by omega)
  by_cases hi : i < f.length
  · have lf : i < (Ks608.fractions (f.map Int.toNat)).length := by unfold Ks608.fractions; rw [List.length_map, List.length_map]; exact hi
    have ls : i < (Ks608.fractions (s.map Int.toNat)).length := by unfold Ks608.fractions; rw [List.length_map, List.length_map]; omega
    have e1 : (Ks608.combine k.toNat m.toNat (Ks608.fractions (f.map Int.toNat)) (Ks608.fractions (s.map Int.toNat))).getD i zero =
        (ofNat k.toNat * (Ks608.fractions (f.map Int.toNat)).getD i zero + ofNat m.toNat * (Ks608.fractions (s.map Int.toNat)).getD i zero) * make 1 (k.toNat + m.toNat) := by
      unfold Ks608.combine
      rw [List.getD_eq_getElem?_getD, List.getElem?_map, List.getElem?_eq_getElem (by rw [List.length_zip]; omega), List.getElem_zip]
      rw [List.getD_eq_getElem?_getD, List.getD_eq_getElem?_getD, List.getElem?_eq_getElem lf, List.getElem?_eq_getElem ls]
      rfl
    have pf : 0 < (f.map Int.toNat).sum := by omega
    have ps : 0 < (s.map Int.toNat).sum := by omega
    rw [e1, fractions_at _ pf, fractions_at _ ps, toNat_getD f f0, toNat_getD s s0, ofNat_make, ofNat_make, make_mul (by decide) pf, make_mul (by decide) ps,
      make_add (by omega) (by omega), make_mul (Nat.mul_pos (by omega) (by omega)) (by omega), comb_at h hi]
    refine make_eq (Nat.mul_pos (Nat.mul_pos (by omega) (by omega)) (by omega)) (by omega) ?_
    rw [Int.toNat_of_nonneg (Int.le_of_lt pT), comb_sum h]
    unfold combAt
    simp only [Int.natCast_mul, Int.natCast_add, ef, es, Int.toNat_of_nonneg (Int.le_of_lt hk), Int.toNat_of_nonneg (Int.le_of_lt hm)]
    grind
  · have e1 : (Ks608.combine k.toNat m.toNat (Ks608.fractions (f.map Int.toNat)) (Ks608.fractions (s.map Int.toNat))).getD i zero = zero := by
      unfold Ks608.combine Ks608.fractions
      rw [List.getD_eq_getElem?_getD, List.getElem?_eq_none]
      · rfl
      · rw [List.length_map, List.length_zip, List.length_map, List.length_map, List.length_map, List.length_map]; omega
    rw [e1, getD_none (by rw [comb_len h]; omega), make_zero (by omega)]
theorem predict_comb {p b f s : List Int} {k m : Int} (ok : respOk p b = true) (lf : f.length = p.length) (ls : s.length = p.length) (f0 : ∀ z ∈ f, 0 ≤ z) (s0 : ∀ z ∈ s, 0 ≤ z) (hf : 0 < f.sum) (hs : 0 < s.sum) (hk : 0 < k) (hm : 0 < m) :
    Ks608.predict ⟨p, b⟩ (Ks608.combine k.toNat m.toNat (Ks608.fractions (f.map Int.toNat)) (Ks608.fractions (s.map Int.toNat))) = make (numer p b (comb k m f s)) ((comb k m f s).sum * (comb k m f s).sum).toNat := by
  have h : f.length = s.length := by omega
  have pT : 0 < (comb k m f s).sum := by
    rw [comb_sum h]
    exact Int.mul_pos (Int.mul_pos hf hs) (by omega)
  have lc := comb_len (k := k) (m := m) h
  have hT : 0 < (comb k m f s).sum.toNat := by omega
  rw [predict_over hT (c := fun i => (comb k m f s).getD i 0) (combine_at h f0 s0 hf hs hk hm), ← psum_is (by omega), ← qsum_is ok]
  unfold numer
  have e : (((comb k m f s).sum.toNat : Nat) : Int) = (comb k m f s).sum := Int.toNat_of_nonneg (by omega)
  rw [e]
  congr 1
  have e2 : (comb k m f s).sum * (comb k m f s).sum = (((comb k m f s).sum.toNat * (comb k m f s).sum.toNat : Nat) : Int) := by rw [Int.natCast_mul, e]
  rw [e2]
  rfl
/-- the mean of two rational numbers, weighted -/
theorem mean_is {k m : Int} (hk : 0 < k) (hm : 0 < m) {a c : Int} {b d : Nat} (hb : 0 < b) (hd : 0 < d) :
    (ofNat k.toNat * make a b + ofNat m.toNat * make c d) * make 1 (k.toNat + m.toNat) =
      make (k * (make a b).num * ((make c d).den : Int) + m * (make c d).num * ((make a b).den : Int)) ((k + m) * ((make a b).den : Int) * ((make c d).den : Int)).toNat := by
  have p1 := make_den (a := a) hb
  have p2 := make_den (a := c) hd
  have key : (ofNat k.toNat * make (make a b).num (make a b).den + ofNat m.toNat * make (make c d).num (make c d).den) * make 1 (k.toNat + m.toNat) =
      make (k * (make a b).num * ((make c d).den : Int) + m * (make c d).num * ((make a b).den : Int)) ((k + m) * ((make a b).den : Int) * ((make c d).den : Int)).toNat := by
    generalize (make a b).num = n1 at *
    generalize (make c d).num = n2 at *
    generalize (make a b).den = d1 at *
    generalize (make c d).den = d2 at *
    rw [ofNat_make, ofNat_make, make_mul (by decide) p1, make_mul (by decide) p2, make_add (by omega) (by omega), make_mul (Nat.mul_pos (by omega) (by omega)) (by omega)]
    have pD : 0 < (k + m) * (d1 : Int) * (d2 : Int) := Int.mul_pos (Int.mul_pos (by omega) (by omega)) (by omega)
    refine make_eq (Nat.mul_pos (Nat.mul_pos (by omega) (by omega)) (by omega)) (by omega) ?_
    rw [Int.toNat_of_nonneg (by omega)]
    simp only [Int.natCast_mul, Int.natCast_add, Int.toNat_of_nonneg (Int.le_of_lt hk), Int.toNat_of_nonneg (Int.le_of_lt hm)]
    grind
  rw [make_self hb, make_self hd] at key
  exact key
/-- a rational number as a list of two -/
def duo (r : Rational) : List Int := [r.num, (r.den : Int)]
/-- the predicted response of a mixture -/
def resp (p b m : List Int) : Rational := make (numer p b m) (m.sum * m.sum).toNat
def meanOf (k m : Int) (r q : Rational) : Rational := make (k * r.num * (q.den : Int) + m * q.num * (r.den : Int)) ((k + m) * (r.den : Int) * (q.den : Int)).toNat
/-- what is due of predict_combination -/
def combDue (k m : Int) (p b f s : List Int) : List Int := 0 :: (duo (resp p b (comb k m f s)) ++ duo (meanOf k m (resp p b f) (resp p b s)))
theorem due_comb (k m : Int) (p b f s : List Int) (k0 : 0 ≤ k) (m0 : 0 ≤ m) (f0 : ∀ z ∈ f, 0 ≤ z) (s0 : ∀ z ∈ s, 0 ≤ z) :
    PyKs608.predict_combination k m p b f s = if respOk p b = true then (if (okAll 1 99 [k, m] && (mixOk f p.length && mixOk s p.length)) = true then combDue k m p b f s else [-22]) else [-22] := by
  show Ks608Neutral.integers (Ks608.withResponses p b fun r => if Ks608.isValidMixture r (f.map Int.toNat) = false ∨ Ks608.isValidMixture r (s.map Int.toNat) = false ∨ Ks608.isValidProportion k.toNat m.toNat = false then Ks608.number (-22) else _) = _
  unfold Ks608.withResponses
  rw [parse_is]
  by_cases h : respOk p b = true
  · rw [if_pos h, if_pos h]
    show Ks608Neutral.integers (if Ks608.isValidMixture ⟨p, b⟩ (f.map Int.toNat) = false ∨ Ks608.isValidMixture ⟨p, b⟩ (s.map Int.toNat) = false ∨ Ks608.isValidProportion k.toNat m.toNat = false then _ else _) = _
    rw [valid_is f0, valid_is s0]
    have ep : Ks608.isValidProportion k.toNat m.toNat = okAll 1 99 [k, m] := by
      unfold Ks608.isValidProportion
      show _ = ((decide (1 ≤ k) && decide (k ≤ 99)) && ((decide (1 ≤ m) && decide (m ≤ 99)) && true))
      rw [Bool.and_true, ← Bool.and_assoc]
      rw [decide_eq_decide.mpr (show 1 ≤ k.toNat ↔ 1 ≤ k by omega), decide_eq_decide.mpr (show k.toNat ≤ 99 ↔ k ≤ 99 by omega), decide_eq_decide.mpr (show 1 ≤ m.toNat ↔ 1 ≤ m by omega), decide_eq_decide.mpr (show m.toNat ≤ 99 ↔ m ≤ 99 by omega)]
    rw [ep]
    by_cases hq : (okAll 1 99 [k, m] && (mixOk f p.length && mixOk s p.length)) = true
    · rw [if_pos hq]
      rw [Bool.and_eq_true, Bool.and_eq_true] at hq
      obtain ⟨h1, h2, h3⟩ := hq
      rw [h1, h2, h3, if_neg (by decide)]
      show (0 : Int) :: Ks604.pairs [Ks608.predict ⟨p, b⟩ (Ks608.combine k.toNat m.toNat (Ks608.fractions (f.map Int.toNat)) (Ks608.fractions (s.map Int.toNat))),
        (ofNat k.toNat * Ks608.predict ⟨p, b⟩ (Ks608.fractions (f.map Int.toNat)) + ofNat m.toNat * Ks608.predict ⟨p, b⟩ (Ks608.fractions (s.map Int.toNat))) * make 1 (k.toNat + m.toNat)] = _
      have kk : (decide (1 ≤ k) && decide (k ≤ 99)) = true ∧ ((decide (1 ≤ m) && decide (m ≤ 99)) && true) = true := Bool.and_eq_true_iff.mp h1
      rw [Bool.and_true, Bool.and_eq_true, Bool.and_eq_true, decide_eq_true_eq, decide_eq_true_eq, decide_eq_true_eq, decide_eq_true_eq] at kk
      obtain ⟨l1, _, p1⟩ := mixOk_spec h2
      obtain ⟨l2, _, p2⟩ := mixOk_spec h3
      rw [predict_comb h l1 l2 f0 s0 p1 p2 (by omega) (by omega), predict_is h l1 f0 p1, predict_is h l2 s0 p2]
      have q1 := Int.mul_pos p1 p1
      have q2 := Int.mul_pos p2 p2
      rw [mean_is (by omega) (by omega) (by omega) (by omega)]
      rfl
    · rw [if_neg hq, if_pos]
      · rfl
      · revert hq
        cases okAll 1 99 [k, m] <;> cases mixOk f p.length <;> cases mixOk s p.length <;> simp
  · rw [if_neg h, if_neg h]
    rfl
end Mx
set_option Elab.async false
set_option linter.all false
set_option maxRecDepth 100000
set_option maxHeartbeats 4000000
namespace Pb
open PySem PySem.Spec PyProof.Rows L2
def topS (i : Nat) : Stmt := PySem.Challenge.pw_pairblend_s04_predict_combination.main.body.getD i (.Pass ⟨0, 0, 0, 0⟩)
abbrev sAB : Stmt := topS 6
abbrev sCP : Stmt := topS 7
abbrev sRW : Stmt := topS 8
abbrev sMW : Stmt := topS 9
abbrev sLT : Stmt := topS 10
abbrev sPI : Stmt := topS 11
abbrev sSR : Stmt := topS 12
abbrev sPR : Stmt := topS 13
abbrev sCB : Stmt := topS 14
abbrev sWM : Stmt := topS 15
abbrev sPC : Stmt := topS 16
/-! ### heaps, lists -/
theorem same_upd {H : Hp} {p : Addr} {o : HO} (h : H p = none) : Same H (upd H p o) := fun b x e => by
  rw [upd_ne (ne_of_none e h)]
  exact e
/-- what was tracked ahead stands, a new object is changed -/
theorem same_chg {H H1 : Hp} {p : Addr} {o : HO} (s : Same H H1) (h : H p = none) : Same H (upd H1 p o) := fun b x e => by
  rw [upd_ne (ne_of_none e h)]
  exact s b x e
theorem take_snoc {α : Type} {l : List α} {i : Nat} {x : α} (h : l[i]? = some x) : l.take (i + 1) = l.take i ++ [x] := by
  rw [List.take_add_one, h]
  rfl
theorem map_at {α β : Type} {f : α → β} {l : List α} {i : Nat} {y : β} (h : (l.map f)[i]? = some y) : ∃ z, l[i]? = some z ∧ y = f z := by
  rw [List.getElem?_map] at h
  cases e : l[i]? with
  | none =>
    rw [e] at h
    cases h
  | some z =>
    rw [e] at h
    exact ⟨z, rfl, (Option.some.inj h).symm⟩
theorem lt_of_at {α : Type} {l : List α} {i : Nat} {x : α} (h : l[i]? = some x) : i < l.length := (List.getElem?_eq_some_iff.mp h).1
/-- a constant of the module that is a number -/
theorem pe_num {X : Cx} {x : Str} {i : Int} {t : Tok} {pos : Pos} (hg : Gl X x) (hm : X.mg x = some (.int i t)) (hd : (x == ("__debug__" : Str)) = false := by decide) : PE X (.Name x pos) (tC (.int i)) := pe_glob (v := .int i) hg hm ⟨_, rfl⟩ hd
/-! ### all_between -/
def spAB (K : PySem.W.Frag) : Sp := fun vs H Q _ => ∃ (a : Addr) (ns : List Int) (lo hi : Int), vs = [.ref a, .int lo, .int hi] ∧ SqL K H a (ns.map V.int) ∧ ns.length ≤ 1000 ∧
  ∀ H', Same H H' → Q (.bl (Mx.okAll lo hi ns)) H'
theorem scAB : FnScope ["numbers", "low", "high", "number"] ["numbers", "low", "high"] (defScope sAB) := ⟨rfl, rfl, rfl, by decide +kernel, rfl, by decide +kernel, by decide +kernel⟩
theorem ok_ab {P : Program} {w : World} {K : PySem.W.Frag} {mg : Str → Option Value} {base : Heap} {f : Addr} {fd : FuncData} {k : Nat} (F : Fun K "all_between" "all_between" sAB f fd) (ma : mg "all" = none) :
    FnOk P w K mg base CX0 (k + 1) f fd ["numbers", "low", "high"] (spAB K) := by
  refine F.ok scAB (fun vs H Q E h => ?_) (fun cdv A outer s H vs Q E hr h => ?_)
  · obtain ⟨a, ns, lo, hi, rfl, _⟩ := h
    rfl
  · obtain ⟨a, ns, lo, hi, rfl, hS, hlen, q⟩ := h
    refine ⟨_, pss_one (ps_ret (pe_callB (cr_all rfl) (by rfl) ma boot_all (pa_cons
      (pe_lc (own := [("number", 3)]) (g := gName 3) (tt := tYes) rfl scAB.nd (pi_list (pv 0)) (blkOk_by (own := [("number", 3)]) (N := ["numbers", "low", "high", "number"]) (sc := defScope sAB) (by decide +kernel))
        (fun _ _ _ _ _ => pg_name (i := 3) scAB.nd rfl (Or.inl rfl)) (fun _ _ _ _ _ => pts_nil) (fun _ _ _ _ _ => pe_chain op_le op_le (pv 1) (pv 3) (pv 2))) pa_nil))), ?_⟩
    refine ⟨.ref a, rfl, a, rfl, ⟨_, hS⟩, fun D nD => lc_list (K := K) (a := a) (xs := ns.map V.int)
      (fun i H' => Same H H' ∧ H' D = some (.lst (((ns.take i).map fun z => decide (lo ≤ z) && decide (z ≤ hi)).map V.bl))) ⟨same_upd nD, upd_same⟩ (fun i H' _ h => h.1.seq hS) ?_ ?_⟩
    · rintro i x H' hx ⟨sm, eD⟩
      obtain ⟨z, hz, rfl⟩ := map_at hx
      have hil := lt_of_at hz
      refine ⟨rfl, ?_⟩
      refine ⟨_, rfl, _, rfl, _, _, rfl, rfl, _, rfl, ?_⟩
      have fin : ∀ b : Bool, b = (decide (lo ≤ z) && decide (z ≤ hi)) → ∃ acc, H' D = some (.lst acc) ∧ acc.length < sizeLine ∧ Same H (upd H' D (.lst (acc ++ [V.bl b]))) ∧
          (upd H' D (.lst (acc ++ [V.bl b]))) D = some (.lst (((ns.take (i + 1)).map fun z => decide (lo ≤ z) && decide (z ≤ hi)).map V.bl)) := fun b e => by
        refine ⟨_, eD, ?_, same_chg sm nD, ?_⟩
        · rw [List.length_map, List.length_map, List.length_take]
          exact Nat.lt_of_le_of_lt (Nat.min_le_left _ _) (small1000 (by omega))
        · rw [upd_same, take_snoc hz, List.map_append, List.map_append, e]
          rfl
      by_cases c : lo ≤ z
      · rw [decide_eq_true c]
        refine iteT ?_
        refine ⟨_, rfl, _, _, rfl, rfl, ?_⟩
        exact fin _ (by rw [decide_eq_true c, Bool.true_and])
      · rw [decide_eq_false c]
        refine iteF ?_
        exact fin _ (by rw [decide_eq_false c, Bool.false_and])
    · rintro H' ⟨sm, eD⟩
      rw [List.length_map, List.take_length] at eD
      refine ⟨D, _, rfl, .inl (.inl eD), ?_⟩
      have e : ((ns.map fun z => decide (lo ≤ z) && decide (z ≤ hi)).all id) = Mx.okAll lo hi ns := by
        rw [List.all_map]
        rfl
      rw [e]
      exact q H' sm
/-! ### component_pairs -/
/-- a tuple object for each pair -/
def Tups (H : Hp) (rs : List Addr) (ps : List (Nat × Nat)) : Prop := rs.length = ps.length ∧ ∀ x ∈ rs.zip ps, H x.1 = some (.tup [.int (x.2.1 : Int), .int (x.2.2 : Int)])
/-- a list of such -/
def PairsAt (H : Hp) (p : Addr) (ps : List (Nat × Nat)) : Prop := ∃ rs : List Addr, H p = some (.lst (rs.map V.ref)) ∧ Tups H rs ps
theorem Tups.mono {H H' : Hp} {rs : List Addr} {ps : List (Nat × Nat)} (h : Tups H rs ps) (s : ∀ b xs, H b = some (.tup xs) → H' b = some (.tup xs)) : Tups H' rs ps := ⟨h.1, fun x hx => s _ _ (h.2 x hx)⟩
theorem Tups.at {H : Hp} {rs : List Addr} {ps : List (Nat × Nat)} {i : Nat} {r : Addr} {q : Nat × Nat} (h : Tups H rs ps) (h1 : rs[i]? = some r) (h2 : ps[i]? = some q) : H r = some (.tup [.int (q.1 : Int), .int (q.2 : Int)]) := by
  refine h.2 (r, q) (List.mem_of_getElem? (i := i) ?_)
  exact List.getElem?_zip_eq_some.mpr ⟨h1, h2⟩
theorem PairsAt.same {H H' : Hp} {p : Addr} {ps : List (Nat × Nat)} (h : PairsAt H p ps) (s : Same H H') : PairsAt H' p ps := by
  obtain ⟨rs, h1, h2⟩ := h
  exact ⟨rs, s _ _ h1, h2.mono fun b xs e => s _ _ e⟩
theorem Tups.snoc {H : Hp} {rs : List Addr} {ps : List (Nat × Nat)} {r : Addr} {q : Nat × Nat} (h : Tups H rs ps) (hr : H r = some (.tup [.int (q.1 : Int), .int (q.2 : Int)])) : Tups H (rs ++ [r]) (ps ++ [q]) := by
  refine ⟨by rw [List.length_append, List.length_append, h.1]; rfl, fun x hx => ?_⟩
  rw [List.zip_append h.1] at hx
  rcases List.mem_append.mp hx with hx | hx
  · exact h.2 x hx
  · have e : x = (r, q) := by simpa using hx
    rw [e]
    exact hr
/-- the pairs of i with the first k above -/
def rowOf (i k : Nat) : List (Nat × Nat) := (List.range k).map fun t => (i, i + 1 + t)
def upto (n i : Nat) : List (Nat × Nat) := (List.range i).flatMap fun a => rowOf a (n - (a + 1))
theorem upto_zero (n : Nat) : upto n 0 = [] := rfl
theorem upto_succ (n i : Nat) : upto n (i + 1) = upto n i ++ rowOf i (n - (i + 1)) := by
  unfold upto
  rw [List.range_succ, List.flatMap_append]
  simp
theorem rowOf_zero (i : Nat) : rowOf i 0 = [] := rfl
theorem rowOf_succ (i k : Nat) : rowOf i (k + 1) = rowOf i k ++ [(i, i + 1 + k)] := by
  unfold rowOf
  rw [List.range_succ, List.map_append]
  rfl
theorem upto_all : ∀ n, n < 5 → upto n n = Ks608.allPairs n := by decide
theorem upto_len : ∀ n, n < 5 → ∀ i, i < 5 → (upto n i).length ≤ 100 := by decide
def spCP (K : PySem.W.Frag) : Sp := fun vs H Q _ => ∃ n : Nat, vs = [.int (n : Int)] ∧ n ≤ 4 ∧
  ∀ H' p, Same H H' → H p = none → PairsAt H' p (Ks608.allPairs n) → Q (.ref p) H'
theorem scCP : FnScope ["component_count", "pairs", "i", "j"] ["component_count"] (defScope sCP) := ⟨rfl, rfl, rfl, by decide +kernel, rfl, by decide +kernel, by decide +kernel⟩
theorem ok_cp {P : Program} {w : World} {K : PySem.W.Frag} {mg : Str → Option Value} {base : Heap} {f : Addr} {fd : FuncData} {k : Nat} (F : Fun K "component_pairs" "component_pairs" sCP f fd) (mr : mg "range" = none) :
    FnOk P w K mg base CX0 (k + 1) f fd ["component_count"] (spCP K) := by
  refine F.ok scCP (fun vs H Q E h => ?_) (fun cdv A outer s H vs Q E hr h => ?_)
  · obtain ⟨n, rfl, _⟩ := h
    rfl
  · obtain ⟨n, rfl, hn, q⟩ := h
    refine ⟨_, pss_cons (ps_set (i := 1) scCP.nd rfl (.inl rfl) (pe_lst pa_nil))
      (pss_cons (ps_for PassesOwn.never rfl (pi_range1 (by rfl) mr (pa_cons (pv 0) pa_nil)) (pg_name (i := 2) scCP.nd rfl (Or.inl rfl))
        (pss_one (ps_for PassesOwn.never rfl (pi_range2 (by rfl) mr (pa_cons (pe_op op_add (pv 2) pe_int) (pa_cons (pv 0) pa_nil))) (pg_name (i := 3) scCP.nd rfl (Or.inl rfl))
          (pss_one (ps_expr (pe_bm PySem.F.plainAttrs_list PySem.F.slot_list_append PySem.F.type_list_append mt_append (pv 1) (pa_cons (pe_tup (pa_cons (pv 2) (pa_cons (pv 3) pa_nil))) pa_nil)))))))
      (pss_one (ps_ret (pv 1)))), ?_⟩
    refine ⟨Nat.zero_le _, fun p np => ?_⟩
    refine ⟨_, rfl, (n : Int), rfl, by omega, by omega, ?_⟩
    rw [Int.toNat_natCast]
    refine for_range (lo := 0) (n := n) (fun i σ H' => ∃ v2 v3, σ = [some (.int (n : Int)), some (.ref p), v2, v3] ∧ Same H H' ∧ PairsAt H' p (upto n i))
      ⟨none, none, rfl, same_upd np, [], upd_same, rfl, fun x hx => absurd hx (by simp)⟩ ?_ ?_
    · rintro i σ H1 hi ⟨v2, v3, rfl, sm, hp⟩
      rw [Int.zero_add]
      refine ⟨_, rfl, _, _, rfl, rfl, _, rfl, _, _, rfl, ⟨by omega, by omega, by omega, by omega⟩, ?_⟩
      have e1 : ((n : Int) - ((i : Int) + 1)).toNat = n - (i + 1) := by omega
      rw [e1]
      refine for_range (lo := (i : Int) + 1) (n := n - (i + 1)) (fun t σ H' => ∃ v3, σ = [some (.int (n : Int)), some (.ref p), some (.int (i : Int)), v3] ∧ Same H H' ∧ PairsAt H' p (upto n i ++ rowOf i t))
        ⟨v3, rfl, sm, by rw [rowOf_zero, List.append_nil]; exact hp⟩ ?_ ?_
      · rintro t σ H2 ht ⟨w3, rfl, sm2, rs, hp2, tp⟩
        refine ⟨_, rfl, .inl ⟨rfl, _, .inl (.inl hp2)⟩, _, rfl, _, rfl, (by show 2 ≤ sizeLine; decide), fun T nT => ?_⟩
        have npT : p ≠ T := ne_of_none hp2 nT
        have e2 : ((i : Int) + 1 + (t : Int)) = ((i + 1 + t : Nat) : Int) := by omega
        refine ⟨p, _, _, rfl, rfl, by rw [upd_ne npT]; exact hp2, ?_, ?_⟩
        · have hl := tp.1
          rw [List.length_map, hl, List.length_append]
          have h1 : (rowOf i t).length = t := by unfold rowOf; rw [List.length_map, List.length_range]
          have h2 := upto_len n (by omega) i (by omega)
          exact small1000 (by omega)
        · refine ⟨_, rfl, ?_, rs ++ [T], ?_, ?_⟩
          · exact same_chg (fun b x e => by rw [upd_ne (ne_of_none (sm2 b x e) nT)]; exact sm2 b x e) np
          · rw [upd_same, List.map_append]
            rfl
          · rw [rowOf_succ, ← List.append_assoc]
            have tne : ∀ b xs, H2 b = some (.tup xs) → b ≠ p := fun b xs e => ne_of e hp2 (by intro z; cases z)
            refine Tups.snoc (tp.mono fun b xs e => ?_) ?_
            · rw [upd_ne (tne b xs e), upd_ne (ne_of_none e nT)]
              exact e
            · rw [upd_ne npT.symm, upd_same]
              show some (HO.tup [V.int (i : Int), V.int ((i : Int) + 1 + (t : Int))]) = some (HO.tup [V.int (i : Int), V.int ((i + 1 + t : Nat) : Int)])
              rw [e2]
      · rintro σ H2 ⟨w3, rfl, sm2, hp2⟩
        exact ⟨_, w3, rfl, sm2, by rw [upto_succ]; exact hp2⟩
    · rintro σ H1 ⟨v2, v3, rfl, sm, hp⟩
      rw [upto_all n (by omega)] at hp
      exact ⟨_, rfl, q H1 p sm np hp⟩
/-! ### responses_within_limits -/
/-- the limits of pure and binary as the module has them, and the two defs asked -/
structure TxtR (K : PySem.W.Frag) (mg : Str → Option Value) (fAB fCP : Addr) (fdAB fdCP : FuncData) : Prop where
  all : mg "all" = none
  len : mg "len" = none
  range : mg "range" = none
  mc : ∃ t, mg "MOST_COMPONENTS" = some (.int 4 t)
  lr : ∃ t, mg "LARGEST_RESPONSE" = some (.int 999 t)
  FAB : Fun K "all_between" "all_between" sAB fAB fdAB
  gAB : mg "all_between" = some (.ref fAB)
  bAB : Binds K fdAB ["numbers", "low", "high"] []
  FCP : Fun K "component_pairs" "component_pairs" sCP fCP fdCP
  gCP : mg "component_pairs" = some (.ref fCP)
  bCP : Binds K fdCP ["component_count"] []
def spRW (K : PySem.W.Frag) : Sp := fun vs H Q _ => ∃ (a b : Addr) (ps bs : List Int), vs = [.ref a, .ref b] ∧ SqL K H a (ps.map V.int) ∧ SqL K H b (bs.map V.int) ∧ ps.length ≤ 1000 ∧ bs.length ≤ 1000 ∧
  ∀ H', Same H H' → Q (.bl (Mx.respOk ps bs)) H'
theorem scRW : FnScope ["pure", "binary"] ["pure", "binary"] (defScope sRW) := ⟨rfl, rfl, rfl, by decide +kernel, rfl, by decide +kernel, by decide +kernel⟩
theorem len_refs {H : Hp} {p : Addr} {ps : List (Nat × Nat)} (h : PairsAt H p ps) : ∃ xs : List V, H p = some (.lst xs) ∧ xs.length = ps.length := by
  obtain ⟨rs, h1, h2⟩ := h
  exact ⟨_, h1, by rw [List.length_map, h2.1]⟩
theorem ok_rw {P : Program} {w : World} {K : PySem.W.Frag} {mg : Str → Option Value} {base : Heap} {f fAB fCP : Addr} {fd fdAB fdCP : FuncData} (F : Fun K "responses_within_limits" "responses_within_limits" sRW f fd) (T : TxtR K mg fAB fCP fdAB fdCP) :
    FnOk P w K mg base CX0 2 f fd ["pure", "binary"] (spRW K) := by
  have GAB : FnOk P w K mg base CX0 1 fAB fdAB ["numbers", "low", "high"] (spAB K) := ok_ab T.FAB T.all
  have GCP : FnOk P w K mg base CX0 1 fCP fdCP ["component_count"] (spCP K) := ok_cp T.FCP T.range
  obtain ⟨t1, gMC⟩ := T.mc
  obtain ⟨t2, gLR⟩ := T.lr
  refine F.ok scRW (fun vs H Q E h => ?_) (fun cdv A outer s H vs Q E hr h => ?_)
  · obtain ⟨a, b, ps, bs, rfl, _⟩ := h
    rfl
  · obtain ⟨a, b, ps, bs, rfl, hA, hB, lA, lB, q⟩ := h
    refine ⟨_, pss_cons (ps_if (pt_not (pt_chain op_le op_le pe_int (pe_callB call_len_seq (by rfl) T.len PySem.boot_len (pa_cons (pv 0) pa_nil)) (pe_num rfl gMC))) (pss_one (ps_ret pe_bl)) pss_nil)
      (pss_cons (ps_if (pt_cmpR op_ne (pe_callB call_len_seq (by rfl) T.len PySem.boot_len (pa_cons (pv 1) pa_nil))
          (pe_callB call_len_seq (by rfl) T.len PySem.boot_len (pa_cons (pe_call GCP hr (by rfl) T.gCP T.FCP.kp T.bCP .nil pass0 (pa_cons (pe_callB call_len_seq (by rfl) T.len PySem.boot_len (pa_cons (pv 0) pa_nil)) pa_nil)) pa_nil)) (nomark _)) (pss_one (ps_ret pe_bl)) pss_nil)
      (pss_cons (ps_if (pt_not (pt_val (pe_call GAB hr (by rfl) T.gAB T.FAB.kp T.bAB .nil pass0 (pa_cons (pv 0) (pa_cons (pe_un un_neg (pe_num rfl gLR)) (pa_cons (pe_num rfl gLR) pa_nil)))))) (pss_one (ps_ret pe_bl)) pss_nil)
      (pss_one (ps_ret (pe_call GAB hr (by rfl) T.gAB T.FAB.kp T.bAB .nil pass0 (pa_cons (pv 1) (pa_cons (pe_un un_neg (pe_num rfl gLR)) (pa_cons (pe_num rfl gLR) pa_nil)))))))), ?_⟩
    -- what is handed back where a test falls
    have no : Mx.respOk ps bs = false → ∀ H', Same H H' → Q (.bl false) H' := fun e H' sm => by
      have z := q H' sm
      rw [e] at z
      exact z
    -- 1 <= len(pure) <= 4
    refine ⟨_, rfl, a, _, rfl, .inl hA, _, _, rfl, rfl, _, rfl, ?_⟩
    rw [List.length_map]
    by_cases c1 : (1 : Int) ≤ (ps.length : Int)
    case neg =>
      rw [decide_eq_false c1]
      refine iteF ?_
      refine ⟨_, rfl, ?_⟩
      refine no ?_ H (Same.refl H)
      unfold Mx.respOk
      rw [decide_eq_false (by omega), Bool.false_and]
    rw [decide_eq_true c1]
    refine iteT ?_
    refine ⟨_, _, rfl, rfl, _, rfl, ?_⟩
    by_cases c2 : (ps.length : Int) ≤ 4
    case neg =>
      rw [decide_eq_false c2]
      refine no ?_ H (Same.refl H)
      unfold Mx.respOk
      rw [decide_eq_false (show ¬ ps.length ≤ 4 by omega), Bool.false_and, Bool.and_false]
    rw [decide_eq_true c2]
    -- len(binary) != len(component_pairs(len(pure)))
    refine ⟨_, rfl, b, _, rfl, .inl hB, _, rfl, a, _, rfl, .inl hA, ps.length, ?_, by omega, fun H1 p s1 np hp => ?_⟩
    · rw [List.length_map]
      rfl
    obtain ⟨xs, ex, lx⟩ := len_refs hp
    refine ⟨p, xs, rfl, .inl (.inl (.inl ex)), rfl, _, rfl, ?_⟩
    rw [List.length_map, lx, dec_int]
    by_cases c3 : bs.length = (Ks608.allPairs ps.length).length
    case neg =>
      have e : ((bs.length : Int) == ((Ks608.allPairs ps.length).length : Int)) = false := by
        rw [beq_eq_false_iff_ne]
        omega
      rw [e]
      refine no ?_ H1 s1
      unfold Mx.respOk
      rw [decide_eq_false c3, Bool.false_and, Bool.and_false, Bool.and_false]
    rw [c3, beq_self_eq_true]
    -- all_between(pure, ..)
    refine ⟨_, rfl, _, rfl, a, ps, -999, 999, rfl, s1.seq hA, lA, fun H2 s2 => ⟨_, rfl, ?_⟩⟩
    have s12 := s1.trans s2
    have ok : Mx.respOk ps bs = (Mx.okAll (-999) 999 ps && Mx.okAll (-999) 999 bs) := by
      unfold Mx.respOk
      rw [decide_eq_true (show 1 ≤ ps.length by omega), decide_eq_true (show ps.length ≤ 4 by omega), decide_eq_true c3, Bool.true_and, Bool.true_and, Bool.true_and]
    cases c4 : Mx.okAll (-999) 999 ps with
    | false =>
      refine no ?_ H2 s12
      rw [ok, c4, Bool.false_and]
    | true =>
      refine ⟨_, rfl, _, rfl, b, bs, -999, 999, rfl, s12.seq hB, lB, fun H3 s3 => ?_⟩
      have z := q H3 (s12.trans s3)
      rw [ok, c4, Bool.true_and] at z
      exact z
/-! ### pair_interactions -/
theorem pair_lt : ∀ n, n < 5 → ∀ q ∈ Ks608.allPairs n, q.1 < n ∧ q.2 < n := by decide
theorem pairs_few : ∀ n, n < 5 → (Ks608.allPairs n).length ≤ 6 := by decide
theorem at_int {ns : List Int} {j : Nat} (h : j < ns.length) : atI (ns.map V.int) (j : Int) = some (.int (ns.getD j 0)) := by
  refine atI_nat ?_
  rw [List.getElem?_map, List.getElem?_eq_getElem h, Mx.getD_at h]
  rfl
theorem inter_at {ps bs : List Int} {i : Nat} {q : Nat × Nat} {z : Int} (h1 : (Ks608.allPairs ps.length)[i]? = some q) (h2 : bs[i]? = some z) : (Mx.inter ps bs)[i]? = some (Mx.interOne ps (q, z)) := by
  unfold Mx.inter
  have e : ((Ks608.allPairs ps.length).zip bs)[i]? = some (q, z) := List.getElem?_zip_eq_some.mpr ⟨h1, h2⟩
  rw [List.getElem?_map, e]
  rfl
theorem inter_len {ps bs : List Int} (h : bs.length = (Ks608.allPairs ps.length).length) : (Mx.inter ps bs).length = bs.length := by
  unfold Mx.inter
  rw [List.length_map, List.length_zip, h, Nat.min_self]
def spPI (K : PySem.W.Frag) : Sp := fun vs H Q _ => ∃ (a b : Addr) (ps bs : List Int), vs = [.ref a, .ref b] ∧ SqL K H a (ps.map V.int) ∧ SqL K H b (bs.map V.int) ∧ Mx.respOk ps bs = true ∧
  ∀ H' r, Same H H' → H r = none → H' r = some (.lst ((Mx.inter ps bs).map V.int)) → Q (.ref r) H'
theorem scPI : FnScope ["pure", "binary", "found", "pair", "pair_response"] ["pure", "binary"] (defScope sPI) := ⟨rfl, rfl, rfl, by decide +kernel, rfl, by decide +kernel, by decide +kernel⟩
theorem ok_pi {P : Program} {w : World} {K : PySem.W.Frag} {mg : Str → Option Value} {base : Heap} {f fAB fCP : Addr} {fd fdAB fdCP : FuncData} (F : Fun K "pair_interactions" "pair_interactions" sPI f fd) (T : TxtR K mg fAB fCP fdAB fdCP) (mz : mg "zip" = none) :
    FnOk P w K mg base CX0 2 f fd ["pure", "binary"] (spPI K) := by
  have GCP : FnOk P w K mg base CX0 1 fCP fdCP ["component_count"] (spCP K) := ok_cp T.FCP T.range
  refine F.ok scPI (fun vs H Q E h => ?_) (fun cdv A outer s H vs Q E hr h => ?_)
  · obtain ⟨a, b, ps, bs, rfl, _⟩ := h
    rfl
  · obtain ⟨a, b, ps, bs, rfl, hA, hB, ok, q⟩ := h
    obtain ⟨hn, hl, _, _⟩ := Mx.respOk_spec ok
    have hn5 : ps.length < 5 := by omega
    have few := pairs_few ps.length hn5
    refine ⟨_, pss_cons (ps_set (i := 2) scPI.nd rfl (.inl rfl) (pe_lst pa_nil))
      (pss_cons (ps_for PassesOwn.never rfl (pi_zip (by rfl) mz (pa_cons (pe_call GCP hr (by rfl) T.gCP T.FCP.kp T.bCP .nil pass0 (pa_cons (pe_callB call_len_seq (by rfl) T.len PySem.boot_len (pa_cons (pv 0) pa_nil)) pa_nil)) (pa_cons (pv 1) pa_nil)))
          (pg_tup rfl (pgs_cons (pg_name (i := 3) scPI.nd rfl (.inl rfl)) (pgs_cons (pg_name (i := 4) scPI.nd rfl (.inl rfl)) pgs_nil)))
        (pss_one (ps_expr (pe_bm PySem.F.plainAttrs_list PySem.F.slot_list_append PySem.F.type_list_append mt_append (pv 2) (pa_cons
          (pe_op op_sub (pe_op op_mul pe_int (pv 4)) (pe_op op_mul pe_int (pe_op op_add (pe_ix ix_list (pv 0) (pe_ix ix_tup (pv 3) pe_int (fun _ _ => rfl)) (fun _ _ => rfl)) (pe_ix ix_list (pv 0) (pe_ix ix_tup (pv 3) pe_int (fun _ _ => rfl)) (fun _ _ => rfl))))) pa_nil)))))
      (pss_one (ps_ret (pv 2)))), ?_⟩
    refine ⟨Nat.zero_le _, fun fo nf => ?_⟩
    have s0 : Same H (upd H fo (.lst [])) := same_upd nf
    refine ⟨_, rfl, a, _, rfl, .inl (s0.seq hA), ps.length, by rw [List.length_map]; rfl, by omega, fun H1 p s1 np hp => ?_⟩
    have s01 := s0.trans s1
    have efo : H1 fo = some (.lst []) := s1 _ _ upd_same
    have fop : fo ≠ p := ne_of_none upd_same np
    obtain ⟨rs, ep, tp⟩ := hp
    refine ⟨_, rfl, p, b, _, _, rfl, .inl (.inl ep), s01.seq hB, ?_⟩
    refine RZ.for_zipL (xs := rs.map V.ref) (ys := bs.map V.int) (by rw [List.length_map, List.length_map, tp.1, hl])
      (fun i σ H' => ∃ v3 v4, σ = [some (.ref a), some (.ref b), some (.ref fo), v3, v4] ∧ Same H H' ∧ H' p = some (.lst (rs.map V.ref)) ∧ Tups H' rs (Ks608.allPairs ps.length) ∧ H' fo = some (.lst (((Mx.inter ps bs).take i).map V.int)))
      ⟨none, none, rfl, s01, ep, tp, efo⟩ (fun i σ H' h => ?_) ?_ ?_
    · obtain ⟨_, _, _, sm, e1, _, _⟩ := h
      exact ⟨.inl (.inl e1), sm.seq hB⟩
    · rintro i x y U σ H2 hx hy ⟨v3, v4, rfl, sm, e1, tp2, e2⟩ nU
      obtain ⟨r, hr', rfl⟩ := map_at hx
      obtain ⟨z, hz, rfl⟩ := map_at hy
      have hi : i < (Ks608.allPairs ps.length).length := by rw [← tp.1]; exact lt_of_at hr'
      obtain ⟨pr, hpr⟩ : ∃ pr, (Ks608.allPairs ps.length)[i]? = some pr := ⟨_, List.getElem?_eq_getElem hi⟩
      have hin := pair_lt ps.length hn5 pr (List.mem_of_getElem? hpr)
      have etup := tp2.at hr' hpr
      have rU : r ≠ U := ne_of_none etup nU
      have sU : Same H2 (upd H2 U (.tup [.ref r, .int z])) := same_upd nU
      have etU := sU _ _ etup
      have efU := sU _ _ e2
      have hAU := (sm.trans sU).seq hA
      refine ⟨U, _, rfl, .inl (.inl upd_same), rfl, _, _, rfl, _, _, rfl, rfl, ?_⟩
      refine ⟨_, rfl, .inl ⟨rfl, _, .inl (.inl efU)⟩, ?_⟩
      -- 4 * pair_response
      refine ⟨_, rfl, _, _, rfl, rfl, .inl ⟨by decide, by decide⟩, ?_⟩
      -- 2 * (pure[pair[0]] + pure[pair[1]])
      refine ⟨_, rfl, _, rfl, r, _, 0, _, rfl, rfl, .inl (.inl etU), atI_nat (j := 0) rfl, a, _, _, _, rfl, rfl, hAU, at_int hin.1, ?_⟩
      refine ⟨_, rfl, _, rfl, r, _, 1, _, rfl, rfl, .inl (.inl etU), atI_nat (j := 1) rfl, a, _, _, _, rfl, rfl, hAU, at_int hin.2, ?_⟩
      refine ⟨_, _, rfl, rfl, _, _, rfl, rfl, .inl ⟨by decide, by decide⟩, _, _, rfl, rfl, ?_⟩
      refine ⟨fo, _, _, rfl, rfl, efU, ?_, ?_⟩
      · rw [List.length_map, List.length_take]
        exact Nat.lt_of_le_of_lt (Nat.min_le_left _ _) (small1000 (by omega))
      · have foU : fo ≠ U := ne_of_none e2 nU
        refine ⟨_, _, rfl, same_chg (sm.trans sU) nf, ?_, ?_, ?_⟩
        · rw [upd_ne fop.symm]
          exact sU _ _ e1
        · refine tp2.mono fun c xs e => ?_
          rw [upd_ne (ne_of e e2 (by intro z; cases z))]
          exact sU _ _ e
        · rw [upd_same, take_snoc (inter_at hpr hz), List.map_append]
          rfl
    · rintro σ H2 ⟨v3, v4, rfl, sm, e1, tp2, e2⟩
      rw [List.length_map, tp.1, ← hl, ← inter_len hl, List.take_length] at e2
      exact ⟨_, rfl, q H2 fo sm nf e2⟩
/-! ### lowest_terms -/
def spLT (K : PySem.W.Frag) : Sp := fun vs H Q _ => ∃ n d : Int, vs = [.int n, .int d] ∧ 0 < d ∧ d < 2 ^ 200 ∧
  ∀ H' r, Same H H' → H r = none → H' r = some (.lst ((Mx.low n d).map V.int)) → Q (.ref r) H'
theorem scLT : FnScope ["numerator", "denominator", "divisor", "rest", "next_rest"] ["numerator", "denominator"] (defScope sLT) := ⟨rfl, rfl, rfl, by decide +kernel, rfl, by decide +kernel, by decide +kernel⟩
theorem abs_nat (n : Int) : (if n < 0 then -n else n) = (n.natAbs : Int) := by
  split <;> omega
theorem ok_lt {P : Program} {w : World} {K : PySem.W.Frag} {mg : Str → Option Value} {base : Heap} {f : Addr} {fd : FuncData} {k : Nat} (F : Fun K "lowest_terms" "lowest_terms" sLT f fd) (ma : mg "abs" = none) :
    FnOk P w K mg base CX0 (k + 1) f fd ["numerator", "denominator"] (spLT K) := by
  refine F.ok scLT (fun vs H Q E h => ?_) (fun cdv A outer s H vs Q E hr h => ?_)
  · obtain ⟨n, d, rfl, _⟩ := h
    rfl
  · obtain ⟨n, d, rfl, hd, hb, q⟩ := h
    refine ⟨_, pss_cons (ps_set (i := 2) scLT.nd rfl (.inl rfl) (pv 1))
      (pss_cons (ps_set (i := 3) scLT.nd rfl (.inl rfl) (pe_callB call_abs (by rfl) ma boot_abs (pa_cons (pv 0) pa_nil)))
      (pss_cons (ps_while PassesOwn.never (pt_cmpR op_ne (pv 3) pe_int (nomark _))
        (pss_cons (ps_set (i := 4) scLT.nd rfl (.inl rfl) (pe_op op_mod (pv 2) (pv 3)))
        (pss_cons (ps_set (i := 2) scLT.nd rfl (.inl rfl) (pv 3))
        (pss_one (ps_set (i := 3) scLT.nd rfl (.inl rfl) (pv 4))))))
      (pss_one (ps_ret (pe_lst (pa_cons (pe_op op_fdivW (pv 0) (pv 2)) (pa_cons (pe_op op_fdivW (pv 1) (pv 2)) pa_nil))))))), ?_⟩
    refine ⟨_, rfl, _, rfl, _, rfl, ?_⟩
    rw [abs_nat]
    refine ⟨fun m σ H' => ∃ (e r : Nat) (v4 : Option V), σ = [some (.int n), some (.int d), some (.int (e : Int)), some (.int (r : Int)), v4] ∧ H' = H ∧ m = r ∧ 0 < e ∧ Nat.gcd e r = Nat.gcd n.natAbs d.toNat,
      ⟨n.natAbs, d.toNat, n.natAbs, none, ?_, rfl, rfl, by omega, Nat.gcd_comm _ _⟩, ?_⟩
    · rw [Int.toNat_of_nonneg (by omega)]
      rfl
    · rintro m σ H1 ⟨e, r, v4, rfl, rfl, rfl, he, hg⟩
      refine ⟨_, rfl, rfl, _, rfl, ?_⟩
      rw [dec_int]
      by_cases c : m = 0
      · subst c
        rw [Nat.gcd_zero_right] at hg
        have hed : (e : Int) ≤ d := by
          have z : Nat.gcd n.natAbs d.toNat ≤ d.toNat := Nat.gcd_le_right _ (by omega)
          omega
        have hw : CDivW n (e : Int) ∧ CDivW d (e : Int) := by
          have hb' : (e : Int).natAbs < 2 ^ 200 := by omega
          exact ⟨wide_div (by omega) hb' (by decide) (by decide), wide_div (by omega) hb' (by decide) (by decide)⟩
        refine iteF ?_
        refine ⟨_, rfl, _, rfl, _, _, rfl, rfl, hw.1, _, rfl, _, rfl, _, _, rfl, rfl, hw.2, (by show 2 ≤ sizeLine; decide), fun p np => ?_⟩
        refine q _ p (same_upd np) np ?_
        rw [upd_same]
        unfold Mx.low
        rw [← hg]
        rfl
      · have c2 : ((m : Int) == 0) = false := by
          rw [beq_eq_false_iff_ne]
          omega
        rw [c2]
        refine iteT ?_
        refine ⟨fun σ' H' => ∃ m', m' < m ∧ ∃ (e r : Nat) (v4 : Option V), σ' = [some (.int n), some (.int d), some (.int (e : Int)), some (.int (r : Int)), v4] ∧ H' = H1 ∧ m' = r ∧ 0 < e ∧ Nat.gcd e r = Nat.gcd n.natAbs d.toNat, fun σ' H' z => z, ?_⟩
        refine ⟨_, rfl, _, rfl, _, _, rfl, rfl, (by show (0 : Int) < (m : Int); omega), ?_⟩
        refine ⟨_, rfl, _, rfl, e % m, Nat.mod_lt _ (by omega), m, e % m, _, rfl, rfl, rfl, by omega, ?_⟩
        rw [← hg, Nat.gcd_comm e m, Nat.gcd_rec m e, Nat.gcd_comm]
/-! ### mixture_within_limits -/
structure TxtM (K : PySem.W.Frag) (mg : Str → Option Value) (fAB : Addr) (fdAB : FuncData) : Prop where
  all : mg "all" = none
  len : mg "len" = none
  sum : mg "sum" = none
  mp : ∃ t, mg "MOST_PARTS" = some (.int 99 t)
  FAB : Fun K "all_between" "all_between" sAB fAB fdAB
  gAB : mg "all_between" = some (.ref fAB)
  bAB : Binds K fdAB ["numbers", "low", "high"] []
def spMW (K : PySem.W.Frag) : Sp := fun vs H Q _ => ∃ (c : Addr) (ms : List Int) (n : Nat), vs = [.ref c, .int (n : Int)] ∧ SqL K H c (ms.map V.int) ∧ ms.length ≤ 1000 ∧
  ∀ H', Same H H' → Q (.bl (Mx.mixOk ms n)) H'
theorem scMW : FnScope ["mixture", "component_count"] ["mixture", "component_count"] (defScope sMW) := ⟨rfl, rfl, rfl, by decide +kernel, rfl, by decide +kernel, by decide +kernel⟩
theorem ok_mw {P : Program} {w : World} {K : PySem.W.Frag} {mg : Str → Option Value} {base : Heap} {f fAB : Addr} {fd fdAB : FuncData} (F : Fun K "mixture_within_limits" "mixture_within_limits" sMW f fd) (T : TxtM K mg fAB fdAB) :
    FnOk P w K mg base CX0 2 f fd ["mixture", "component_count"] (spMW K) := by
  have GAB : FnOk P w K mg base CX0 1 fAB fdAB ["numbers", "low", "high"] (spAB K) := ok_ab T.FAB T.all
  obtain ⟨t1, gMP⟩ := T.mp
  refine F.ok scMW (fun vs H Q E h => ?_) (fun cdv A outer s H vs Q E hr h => ?_)
  · obtain ⟨c, ms, n, rfl, _⟩ := h
    rfl
  · obtain ⟨c, ms, n, rfl, hC, lC, q⟩ := h
    refine ⟨_, pss_cons (ps_if (pt_cmpR op_ne (pe_callB call_len_seq (by rfl) T.len PySem.boot_len (pa_cons (pv 0) pa_nil)) (pv 1) (nomark _)) (pss_one (ps_ret pe_bl)) pss_nil)
      (pss_one (ps_ret (pe_and (pe_call GAB hr (by rfl) T.gAB T.FAB.kp T.bAB .nil pass0 (pa_cons (pv 0) (pa_cons pe_int (pa_cons (pe_num rfl gMP) pa_nil))))
        (pe_one (pe_cmpR op_gt (pe_callB (cr_sum rfl) (by rfl) T.sum boot_sum (pa_cons (pv 0) pa_nil)) pe_int (nomark _)))))), ?_⟩
    refine ⟨_, rfl, c, _, rfl, .inl hC, _, rfl, rfl, _, rfl, ?_⟩
    rw [List.length_map, dec_int]
    by_cases c1 : ms.length = n
    case neg =>
      have e : ((ms.length : Int) == (n : Int)) = false := by
        rw [beq_eq_false_iff_ne]
        omega
      rw [e]
      have z := q H (Same.refl H)
      unfold Mx.mixOk at z
      rw [decide_eq_false c1, Bool.false_and] at z
      exact z
    rw [c1, beq_self_eq_true]
    refine ⟨_, rfl, c, ms, 0, 99, rfl, hC, lC, fun H1 s1 => ⟨_, rfl, ?_⟩⟩
    have ok : Mx.mixOk ms n = (Mx.okAll 0 99 ms && decide (0 < ms.sum)) := by
      unfold Mx.mixOk
      rw [decide_eq_true c1, Bool.true_and]
    cases c2 : Mx.okAll 0 99 ms with
    | false =>
      have z := q H1 s1
      rw [ok, c2, Bool.false_and] at z
      exact z
    | true =>
      refine ⟨_, rfl, c, ms, rfl, s1.seq hC, _, _, rfl, rfl, ?_⟩
      have z := q H1 s1
      rw [ok, c2, Bool.true_and] at z
      exact z
/-! ### bounds -/
theorem all_mem {lo hi : Int} {l : List Int} (h : Mx.okAll lo hi l = true) {z : Int} (hz : z ∈ l) : lo ≤ z ∧ z ≤ hi := by
  have e := List.all_eq_true.mp h z hz
  rw [Bool.and_eq_true, decide_eq_true_eq, decide_eq_true_eq] at e
  exact e
theorem all_at {lo hi : Int} {l : List Int} (h : Mx.okAll lo hi l = true) {i : Nat} (hi' : i < l.length) : lo ≤ l.getD i 0 ∧ l.getD i 0 ≤ hi := by
  rw [Mx.getD_at hi']
  exact all_mem h (List.getElem_mem hi')
theorem sum_most {hi : Int} : ∀ {l : List Int}, Mx.okAll 0 hi l = true → l.sum ≤ hi * l.length
  | [], _ => by simp
  | z :: r, h => by
    have h1 := all_mem h (List.mem_cons_self ..)
    have h2 := sum_most (l := r) (by
      unfold Mx.okAll at h ⊢
      rw [List.all_cons, Bool.and_eq_true] at h
      exact h.2)
    rw [List.sum_cons, List.length_cons, Int.natCast_add, Int.mul_add]
    omega
theorem mul_ok {i j : Int} (h1 : -1000000 ≤ j) (h2 : j ≤ 1000000) : CMul i j := .inr ⟨by omega, by omega⟩
theorem sum_pos {hi : Int} : ∀ {l : List Int}, Mx.okAll 0 hi l = true → 0 ≤ l.sum
  | [], _ => by simp
  | z :: r, h => by
    have h1 := all_mem h (List.mem_cons_self ..)
    have h2 := sum_pos (l := r) (hi := hi) (by
      unfold Mx.okAll at h ⊢
      rw [List.all_cons, Bool.and_eq_true] at h
      exact h.2)
    rw [List.sum_cons]
    omega
theorem all_more {lo hi hi' : Int} {l : List Int} (h : Mx.okAll lo hi l = true) (hh : hi ≤ hi') : Mx.okAll lo hi' l = true := by
  unfold Mx.okAll
  refine List.all_eq_true.mpr fun z hz => ?_
  have e := all_mem h hz
  rw [Bool.and_eq_true, decide_eq_true_eq, decide_eq_true_eq]
  omega
theorem mul_big {i j : Int} (h1 : -1000000000000 ≤ j) (h2 : j ≤ 1000000000000) : CMul i j := .inr ⟨by omega, by omega⟩
/-- a def of the program, as a caller needs it -/
def HasD (K : PySem.W.Frag) (mg : Str → Option Value) (nm : Str) (st : Stmt) (ps : List Str) : Prop := ∃ (f : Addr) (fd : FuncData), Fun K nm nm st f fd ∧ mg nm = some (.ref f) ∧ Binds K fd ps []
/-! ### scaled_response -/
structure TxtS (K : PySem.W.Frag) (mg : Str → Option Value) (fAB fCP : Addr) (fdAB fdCP : FuncData) : Prop where
  R : TxtR K mg fAB fCP fdAB fdCP
  zip : mg "zip" = none
  sum : mg "sum" = none
  PI : HasD K mg "pair_interactions" sPI ["pure", "binary"]
def spSR (K : PySem.W.Frag) : Sp := fun vs H Q _ => ∃ (a b c : Addr) (ps bs ms : List Int), vs = [.ref a, .ref b, .ref c] ∧ SqL K H a (ps.map V.int) ∧ SqL K H b (bs.map V.int) ∧ SqL K H c (ms.map V.int) ∧
  Mx.respOk ps bs = true ∧ ms.length = ps.length ∧ Mx.okAll 0 100000000 ms = true ∧
  ∀ H', Same H H' → Q (.int (Mx.numer ps bs ms)) H'
theorem scSR : FnScope ["pure", "binary", "mixture", "pure_sum", "parts", "response", "pair_sum", "pair", "interaction"] ["pure", "binary", "mixture"] (defScope sSR) := ⟨rfl, rfl, rfl, by decide +kernel, rfl, by decide +kernel, by decide +kernel⟩
theorem ok_sr {P : Program} {w : World} {K : PySem.W.Frag} {mg : Str → Option Value} {base : Heap} {fAB fCP f : Addr} {fdAB fdCP fd : FuncData} (F : Fun K "scaled_response" "scaled_response" sSR f fd)
    (T : TxtS K mg fAB fCP fdAB fdCP) : FnOk P w K mg base CX0 3 f fd ["pure", "binary", "mixture"] (spSR K) := by
  have GCP : FnOk P w K mg base CX0 1 fCP fdCP ["component_count"] (spCP K) := ok_cp T.R.FCP T.R.range
  obtain ⟨fPI, fdPI, FPI, gPI, bPI⟩ := T.PI
  have GPI : FnOk P w K mg base CX0 2 fPI fdPI ["pure", "binary"] (spPI K) := ok_pi FPI T.R T.zip
  refine F.ok scSR (fun vs H Q E h => ?_) (fun cdv A outer s H vs Q E hr h => ?_)
  · obtain ⟨a, b, c, ps, bs, ms, rfl, _⟩ := h
    rfl
  · obtain ⟨a, b, c, ps, bs, ms, rfl, hA, hB, hC, ok, hm, hm2, q⟩ := h
    have hr1 : Room 1 _ := hr.mono (by decide)
    obtain ⟨hn, hl, _, _⟩ := Mx.respOk_spec ok
    have hn5 : ps.length < 5 := by omega
    have il := inter_len hl
    have hT : ms.sum ≤ 1000000000 := by
      have z := sum_most hm2
      omega
    have hT0 := sum_pos hm2
    refine ⟨_, pss_cons (ps_set (i := 3) scSR.nd rfl (.inl rfl) pe_int)
      (pss_cons (ps_for PassesOwn.never rfl (pi_zip (by rfl) T.zip (pa_cons (pv 2) (pa_cons (pv 0) pa_nil)))
          (pg_tup rfl (pgs_cons (pg_name (i := 4) scSR.nd rfl (.inl rfl)) (pgs_cons (pg_name (i := 5) scSR.nd rfl (.inl rfl)) pgs_nil)))
        (pss_one (ps_set (i := 3) scSR.nd rfl (.inl rfl) (pe_op op_add (pv 3) (pe_op op_mul (pv 4) (pv 5))))))
      (pss_cons (ps_set (i := 6) scSR.nd rfl (.inl rfl) pe_int)
      (pss_cons (ps_for PassesOwn.never rfl (pi_zip (by rfl) T.zip (pa_cons (pe_call GCP hr1 (by rfl) T.R.gCP T.R.FCP.kp T.R.bCP .nil pass0 (pa_cons (pe_callB call_len_seq (by rfl) T.R.len PySem.boot_len (pa_cons (pv 0) pa_nil)) pa_nil))
            (pa_cons (pe_call GPI hr (by rfl) gPI FPI.kp bPI .nil pass0 (pa_cons (pv 0) (pa_cons (pv 1) pa_nil))) pa_nil)))
          (pg_tup rfl (pgs_cons (pg_name (i := 7) scSR.nd rfl (.inl rfl)) (pgs_cons (pg_name (i := 8) scSR.nd rfl (.inl rfl)) pgs_nil)))
        (pss_one (ps_set (i := 6) scSR.nd rfl (.inl rfl) (pe_op op_add (pv 6) (pe_op op_mul (pe_op op_mul (pv 8) (pe_ix ix_list (pv 2) (pe_ix ix_tup (pv 7) pe_int (fun _ _ => rfl)) (fun _ _ => rfl))) (pe_ix ix_list (pv 2) (pe_ix ix_tup (pv 7) pe_int (fun _ _ => rfl)) (fun _ _ => rfl)))))))
      (pss_one (ps_ret (pe_op op_add (pe_op op_mul (pv 3) (pe_callB (cr_sum rfl) (by rfl) T.sum boot_sum (pa_cons (pv 2) pa_nil))) (pv 6))))))), ?_⟩
    -- pure_sum = 0; zip(mixture, pure)
    refine ⟨_, rfl, _, rfl, c, a, _, _, rfl, hC, hA, ?_⟩
    refine RZ.for_zipL (xs := ms.map V.int) (ys := ps.map V.int) (by rw [List.length_map, List.length_map, hm])
      (fun i σ H' => ∃ v4 v5, σ = [some (.ref a), some (.ref b), some (.ref c), some (.int (((ms.zip ps).map fun q => q.1 * q.2).take i).sum), v4, v5, none, none, none] ∧ Same H H')
      ⟨none, none, rfl, Same.refl H⟩ (fun i σ H' h => ?_) ?_ ?_
    · obtain ⟨_, _, _, sm⟩ := h
      exact ⟨sm.seq hC, sm.seq hA⟩
    · rintro i x y U σ H2 hx hy ⟨v4, v5, rfl, sm⟩ nU
      obtain ⟨m, hm1, rfl⟩ := map_at hx
      obtain ⟨z, hz, rfl⟩ := map_at hy
      have hb := all_mem hm2 (List.mem_of_getElem? hm1)
      have hat : ((ms.zip ps).map fun q => q.1 * q.2)[i]? = some (m * z) := by
        have e : (ms.zip ps)[i]? = some (m, z) := List.getElem?_zip_eq_some.mpr ⟨hm1, hz⟩
        rw [List.getElem?_map, e]
        rfl
      refine ⟨U, _, rfl, .inl (.inl upd_same), rfl, _, _, rfl, _, _, rfl, rfl, ?_⟩
      refine ⟨_, rfl, _, rfl, _, rfl, _, _, rfl, rfl, .inl ⟨by omega, by omega⟩, _, _, rfl, rfl, ?_⟩
      refine ⟨some (.int m), some (.int z), ?_, sm.trans (same_upd nU)⟩
      rw [sum_take hat]
      rfl
    · rintro σ H2 ⟨v4, v5, rfl, sm⟩
      have e1 : (((ms.zip ps).map fun q => q.1 * q.2).take (ms.map V.int).length).sum = Mx.psum ps ms := by
        rw [List.take_of_length_le (by rw [List.length_map, List.length_map, List.length_zip]; exact Nat.min_le_left _ _)]
        rfl
      rw [e1]
      -- pair_sum = 0; zip(component_pairs(len(pure)), pair_interactions(pure, binary))
      refine ⟨_, rfl, a, _, rfl, .inl (sm.seq hA), ps.length, by rw [List.length_map]; rfl, by omega, fun H3 p s3 np hp => ?_⟩
      have s03 := sm.trans s3
      refine ⟨_, rfl, _, rfl, a, b, ps, bs, rfl, s03.seq hA, s03.seq hB, ok, fun H4 fo s4 nf ef => ?_⟩
      have s04 := s03.trans s4
      obtain ⟨rs, ep, tp⟩ := hp.same s4
      refine ⟨p, fo, _, _, rfl, .inl (.inl ep), .inl (.inl ef), ?_⟩
      refine RZ.for_zipL (xs := rs.map V.ref) (ys := (Mx.inter ps bs).map V.int) (by rw [List.length_map, List.length_map, tp.1, il, hl])
        (fun i σ H' => ∃ v7 v8, σ = [some (.ref a), some (.ref b), some (.ref c), some (.int (Mx.psum ps ms)), v4, v5,
            some (.int ((((Ks608.allPairs ps.length).zip (Mx.inter ps bs)).map (Mx.qone ms)).take i).sum), v7, v8] ∧ Same H4 H')
        ⟨none, none, rfl, Same.refl H4⟩ (fun i σ H' h => ?_) ?_ ?_
      · obtain ⟨_, _, _, s5⟩ := h
        exact ⟨.inl (.inl (s5 _ _ ep)), .inl (.inl (s5 _ _ ef))⟩
      · rintro i x y U σ H5 hx hy ⟨v7, v8, rfl, s5⟩ nU
        obtain ⟨r, hr', rfl⟩ := map_at hx
        obtain ⟨z, hz, rfl⟩ := map_at hy
        have hi : i < (Ks608.allPairs ps.length).length := by rw [← tp.1]; exact lt_of_at hr'
        obtain ⟨pr, hpr⟩ : ∃ pr, (Ks608.allPairs ps.length)[i]? = some pr := ⟨_, List.getElem?_eq_getElem hi⟩
        have hin := pair_lt ps.length hn5 pr (List.mem_of_getElem? hpr)
        rw [← hm] at hin
        have s5U := s5.trans (same_upd (o := .tup [.ref r, .int z]) nU)
        have etU := s5U _ _ (tp.at hr' hpr)
        have hCU := (s04.trans s5U).seq hC
        have b1 := all_at hm2 hin.1
        have b2 := all_at hm2 hin.2
        have hat : (((Ks608.allPairs ps.length).zip (Mx.inter ps bs)).map (Mx.qone ms))[i]? = some (Mx.qone ms (pr, z)) := by
          have e : ((Ks608.allPairs ps.length).zip (Mx.inter ps bs))[i]? = some (pr, z) := List.getElem?_zip_eq_some.mpr ⟨hpr, hz⟩
          rw [List.getElem?_map, e]
          rfl
        refine ⟨U, _, rfl, .inl (.inl upd_same), rfl, _, _, rfl, _, _, rfl, rfl, ?_⟩
        refine ⟨_, rfl, _, rfl, ?_⟩
        refine ⟨_, rfl, _, rfl, r, _, 0, _, rfl, rfl, .inl (.inl etU), atI_nat (j := 0) rfl, c, _, _, _, rfl, rfl, hCU, at_int hin.1, ?_⟩
        refine ⟨_, _, rfl, rfl, mul_big (by omega) (by omega), ?_⟩
        refine ⟨_, rfl, _, rfl, r, _, 1, _, rfl, rfl, .inl (.inl etU), atI_nat (j := 1) rfl, c, _, _, _, rfl, rfl, hCU, at_int hin.2, ?_⟩
        refine ⟨_, _, rfl, rfl, mul_big (by omega) (by omega), _, _, rfl, rfl, ?_⟩
        refine ⟨some (.ref r), some (.int z), ?_, s5U⟩
        rw [sum_take hat]
        rfl
      · rintro σ H5 ⟨v7, v8, rfl, s5⟩
        have e2 : ((((Ks608.allPairs ps.length).zip (Mx.inter ps bs)).map (Mx.qone ms)).take (rs.map V.ref).length).sum = Mx.qsum ps bs ms := by
          rw [List.take_of_length_le (by rw [List.length_map, List.length_map, List.length_zip, tp.1]; exact Nat.min_le_left _ _)]
          rfl
        rw [e2]
        have s06 := s04.trans s5
        refine ⟨_, rfl, _, rfl, c, ms, rfl, s06.seq hC, _, _, rfl, rfl, mul_big (by omega) (by omega), _, rfl, _, _, rfl, rfl, ?_⟩
        exact q H5 s06
/-! ### predicted_response -/
structure TxtP (K : PySem.W.Frag) (mg : Str → Option Value) (fAB fCP : Addr) (fdAB fdCP : FuncData) : Prop where
  S : TxtS K mg fAB fCP fdAB fdCP
  abs : mg "abs" = none
  SR : HasD K mg "scaled_response" sSR ["pure", "binary", "mixture"]
  LT : HasD K mg "lowest_terms" sLT ["numerator", "denominator"]
def spPR (K : PySem.W.Frag) : Sp := fun vs H Q _ => ∃ (a b c : Addr) (ps bs ms : List Int), vs = [.ref a, .ref b, .ref c] ∧ SqL K H a (ps.map V.int) ∧ SqL K H b (bs.map V.int) ∧ SqL K H c (ms.map V.int) ∧
  Mx.respOk ps bs = true ∧ ms.length = ps.length ∧ Mx.okAll 0 100000000 ms = true ∧ 0 < ms.sum ∧
  ∀ H' r, Same H H' → H r = none → H' r = some (.lst ((Mx.duo (Mx.resp ps bs ms)).map V.int)) → Q (.ref r) H'
theorem scPR : FnScope ["pure", "binary", "mixture", "total"] ["pure", "binary", "mixture"] (defScope sPR) := ⟨rfl, rfl, rfl, by decide +kernel, rfl, by decide +kernel, by decide +kernel⟩
theorem ok_pr {P : Program} {w : World} {K : PySem.W.Frag} {mg : Str → Option Value} {base : Heap} {fAB fCP f : Addr} {fdAB fdCP fd : FuncData} (F : Fun K "predicted_response" "predicted_response" sPR f fd)
    (T : TxtP K mg fAB fCP fdAB fdCP) : FnOk P w K mg base CX0 4 f fd ["pure", "binary", "mixture"] (spPR K) := by
  obtain ⟨fSR, fdSR, FSR, gSR, bSR⟩ := T.SR
  obtain ⟨fLT, fdLT, FLT, gLT, bLT⟩ := T.LT
  have GSR : FnOk P w K mg base CX0 3 fSR fdSR ["pure", "binary", "mixture"] (spSR K) := ok_sr FSR T.S
  have GLT : FnOk P w K mg base CX0 1 fLT fdLT ["numerator", "denominator"] (spLT K) := ok_lt FLT T.abs
  refine F.ok scPR (fun vs H Q E h => ?_) (fun cdv A outer s H vs Q E hr h => ?_)
  · obtain ⟨a, b, c, ps, bs, ms, rfl, _⟩ := h
    rfl
  · obtain ⟨a, b, c, ps, bs, ms, rfl, hA, hB, hC, ok, hm, hm2, hm3, q⟩ := h
    have hr1 : Room 1 _ := hr.mono (by decide)
    obtain ⟨hn, _, _, _⟩ := Mx.respOk_spec ok
    have hT : ms.sum ≤ 1000000000 := by
      have z := sum_most hm2
      omega
    refine ⟨_, pss_cons (ps_set (i := 3) scPR.nd rfl (.inl rfl) (pe_callB (cr_sum rfl) (by rfl) T.S.sum boot_sum (pa_cons (pv 2) pa_nil)))
      (pss_one (ps_ret (pe_call GLT hr1 (by rfl) gLT FLT.kp bLT .nil pass0 (pa_cons (pe_call GSR hr (by rfl) gSR FSR.kp bSR .nil pass0 (pa_cons (pv 0) (pa_cons (pv 1) (pa_cons (pv 2) pa_nil)))) (pa_cons (pe_op op_mul (pv 3) (pv 3)) pa_nil))))), ?_⟩
    refine ⟨_, rfl, c, ms, rfl, hC, ?_⟩
    refine ⟨_, rfl, _, rfl, _, rfl, a, b, c, ps, bs, ms, rfl, hA, hB, hC, ok, hm, hm2, fun H1 s1 => ?_⟩
    refine ⟨_, rfl, _, rfl, _, _, rfl, rfl, mul_big (by omega) (by omega), ?_⟩
    have hpos : 0 < ms.sum * ms.sum := Int.mul_pos hm3 hm3
    have hle : ms.sum * ms.sum ≤ 1000000000 * 1000000000 := Int.mul_le_mul hT hT (by omega) (by decide)
    refine ⟨_, _, rfl, hpos, by omega, fun H2 r s2 nr er => ?_⟩
    rw [Mx.low_is hpos] at er
    exact q H2 r (s1.trans s2) (s1.free nr) er
structure TxtQ (K : PySem.W.Frag) (mg : Str → Option Value) (fAB fCP : Addr) (fdAB fdCP : FuncData) : Prop where
  P : TxtP K mg fAB fCP fdAB fdCP
  oo : ∃ t, mg "OUT_OF_LIMITS" = some (.int (-22) t)
  RW : HasD K mg "responses_within_limits" sRW ["pure", "binary"]
  PR : HasD K mg "predicted_response" sPR ["pure", "binary", "mixture"]
/-! ### combined_parts -/
def spCB (K : PySem.W.Frag) : Sp := fun vs H Q _ => ∃ (c d : Addr) (k m : Int) (fs ss : List Int), vs = [.int k, .int m, .ref c, .ref d] ∧ SqL K H c (fs.map V.int) ∧ SqL K H d (ss.map V.int) ∧ fs.length = ss.length ∧ fs.length ≤ 4 ∧
  Mx.okAll 0 99 fs = true ∧ Mx.okAll 0 99 ss = true ∧
  ∀ H' r, Same H H' → H r = none → H' r = some (.lst ((Mx.comb k m fs ss).map V.int)) → Q (.ref r) H'
theorem scCB : FnScope ["k", "m", "first", "second", "first_sum", "second_sum", "combined", "first_parts", "second_parts"] ["k", "m", "first", "second"] (defScope sCB) := ⟨rfl, rfl, rfl, by decide +kernel, rfl, by decide +kernel, by decide +kernel⟩
theorem comb_get {k m : Int} {fs ss : List Int} {i : Nat} {x y : Int} (h1 : fs[i]? = some x) (h2 : ss[i]? = some y) : (Mx.comb k m fs ss)[i]? = some (Mx.combAt k m fs.sum ss.sum (x, y)) := by
  unfold Mx.comb
  have e : (fs.zip ss)[i]? = some (x, y) := List.getElem?_zip_eq_some.mpr ⟨h1, h2⟩
  rw [List.getElem?_map, e]
  rfl
theorem ok_cb {P : Program} {w : World} {K : PySem.W.Frag} {mg : Str → Option Value} {base : Heap} {f : Addr} {fd : FuncData} {lv : Nat} (F : Fun K "combined_parts" "combined_parts" sCB f fd) (mz : mg "zip" = none) (msum : mg "sum" = none) :
    FnOk P w K mg base CX0 (lv + 1) f fd ["k", "m", "first", "second"] (spCB K) := by
  refine F.ok scCB (fun vs H Q E h => ?_) (fun cdv A outer s H vs Q E hr h => ?_)
  · obtain ⟨c, d, k, m, fs, ss, rfl, _⟩ := h
    rfl
  · obtain ⟨c, d, k, m, fs, ss, rfl, hC, hD, hl, h4, o1, o2, q⟩ := h
    refine ⟨_, pss_cons (ps_set (i := 4) scCB.nd rfl (.inl rfl) (pe_callB (cr_sum rfl) (by rfl) msum boot_sum (pa_cons (pv 2) pa_nil)))
      (pss_cons (ps_set (i := 5) scCB.nd rfl (.inl rfl) (pe_callB (cr_sum rfl) (by rfl) msum boot_sum (pa_cons (pv 3) pa_nil)))
      (pss_cons (ps_set (i := 6) scCB.nd rfl (.inl rfl) (pe_lst pa_nil))
      (pss_cons (ps_for PassesOwn.never rfl (pi_zip (by rfl) mz (pa_cons (pv 2) (pa_cons (pv 3) pa_nil)))
          (pg_tup rfl (pgs_cons (pg_name (i := 7) scCB.nd rfl (.inl rfl)) (pgs_cons (pg_name (i := 8) scCB.nd rfl (.inl rfl)) pgs_nil)))
        (pss_one (ps_expr (pe_bm PySem.F.plainAttrs_list PySem.F.slot_list_append PySem.F.type_list_append mt_append (pv 6) (pa_cons
          (pe_op op_add (pe_op op_mul (pe_op op_mul (pv 0) (pv 7)) (pv 5)) (pe_op op_mul (pe_op op_mul (pv 1) (pv 8)) (pv 4))) pa_nil)))))
      (pss_one (ps_ret (pv 6)))))), ?_⟩
    refine ⟨_, rfl, c, fs, rfl, hC, _, rfl, d, ss, rfl, hD, Nat.zero_le _, fun co nc => ?_⟩
    have s0 : Same H (upd H co (.lst [])) := same_upd nc
    have b1 := sum_most o1
    have b2 := sum_most o2
    have p1 := sum_pos o1
    have p2 := sum_pos o2
    refine ⟨_, rfl, _, rfl, c, d, _, _, rfl, s0.seq hC, s0.seq hD, ?_⟩
    refine RZ.for_zipL (xs := fs.map V.int) (ys := ss.map V.int) (by rw [List.length_map, List.length_map, hl])
      (fun i σ H' => ∃ v7 v8, σ = [some (.int k), some (.int m), some (.ref c), some (.ref d), some (.int fs.sum), some (.int ss.sum), some (.ref co), v7, v8] ∧ Same H H' ∧ H' co = some (.lst (((Mx.comb k m fs ss).take i).map V.int)))
      ⟨none, none, rfl, s0, upd_same⟩ (fun i σ H' h => ?_) ?_ ?_
    · obtain ⟨_, _, _, sm, _⟩ := h
      exact ⟨sm.seq hC, sm.seq hD⟩
    · rintro i x y U σ H2 hx hy ⟨v7, v8, rfl, sm, eco⟩ nU
      obtain ⟨x, hx1, rfl⟩ := map_at hx
      obtain ⟨y, hy1, rfl⟩ := map_at hy
      have bx := all_mem o1 (List.mem_of_getElem? hx1)
      have by_ := all_mem o2 (List.mem_of_getElem? hy1)
      have hi := lt_of_at hx1
      have sU : Same H2 (upd H2 U (.tup [.int x, .int y])) := same_upd nU
      refine ⟨U, _, rfl, .inl (.inl upd_same), rfl, _, _, rfl, _, _, rfl, rfl, ?_⟩
      refine ⟨_, rfl, .inl ⟨rfl, _, .inl (.inl (sU _ _ eco))⟩, ?_⟩
      refine ⟨_, rfl, _, rfl, _, _, rfl, rfl, mul_big (by omega) (by omega), _, rfl, _, _, rfl, rfl, mul_big (by omega) (by omega), ?_⟩
      refine ⟨_, rfl, _, rfl, _, _, rfl, rfl, mul_big (by omega) (by omega), _, rfl, _, _, rfl, rfl, mul_big (by omega) (by omega), _, _, rfl, rfl, ?_⟩
      refine ⟨co, _, _, rfl, rfl, sU _ _ eco, ?_, some (.int x), some (.int y), rfl, same_chg (sm.trans sU) nc, ?_⟩
      · rw [List.length_map, List.length_take]
        exact Nat.lt_of_le_of_lt (Nat.min_le_left _ _) (small1000 (by omega))
      · rw [upd_same, take_snoc (comb_get hx1 hy1), List.map_append]
        rfl
    · rintro σ H2 ⟨v7, v8, rfl, sm, eco⟩
      rw [List.length_map, ← Mx.comb_len (k := k) (m := m) hl, List.take_length] at eco
      exact ⟨_, rfl, q H2 co sm nc eco⟩
/-! ### weighted_mean -/
def spWM (K : PySem.W.Frag) : Sp := fun vs H Q _ => ∃ (c d : Addr) (k m : Int) (r t : Ks604.Rational), vs = [.int k, .int m, .ref c, .ref d] ∧ SqL K H c ((Mx.duo r).map V.int) ∧ SqL K H d ((Mx.duo t).map V.int) ∧
  1 ≤ k ∧ k ≤ 99 ∧ 1 ≤ m ∧ m ≤ 99 ∧ 0 < r.den ∧ r.den ≤ 1000000 ∧ 0 < t.den ∧ t.den ≤ 1000000 ∧
  ∀ H' u, Same H H' → H u = none → H' u = some (.lst ((Mx.duo (Mx.meanOf k m r t)).map V.int)) → Q (.ref u) H'
theorem scWM : FnScope ["k", "m", "first", "second", "numerator"] ["k", "m", "first", "second"] (defScope sWM) := ⟨rfl, rfl, rfl, by decide +kernel, rfl, by decide +kernel, by decide +kernel⟩
theorem ok_wm {P : Program} {w : World} {K : PySem.W.Frag} {mg : Str → Option Value} {base : Heap} {f : Addr} {fd : FuncData} (F : Fun K "weighted_mean" "weighted_mean" sWM f fd) (ma : mg "abs" = none) (LT : HasD K mg "lowest_terms" sLT ["numerator", "denominator"]) :
    FnOk P w K mg base CX0 2 f fd ["k", "m", "first", "second"] (spWM K) := by
  obtain ⟨fLT, fdLT, FLT, gLT, bLT⟩ := LT
  have GLT : FnOk P w K mg base CX0 1 fLT fdLT ["numerator", "denominator"] (spLT K) := ok_lt FLT ma
  refine F.ok scWM (fun vs H Q E h => ?_) (fun cdv A outer s H vs Q E hr h => ?_)
  · obtain ⟨c, d, k, m, r, t, rfl, _⟩ := h
    rfl
  · obtain ⟨c, d, k, m, r, t, rfl, hC, hD, k1, k2, m1, m2, r1, r2, t1, t2, q⟩ := h
    refine ⟨_, pss_cons (ps_set (i := 4) scWM.nd rfl (.inl rfl) (pe_op op_add
        (pe_op op_mul (pe_op op_mul (pv 0) (pe_ix ix_list (pv 2) pe_int (fun _ _ => rfl))) (pe_ix ix_list (pv 3) pe_int (fun _ _ => rfl)))
        (pe_op op_mul (pe_op op_mul (pv 1) (pe_ix ix_list (pv 3) pe_int (fun _ _ => rfl))) (pe_ix ix_list (pv 2) pe_int (fun _ _ => rfl)))))
      (pss_one (ps_ret (pe_call GLT hr (by rfl) gLT FLT.kp bLT .nil pass0 (pa_cons (pv 4) (pa_cons
        (pe_op op_mul (pe_op op_mul (pe_op op_add (pv 0) (pv 1)) (pe_ix ix_list (pv 2) pe_int (fun _ _ => rfl))) (pe_ix ix_list (pv 3) pe_int (fun _ _ => rfl))) pa_nil))))), ?_⟩
    have pos : 0 < (k + m) * (r.den : Int) * (t.den : Int) := Int.mul_pos (Int.mul_pos (by omega) (by omega)) (by omega)
    have big : (k + m) * (r.den : Int) * (t.den : Int) ≤ 198 * 1000000 * 1000000 := Int.mul_le_mul (Int.mul_le_mul (by omega) (by omega) (by omega) (by decide)) (by omega) (by omega) (by decide)
    refine ⟨_, rfl, _, rfl, c, _, 0, _, rfl, rfl, hC, atI_nat (j := 0) rfl, _, _, rfl, rfl, .inl ⟨by omega, by omega⟩, ?_⟩
    refine ⟨_, rfl, d, _, 1, _, rfl, rfl, hD, atI_nat (j := 1) rfl, _, _, rfl, rfl, mul_big (by omega) (by omega), ?_⟩
    refine ⟨_, rfl, _, rfl, d, _, 0, _, rfl, rfl, hD, atI_nat (j := 0) rfl, _, _, rfl, rfl, .inl ⟨by omega, by omega⟩, ?_⟩
    refine ⟨_, rfl, c, _, 1, _, rfl, rfl, hC, atI_nat (j := 1) rfl, _, _, rfl, rfl, mul_big (by omega) (by omega), _, _, rfl, rfl, ?_⟩
    refine ⟨_, rfl, _, rfl, _, rfl, _, _, rfl, rfl, _, rfl, c, _, 1, _, rfl, rfl, hC, atI_nat (j := 1) rfl, _, _, rfl, rfl, mul_big (by omega) (by omega), ?_⟩
    refine ⟨_, rfl, d, _, 1, _, rfl, rfl, hD, atI_nat (j := 1) rfl, _, _, rfl, rfl, mul_big (by omega) (by omega), ?_⟩
    refine ⟨_, _, rfl, pos, by omega, fun H1 u s1 nu eu => ?_⟩
    rw [Mx.low_is pos] at eu
    exact q H1 u s1 nu eu
/-! ### predict_combination -/
def spPC (K : PySem.W.Frag) : Sp := fun vs H Q _ => ∃ (a b c d : Addr) (k m : Int) (ps bs fs ss : List Int), vs = [.int k, .int m, .ref a, .ref b, .ref c, .ref d] ∧ SqL K H a (ps.map V.int) ∧ SqL K H b (bs.map V.int) ∧ SqL K H c (fs.map V.int) ∧ SqL K H d (ss.map V.int) ∧
  ps.length ≤ 1000 ∧ bs.length ≤ 1000 ∧ fs.length ≤ 1000 ∧ ss.length ≤ 1000 ∧ 0 ≤ k ∧ 0 ≤ m ∧ (∀ z ∈ fs, 0 ≤ z) ∧ (∀ z ∈ ss, 0 ≤ z) ∧
  ∀ H' r, H' r = some (.lst ((PyKs608.predict_combination k m ps bs fs ss).map V.int)) → Q (.ref r) H'
theorem scPC : FnScope ["k", "m", "pure", "binary", "first", "second", "mixture", "response", "first_response", "second_response"] ["k", "m", "pure", "binary", "first", "second"] (defScope sPC) := ⟨rfl, rfl, rfl, by decide +kernel, rfl, by decide +kernel, by decide +kernel⟩
theorem den_le {a : Int} {b : Nat} (hb : 0 < b) : (Ks604.Rational.make a b).den ≤ b := by
  rw [Mx.make_pos hb]
  exact Nat.div_le_self _ _
theorem resp_den {ps bs ms : List Int} (h : Mx.okAll 0 99 ms = true) (hl : ms.length ≤ 4) (hs : 0 < ms.sum) : 0 < (Mx.resp ps bs ms).den ∧ (Mx.resp ps bs ms).den ≤ 1000000 := by
  have b := sum_most h
  have e : 0 < ms.sum * ms.sum := Int.mul_pos hs hs
  have l : ms.sum * ms.sum ≤ 396 * 396 := Int.mul_le_mul (by omega) (by omega) (by omega) (by decide)
  refine ⟨Mx.make_den (by omega), Nat.le_trans (den_le (by omega)) ?_⟩
  omega
theorem comb_ok {k m : Int} {fs ss : List Int} (k1 : 1 ≤ k) (k2 : k ≤ 99) (m1 : 1 ≤ m) (m2 : m ≤ 99) (hf : Mx.okAll 0 99 fs = true) (hs : Mx.okAll 0 99 ss = true) (lf : fs.length ≤ 4) (ls : ss.length ≤ 4) : Mx.okAll 0 100000000 (Mx.comb k m fs ss) = true := by
  unfold Mx.okAll
  refine List.all_eq_true.mpr fun z hz => ?_
  unfold Mx.comb at hz
  obtain ⟨⟨x, y⟩, hq, rfl⟩ := List.mem_map.mp hz
  have hx := all_mem hf (List.of_mem_zip hq).1
  have hy := all_mem hs (List.of_mem_zip hq).2
  have bf := sum_most hf
  have bs := sum_most hs
  have pf := sum_pos hf
  have ps := sum_pos hs
  rw [Bool.and_eq_true, decide_eq_true_eq, decide_eq_true_eq]
  unfold Mx.combAt
  show 0 ≤ k * x * ss.sum + m * y * fs.sum ∧ k * x * ss.sum + m * y * fs.sum ≤ 100000000
  have q1 : 0 ≤ k * x * ss.sum := Int.mul_nonneg (Int.mul_nonneg (by omega) hx.1) ps
  have q2 : 0 ≤ m * y * fs.sum := Int.mul_nonneg (Int.mul_nonneg (by omega) hy.1) pf
  have q3 : k * x * ss.sum ≤ 99 * 99 * 396 := Int.mul_le_mul (Int.mul_le_mul k2 hx.2 hx.1 (by decide)) (by omega) ps (by decide)
  have q4 : m * y * fs.sum ≤ 99 * 99 * 396 := Int.mul_le_mul (Int.mul_le_mul m2 hy.2 hy.1 (by decide)) (by omega) pf (by decide)
  omega
theorem ok_pc {P : Program} {w : World} {K : PySem.W.Frag} {mg : Str → Option Value} {base : Heap} {fAB fCP f : Addr} {fdAB fdCP fd : FuncData} (F : Fun K "predict_combination" "predict_combination" sPC f fd)
    (T : TxtQ K mg fAB fCP fdAB fdCP) (MW : HasD K mg "mixture_within_limits" sMW ["mixture", "component_count"]) (CB : HasD K mg "combined_parts" sCB ["k", "m", "first", "second"]) (WM : HasD K mg "weighted_mean" sWM ["k", "m", "first", "second"])
    (mp : ∃ t, mg "MOST_PARTS" = some (.int 99 t)) (lp : ∃ t, mg "LARGEST_PROPORTION" = some (.int 99 t)) :
    FnOk P w K mg base CX0 5 f fd ["k", "m", "pure", "binary", "first", "second"] (spPC K) := by
  obtain ⟨fRW, fdRW, FRW, gRW, bRW⟩ := T.RW
  obtain ⟨fPR, fdPR, FPR, gPR, bPR⟩ := T.PR
  obtain ⟨fMW, fdMW, FMW, gMW, bMW⟩ := MW
  obtain ⟨fCB, fdCB, FCB, gCB, bCB⟩ := CB
  obtain ⟨fWM, fdWM, FWM, gWM, bWM⟩ := WM
  have R := T.P.S.R
  have GRW : FnOk P w K mg base CX0 2 fRW fdRW ["pure", "binary"] (spRW K) := ok_rw FRW R
  have GAB : FnOk P w K mg base CX0 1 fAB fdAB ["numbers", "low", "high"] (spAB K) := ok_ab R.FAB R.all
  have GMW : FnOk P w K mg base CX0 2 fMW fdMW ["mixture", "component_count"] (spMW K) := ok_mw FMW ⟨R.all, R.len, T.P.S.sum, mp, R.FAB, R.gAB, R.bAB⟩
  have GPR : FnOk P w K mg base CX0 4 fPR fdPR ["pure", "binary", "mixture"] (spPR K) := ok_pr FPR T.P
  have GCB : FnOk P w K mg base CX0 1 fCB fdCB ["k", "m", "first", "second"] (spCB K) := ok_cb FCB T.P.S.zip T.P.S.sum
  have GWM : FnOk P w K mg base CX0 2 fWM fdWM ["k", "m", "first", "second"] (spWM K) := ok_wm FWM T.P.abs T.P.LT
  obtain ⟨t1, gOO⟩ := T.oo
  obtain ⟨t2, gLP⟩ := lp
  refine F.ok scPC (fun vs H Q E h => ?_) (fun cdv A outer s H vs Q E hr h => ?_)
  · obtain ⟨a, b, c, d, k, m, ps, bs, fs, ss, rfl, _⟩ := h
    rfl
  · obtain ⟨a, b, c, d, k, m, ps, bs, fs, ss, rfl, hA, hB, hC, hD, lA, lB, lC, lD, k0, m0, f0, s0, q⟩ := h
    have hr2 : Room 2 _ := hr.mono (by decide)
    have hr1 : Room 1 _ := hr.mono (by decide)
    refine ⟨_, pss_cons (ps_if (pt_not (pt_val (pe_call GRW hr2 (by rfl) gRW FRW.kp bRW .nil pass0 (pa_cons (pv 2) (pa_cons (pv 3) pa_nil))))) (pss_one (ps_ret (pe_lst (pa_cons (pe_num rfl gOO) pa_nil)))) pss_nil)
      (pss_cons (ps_if (pt_not (pt_val (pe_call GAB hr1 (by rfl) R.gAB R.FAB.kp R.bAB .nil pass0 (pa_cons (pe_lst (pa_cons (pv 0) (pa_cons (pv 1) pa_nil))) (pa_cons pe_int (pa_cons (pe_num rfl gLP) pa_nil)))))) (pss_one (ps_ret (pe_lst (pa_cons (pe_num rfl gOO) pa_nil)))) pss_nil)
      (pss_cons (ps_for PassesOwn.never rfl (pi_tup (pe_tup (pa_cons (pv 4) (pa_cons (pv 5) pa_nil)))) (pg_name (i := 6) scPC.nd rfl (.inl rfl))
        (pss_one (ps_if (pt_not (pt_val (pe_call GMW hr2 (by rfl) gMW FMW.kp bMW .nil pass0 (pa_cons (pv 6) (pa_cons (pe_callB call_len_seq (by rfl) R.len PySem.boot_len (pa_cons (pv 2) pa_nil)) pa_nil))))) (pss_one (ps_ret (pe_lst (pa_cons (pe_num rfl gOO) pa_nil)))) pss_nil)))
      (pss_cons (ps_set (i := 7) scPC.nd rfl (.inl rfl) (pe_call GPR hr (by rfl) gPR FPR.kp bPR .nil pass0 (pa_cons (pv 2) (pa_cons (pv 3) (pa_cons
          (pe_call GCB hr1 (by rfl) gCB FCB.kp bCB .nil pass0 (pa_cons (pv 0) (pa_cons (pv 1) (pa_cons (pv 4) (pa_cons (pv 5) pa_nil))))) pa_nil)))))
      (pss_cons (ps_set (i := 8) scPC.nd rfl (.inl rfl) (pe_call GPR hr (by rfl) gPR FPR.kp bPR .nil pass0 (pa_cons (pv 2) (pa_cons (pv 3) (pa_cons (pv 4) pa_nil)))))
      (pss_cons (ps_set (i := 9) scPC.nd rfl (.inl rfl) (pe_call GPR hr (by rfl) gPR FPR.kp bPR .nil pass0 (pa_cons (pv 2) (pa_cons (pv 3) (pa_cons (pv 5) pa_nil)))))
      (pss_one (ps_ret (pe_op op_cat (pe_op op_cat (pe_lst (pa_cons pe_int pa_nil)) (pv 7))
        (pe_call GWM hr2 (by rfl) gWM FWM.kp bWM .nil pass0 (pa_cons (pv 0) (pa_cons (pv 1) (pa_cons (pv 8) (pa_cons (pv 9) pa_nil)))))))))))))  , ?_⟩
    have due := Mx.due_comb k m ps bs fs ss k0 m0 f0 s0
    refine ⟨_, rfl, _, rfl, a, b, ps, bs, rfl, hA, hB, lA, lB, fun H1 s1 => ⟨_, rfl, ?_⟩⟩
    cases ok : Mx.respOk ps bs with
    | false =>
      refine ⟨(by show 1 ≤ sizeLine; decide), fun r nr => q _ r ?_⟩
      rw [ok, if_neg Bool.false_ne_true] at due
      rw [upd_same, due]
      rfl
    | true =>
      rw [ok, if_pos rfl] at due
      obtain ⟨hn, _, _, _⟩ := Mx.respOk_spec ok
      have no : (Mx.okAll 1 99 [k, m] && (Mx.mixOk fs ps.length && Mx.mixOk ss ps.length)) = false → ∀ H', 1 ≤ sizeLine ∧ ∀ r, H' r = none → Q (.ref r) (upd H' r (.lst [.int (-22)])) := fun c H' => by
        refine ⟨(by show 1 ≤ sizeLine; decide), fun r nr => q _ r ?_⟩
        rw [c, if_neg Bool.false_ne_true] at due
        rw [upd_same, due]
        rfl
      refine ⟨_, rfl, _, rfl, (by show 2 ≤ sizeLine; decide), fun L nL => ?_⟩
      have sL := s1.trans (same_upd (o := .lst [.int k, .int m]) nL)
      refine ⟨L, [k, m], 1, 99, rfl, .inl (.inl upd_same), (by show 2 ≤ 1000; decide), fun H2 s2 => ⟨_, rfl, ?_⟩⟩
      have s02 := sL.trans s2
      cases okk : Mx.okAll 1 99 [k, m] with
      | false => exact no (by rw [okk, Bool.false_and]) H2
      | true =>
        have kb := all_mem okk (z := k) (by simp)
        have mb := all_mem okk (z := m) (by simp)
        rw [okk, Bool.true_and] at due no
        -- for mixture in (first, second)
        refine ⟨_, rfl, _, rfl, (by show 2 ≤ sizeLine; decide), fun t nt => ?_⟩
        have st := s02.trans (same_upd (o := .tup [.ref c, .ref d]) nt)
        refine ⟨t, rfl, ⟨_, .inl (.inl upd_same)⟩, for_tup (K := K) (a := t) (xs := [.ref c, .ref d])
          (fun i σ H' => ∃ v6, σ = [some (.int k), some (.int m), some (.ref a), some (.ref b), some (.ref c), some (.ref d), v6, none, none, none] ∧ Same H H' ∧ H' t = some (.tup [.ref c, .ref d]) ∧ (1 ≤ i → Mx.mixOk fs ps.length = true) ∧ (2 ≤ i → Mx.mixOk ss ps.length = true))
          ⟨none, rfl, st, upd_same, fun h => absurd h (by decide), fun h => absurd h (by decide)⟩ (fun i σ H' _ h => ?_) ?_ ?_⟩
        · obtain ⟨_, _, _, e, _⟩ := h
          exact .inl (.inl e)
        · rintro i x σ H3 hx ⟨v6, rfl, s3, et, p1, p2⟩
          match i, hx, p1, p2 with
          | 0, hx, _, _ =>
            have ex : V.ref c = x := Option.some.inj hx
            subst ex
            refine ⟨_, rfl, _, rfl, a, _, rfl, .inl (s3.seq hA), c, fs, ps.length, by rw [List.length_map]; rfl, s3.seq hC, lC, fun H4 s4 => ⟨_, rfl, ?_⟩⟩
            cases okf : Mx.mixOk fs ps.length with
            | false => exact no (by rw [okf, Bool.false_and]) H4
            | true => exact ⟨_, rfl, s3.trans s4, s4 _ _ et, fun _ => rfl, fun h => absurd h (by decide)⟩
          | 1, hx, p1, _ =>
            have ex : V.ref d = x := Option.some.inj hx
            subst ex
            have okf := p1 (by decide)
            refine ⟨_, rfl, _, rfl, a, _, rfl, .inl (s3.seq hA), d, ss, ps.length, by rw [List.length_map]; rfl, s3.seq hD, lD, fun H4 s4 => ⟨_, rfl, ?_⟩⟩
            cases oks : Mx.mixOk ss ps.length with
            | false => exact no (by rw [oks, Bool.and_false]) H4
            | true => exact ⟨_, rfl, s3.trans s4, s4 _ _ et, fun _ => okf, fun _ => rfl⟩
          | j + 2, hx, _, _ => simp at hx
        · rintro σ H3 ⟨v6, rfl, s3, et, p1, p2⟩
          have okf := p1 (show 1 ≤ 2 by decide)
          have oks := p2 (show 2 ≤ 2 by decide)
          rw [okf, oks, Bool.true_and, if_pos rfl] at due
          obtain ⟨f1, f2, f3⟩ := Mx.mixOk_spec okf
          obtain ⟨e1, e2, e3⟩ := Mx.mixOk_spec oks
          have hl : fs.length = ss.length := by omega
          -- response
          refine ⟨_, rfl, _, rfl, _, rfl, _, rfl, _, rfl, _, rfl, c, d, k, m, fs, ss, rfl, s3.seq hC, s3.seq hD, hl, by omega, f2, e2, fun H4 u s4 nu eu => ?_⟩
          have s04 := s3.trans s4
          have cpos : 0 < (Mx.comb k m fs ss).sum := by
            rw [Mx.comb_sum hl]
            exact Int.mul_pos (Int.mul_pos f3 e3) (by omega)
          refine ⟨a, b, u, ps, bs, _, rfl, s04.seq hA, s04.seq hB, .inl (.inl eu), ok, by rw [Mx.comb_len hl]; exact f1, comb_ok kb.1 kb.2 mb.1 mb.2 f2 e2 (by omega) (by omega), cpos, fun H5 r5 s5 nr5 er5 => ?_⟩
          have s05 := s04.trans s5
          -- first_response, second_response
          refine ⟨_, rfl, _, rfl, _, rfl, a, b, c, ps, bs, fs, rfl, s05.seq hA, s05.seq hB, s05.seq hC, ok, f1, all_more f2 (by decide), f3, fun H6 r6 s6 nr6 er6 => ?_⟩
          have s06 := s05.trans s6
          refine ⟨_, rfl, _, rfl, _, rfl, a, b, d, ps, bs, ss, rfl, s06.seq hA, s06.seq hB, s06.seq hD, ok, e1, all_more e2 (by decide), e3, fun H7 r7 s7 nr7 er7 => ?_⟩
          have er57 := s7 _ _ (s6 _ _ er5)
          have er67 := s7 _ _ er6
          -- [0] + response + weighted_mean(..)
          refine ⟨(by show 1 ≤ sizeLine; decide), fun z nz => ?_⟩
          have sz : Same H7 (upd H7 z (.lst [.int 0])) := same_upd nz
          refine ⟨_, rfl, z, r5, _, _, rfl, rfl, upd_same, sz _ _ er57, (by show 1 + 2 ≤ sizeLine; decide), fun y ny => ?_⟩
          have sy := sz.trans (same_upd (o := .lst ([.int 0] ++ (Mx.duo (Mx.resp ps bs (Mx.comb k m fs ss))).map V.int)) ny)
          have d1 := resp_den (ps := ps) (bs := bs) f2 (by omega) f3
          have d2 := resp_den (ps := ps) (bs := bs) e2 (by omega) e3
          refine ⟨_, rfl, _, rfl, _, rfl, _, rfl, r6, r7, k, m, _, _, rfl, .inl (.inl (sy _ _ er67)), .inl (.inl (sy _ _ er7)), kb.1, kb.2, mb.1, mb.2, d1.1, d1.2, d2.1, d2.2, fun H8 w8 s8 nw8 ew8 => ?_⟩
          refine ⟨y, w8, _, _, rfl, rfl, s8 _ _ upd_same, ew8, (by show 3 + 2 ≤ sizeLine; decide), fun v nv => q _ v ?_⟩
          rw [upd_same, due]
          unfold Mx.combDue
          rw [List.map_cons, List.map_append]
          rfl
/-! ### the end: what the top has written -/
theorem all_mk {P : Program} {w : World} {K : PySem.W.Frag} {h : Heap} {mg : Str → Option Value} {fa f1 f2 f3 f4 f5 f6 f7 f8 f9 f10 f11 : Addr} (X : K.In h) (G : h.Ns mainGlobals mg) (hfa : mg "predict_combination" = some (.ref fa))
    {od1 an1 od2 an2 od3 an3 od4 an4 od5 an5 od6 an6 od7 an7 od8 an8 od9 an9 od10 an10 od11 an11 : Option Addr} {sl1 sl2 sl3 sl4 sl5 sl6 sl7 sl8 sl9 sl10 sl11 : Array (Option Value)} {oc1 kV1 dc1 pm1 cd1 ct1 oc2 kV2 dc2 pm2 cd2 ct2 oc3 kV3 dc3 pm3 cd3 ct3 oc4 kV4 dc4 pm4 cd4 ct4 oc5 kV5 dc5 pm5 cd5 ct5 oc6 kV6 dc6 pm6 cd6 ct6 oc7 kV7 dc7 pm7 cd7 ct7 oc8 kV8 dc8 pm8 cd8 ct8 oc9 kV9 dc9 pm9 cd9 ct9 oc10 kV10 dc10 pm10 cd10 ct10 oc11 kV11 dc11 pm11 cd11 ct11 : Value} {t1 t2 t3 t4 t5 : Tok}
    (a1 : PySem.W.nsIn K mainGlobals "all_between" = some (some (.ref f1))) (l1 : K.lookup f1 = some ⟨oc1, od1, .func (PySem.W.fnOf "all_between" "all_between" (defArgs sAB) (defBody sAB) (defScope sAB) .none kV1 dc1 pm1 an1 cd1 ct1), sl1⟩) (c1 : PySem.W.codeIn K cd1 "all_between" = true) (k1 : PySem.W.keepIn K (.ref f1) = true)
    (a2 : PySem.W.nsIn K mainGlobals "component_pairs" = some (some (.ref f2))) (l2 : K.lookup f2 = some ⟨oc2, od2, .func (PySem.W.fnOf "component_pairs" "component_pairs" (defArgs sCP) (defBody sCP) (defScope sCP) .none kV2 dc2 pm2 an2 cd2 ct2), sl2⟩) (c2 : PySem.W.codeIn K cd2 "component_pairs" = true) (k2 : PySem.W.keepIn K (.ref f2) = true)
    (a3 : PySem.W.nsIn K mainGlobals "responses_within_limits" = some (some (.ref f3))) (l3 : K.lookup f3 = some ⟨oc3, od3, .func (PySem.W.fnOf "responses_within_limits" "responses_within_limits" (defArgs sRW) (defBody sRW) (defScope sRW) .none kV3 dc3 pm3 an3 cd3 ct3), sl3⟩) (c3 : PySem.W.codeIn K cd3 "responses_within_limits" = true) (k3 : PySem.W.keepIn K (.ref f3) = true)
    (a4 : PySem.W.nsIn K mainGlobals "mixture_within_limits" = some (some (.ref f4))) (l4 : K.lookup f4 = some ⟨oc4, od4, .func (PySem.W.fnOf "mixture_within_limits" "mixture_within_limits" (defArgs sMW) (defBody sMW) (defScope sMW) .none kV4 dc4 pm4 an4 cd4 ct4), sl4⟩) (c4 : PySem.W.codeIn K cd4 "mixture_within_limits" = true) (k4 : PySem.W.keepIn K (.ref f4) = true)
    (a5 : PySem.W.nsIn K mainGlobals "lowest_terms" = some (some (.ref f5))) (l5 : K.lookup f5 = some ⟨oc5, od5, .func (PySem.W.fnOf "lowest_terms" "lowest_terms" (defArgs sLT) (defBody sLT) (defScope sLT) .none kV5 dc5 pm5 an5 cd5 ct5), sl5⟩) (c5 : PySem.W.codeIn K cd5 "lowest_terms" = true) (k5 : PySem.W.keepIn K (.ref f5) = true)
    (a6 : PySem.W.nsIn K mainGlobals "pair_interactions" = some (some (.ref f6))) (l6 : K.lookup f6 = some ⟨oc6, od6, .func (PySem.W.fnOf "pair_interactions" "pair_interactions" (defArgs sPI) (defBody sPI) (defScope sPI) .none kV6 dc6 pm6 an6 cd6 ct6), sl6⟩) (c6 : PySem.W.codeIn K cd6 "pair_interactions" = true) (k6 : PySem.W.keepIn K (.ref f6) = true)
    (a7 : PySem.W.nsIn K mainGlobals "scaled_response" = some (some (.ref f7))) (l7 : K.lookup f7 = some ⟨oc7, od7, .func (PySem.W.fnOf "scaled_response" "scaled_response" (defArgs sSR) (defBody sSR) (defScope sSR) .none kV7 dc7 pm7 an7 cd7 ct7), sl7⟩) (c7 : PySem.W.codeIn K cd7 "scaled_response" = true) (k7 : PySem.W.keepIn K (.ref f7) = true)
    (a8 : PySem.W.nsIn K mainGlobals "predicted_response" = some (some (.ref f8))) (l8 : K.lookup f8 = some ⟨oc8, od8, .func (PySem.W.fnOf "predicted_response" "predicted_response" (defArgs sPR) (defBody sPR) (defScope sPR) .none kV8 dc8 pm8 an8 cd8 ct8), sl8⟩) (c8 : PySem.W.codeIn K cd8 "predicted_response" = true) (k8 : PySem.W.keepIn K (.ref f8) = true)
    (a9 : PySem.W.nsIn K mainGlobals "combined_parts" = some (some (.ref f9))) (l9 : K.lookup f9 = some ⟨oc9, od9, .func (PySem.W.fnOf "combined_parts" "combined_parts" (defArgs sCB) (defBody sCB) (defScope sCB) .none kV9 dc9 pm9 an9 cd9 ct9), sl9⟩) (c9 : PySem.W.codeIn K cd9 "combined_parts" = true) (k9 : PySem.W.keepIn K (.ref f9) = true)
    (a10 : PySem.W.nsIn K mainGlobals "weighted_mean" = some (some (.ref f10))) (l10 : K.lookup f10 = some ⟨oc10, od10, .func (PySem.W.fnOf "weighted_mean" "weighted_mean" (defArgs sWM) (defBody sWM) (defScope sWM) .none kV10 dc10 pm10 an10 cd10 ct10), sl10⟩) (c10 : PySem.W.codeIn K cd10 "weighted_mean" = true) (k10 : PySem.W.keepIn K (.ref f10) = true)
    (a11 : PySem.W.nsIn K mainGlobals "predict_combination" = some (some (.ref f11))) (l11 : K.lookup f11 = some ⟨oc11, od11, .func (PySem.W.fnOf "predict_combination" "predict_combination" (defArgs sPC) (defBody sPC) (defScope sPC) .none kV11 dc11 pm11 an11 cd11 ct11), sl11⟩) (c11 : PySem.W.codeIn K cd11 "predict_combination" = true) (k11 : PySem.W.keepIn K (.ref f11) = true)
    (m1 : PySem.W.nsIn K mainGlobals "OUT_OF_LIMITS" = some (some (.int (-22) t1)))
    (m2 : PySem.W.nsIn K mainGlobals "MOST_COMPONENTS" = some (some (.int 4 t2)))
    (m3 : PySem.W.nsIn K mainGlobals "LARGEST_RESPONSE" = some (some (.int 999 t3)))
    (m4 : PySem.W.nsIn K mainGlobals "MOST_PARTS" = some (some (.int 99 t4)))
    (m5 : PySem.W.nsIn K mainGlobals "LARGEST_PROPORTION" = some (some (.int 99 t5)))
    (z1 : PySem.W.nsIn K mainGlobals "all" = some none) (z2 : PySem.W.nsIn K mainGlobals "len" = some none) (z3 : PySem.W.nsIn K mainGlobals "range" = some none) (z4 : PySem.W.nsIn K mainGlobals "zip" = some none) (z5 : PySem.W.nsIn K mainGlobals "sum" = some none) (z6 : PySem.W.nsIn K mainGlobals "abs" = some none) :
    ∃ fd : FuncData, (∀ (s : Shared) (us : List Value), us.length = (["k", "m", "pure", "binary", "first", "second"] : List Str).length → BindsTo s fd ⟨us, []⟩ ((["k", "m", "pure", "binary", "first", "second"] : List Str).zip us)) ∧ ∀ base : Heap, K.In base → base.Ns mainGlobals mg → FnOk P w K mg base CX0 5 fa fd ["k", "m", "pure", "binary", "first", "second"] (spPC K) := by
  have e := hfa.symm.trans (PySem.W.mg_of X G a11)
  cases e
  have F_all_between := fun_mk (st := sAB) l1 c1 k1
  have b_all_between := F_all_between.binds (ps := ["numbers", "low", "high"]) fun _ _ _ _ _ _ us hl => match us, hl with | [_, _, _], _ => rfl
  have h_all_between := PySem.W.mg_of X G a1
  have F_component_pairs := fun_mk (st := sCP) l2 c2 k2
  have b_component_pairs := F_component_pairs.binds (ps := ["component_count"]) fun _ _ _ _ _ _ us hl => match us, hl with | [_], _ => rfl
  have h_component_pairs := PySem.W.mg_of X G a2
  have F_responses_within_limits := fun_mk (st := sRW) l3 c3 k3
  have b_responses_within_limits := F_responses_within_limits.binds (ps := ["pure", "binary"]) fun _ _ _ _ _ _ us hl => match us, hl with | [_, _], _ => rfl
  have h_responses_within_limits := PySem.W.mg_of X G a3
  have F_mixture_within_limits := fun_mk (st := sMW) l4 c4 k4
  have b_mixture_within_limits := F_mixture_within_limits.binds (ps := ["mixture", "component_count"]) fun _ _ _ _ _ _ us hl => match us, hl with | [_, _], _ => rfl
  have h_mixture_within_limits := PySem.W.mg_of X G a4
  have F_lowest_terms := fun_mk (st := sLT) l5 c5 k5
  have b_lowest_terms := F_lowest_terms.binds (ps := ["numerator", "denominator"]) fun _ _ _ _ _ _ us hl => match us, hl with | [_, _], _ => rfl
  have h_lowest_terms := PySem.W.mg_of X G a5
  have F_pair_interactions := fun_mk (st := sPI) l6 c6 k6
  have b_pair_interactions := F_pair_interactions.binds (ps := ["pure", "binary"]) fun _ _ _ _ _ _ us hl => match us, hl with | [_, _], _ => rfl
  have h_pair_interactions := PySem.W.mg_of X G a6
  have F_scaled_response := fun_mk (st := sSR) l7 c7 k7
  have b_scaled_response := F_scaled_response.binds (ps := ["pure", "binary", "mixture"]) fun _ _ _ _ _ _ us hl => match us, hl with | [_, _, _], _ => rfl
  have h_scaled_response := PySem.W.mg_of X G a7
  have F_predicted_response := fun_mk (st := sPR) l8 c8 k8
  have b_predicted_response := F_predicted_response.binds (ps := ["pure", "binary", "mixture"]) fun _ _ _ _ _ _ us hl => match us, hl with | [_, _, _], _ => rfl
  have h_predicted_response := PySem.W.mg_of X G a8
  have F_combined_parts := fun_mk (st := sCB) l9 c9 k9
  have b_combined_parts := F_combined_parts.binds (ps := ["k", "m", "first", "second"]) fun _ _ _ _ _ _ us hl => match us, hl with | [_, _, _, _], _ => rfl
  have h_combined_parts := PySem.W.mg_of X G a9
  have F_weighted_mean := fun_mk (st := sWM) l10 c10 k10
  have b_weighted_mean := F_weighted_mean.binds (ps := ["k", "m", "first", "second"]) fun _ _ _ _ _ _ us hl => match us, hl with | [_, _, _, _], _ => rfl
  have h_weighted_mean := PySem.W.mg_of X G a10
  have F_predict_combination := fun_mk (st := sPC) l11 c11 k11
  have g_OUT_OF_LIMITS := PySem.W.mg_of X G m1
  have g_MOST_COMPONENTS := PySem.W.mg_of X G m2
  have g_LARGEST_RESPONSE := PySem.W.mg_of X G m3
  have g_MOST_PARTS := PySem.W.mg_of X G m4
  have g_LARGEST_PROPORTION := PySem.W.mg_of X G m5
  have y_all := PySem.W.mg_none_of X G z1
  have y_len := PySem.W.mg_none_of X G z2
  have y_range := PySem.W.mg_none_of X G z3
  have y_zip := PySem.W.mg_none_of X G z4
  have y_sum := PySem.W.mg_none_of X G z5
  have y_abs := PySem.W.mg_none_of X G z6
  exact ⟨PySem.W.fnOf "predict_combination" "predict_combination" (defArgs sPC) (defBody sPC) (defScope sPC) .none kV11 dc11 pm11 an11 cd11 ct11, fun s us hu => match us, hu with | [_, _, _, _, _, _], _ => .of_eq rfl, fun base _ _ => ok_pc F_predict_combination ⟨⟨⟨⟨y_all, y_len, y_range, ⟨_, g_MOST_COMPONENTS⟩, ⟨_, g_LARGEST_RESPONSE⟩, F_all_between, h_all_between, b_all_between, F_component_pairs, h_component_pairs, b_component_pairs⟩, y_zip, y_sum, ⟨_, _, F_pair_interactions, h_pair_interactions, b_pair_interactions⟩⟩, y_abs, ⟨_, _, F_scaled_response, h_scaled_response, b_scaled_response⟩, ⟨_, _, F_lowest_terms, h_lowest_terms, b_lowest_terms⟩⟩, ⟨_, g_OUT_OF_LIMITS⟩, ⟨_, _, F_responses_within_limits, h_responses_within_limits, b_responses_within_limits⟩, ⟨_, _, F_predicted_response, h_predicted_response, b_predicted_response⟩⟩ ⟨_, _, F_mixture_within_limits, h_mixture_within_limits, b_mixture_within_limits⟩ ⟨_, _, F_combined_parts, h_combined_parts, b_combined_parts⟩ ⟨_, _, F_weighted_mean, h_weighted_mean, b_weighted_mean⟩ ⟨_, g_MOST_PARTS⟩ ⟨_, g_LARGEST_PROPORTION⟩⟩
end Pb
open PySem PySem.W PyProof.Rows
set_option maxRecDepth 100000 in
set_option maxHeartbeats 8000000 in
theorem PySem.Challenge.cw_pairblend_s04_predict_combination_holds : PySem.Challenge.rw_pairblend_s04_predict_combination.Holds := by
  w_on; k_headS; (case hw => exact ⟨[.int 0, .int 0, .list [], .list [], .list [], .list []], by decide +kernel, by decide +kernel⟩)
  k_fillS
  refine L2.walk_specK (r := PySem.Challenge.rw_pairblend_s04_predict_combination) (k := 5) (CX := L2.CX0) (ps := ["k", "m", "pure", "binary", "first", "second"]) (sp := Pb.spPC) (by decide +kernel) rfl rfl ⟨rfl, by decide, by decide⟩ (fun w h Y => PySem.W.kIn_of Y) ?F ?S (fun _ _ _ _ z => z)
  case F =>
    intro w mg fa h Y KX G hmg
    refine' Pb.all_mk KX G hmg ?a1 ?l1 ?c1 ?k1 ?a2 ?l2 ?c2 ?k2 ?a3 ?l3 ?c3 ?k3 ?a4 ?l4 ?c4 ?k4 ?a5 ?l5 ?c5 ?k5 ?a6 ?l6 ?c6 ?k6 ?a7 ?l7 ?c7 ?k7 ?a8 ?l8 ?c8 ?k8 ?a9 ?l9 ?c9 ?k9 ?a10 ?l10 ?c10 ?k10 ?a11 ?l11 ?c11 ?k11 ?m1 ?m2 ?m3 ?m4 ?m5 ?z1 ?z2 ?z3 ?z4 ?z5 ?z6
    (case a1 => k_is); (case l1 => k_is); (case c1 => k_is); (case k1 => k_is); (case a2 => k_is); (case l2 => k_is); (case c2 => k_is); (case k2 => k_is)
    (case a3 => k_is); (case l3 => k_is); (case c3 => k_is); (case k3 => k_is); (case a4 => k_is); (case l4 => k_is); (case c4 => k_is); (case k4 => k_is)
    (case a5 => k_is); (case l5 => k_is); (case c5 => k_is); (case k5 => k_is); (case a6 => k_is); (case l6 => k_is); (case c6 => k_is); (case k6 => k_is)
    (case a7 => k_is); (case l7 => k_is); (case c7 => k_is); (case k7 => k_is); (case a8 => k_is); (case l8 => k_is); (case c8 => k_is); (case k8 => k_is)
    (case a9 => k_is); (case l9 => k_is); (case c9 => k_is); (case k9 => k_is); (case a10 => k_is); (case l10 => k_is); (case c10 => k_is); (case k10 => k_is)
    (case a11 => k_is); (case l11 => k_is); (case c11 => k_is); (case k11 => k_is); (case m1 => k_is); (case m2 => k_is); (case m3 => k_is); (case m4 => k_is)
    (case m5 => k_is); (case z1 => k_is); (case z2 => k_is); (case z3 => k_is); (case z4 => k_is); (case z5 => k_is); (case z6 => k_is)
  case S =>
    intro K H xs a hO hwi hask hx
    cases hx with
    | cons g0 r0 =>
      cases r0 with
      | cons g1 r1 =>
        cases r1 with
        | cons g2 r2 =>
          cases r2 with
          | cons g3 r3 =>
            cases r3 with
            | cons g4 r4 =>
              cases r4 with
              | cons g5 r5 =>
                cases r5
                cases g0
                cases g1
                cases g2 with
                | lst s2 u2 =>
                  have e2 := L2.ints_dw a.2.2.1 _ u2
                  subst e2
                  cases g3 with
                  | lst s3 u3 =>
                    have e3 := L2.ints_dw a.2.2.2.1 _ u3
                    subst e3
                    cases g4 with
                    | lst s4 u4 =>
                      have e4 := L2.ints_dw a.2.2.2.2.1 _ u4
                      subst e4
                      cases g5 with
                      | lst s5 u5 =>
                        have e5 := L2.ints_dw a.2.2.2.2.2.1 _ u5
                        subst e5
                        have q : (Codec.inInt 0 4294967295 a.1 && (Codec.inInt 0 4294967295 a.2.1 && ((Codec.inLen 0 6 a.2.2.1 && a.2.2.1.all (Codec.inInt (-2147483648) 2147483647)) && ((Codec.inLen 0 8 a.2.2.2.1 && a.2.2.2.1.all (Codec.inInt (-2147483648) 2147483647)) && ((Codec.inLen 0 6 a.2.2.2.2.1 && a.2.2.2.2.1.all (Codec.inInt 0 4294967295)) && ((Codec.inLen 0 6 a.2.2.2.2.2.1 && a.2.2.2.2.2.1.all (Codec.inInt 0 4294967295)) && true)))))) = true := hwi
                        rw [Bool.and_eq_true, Bool.and_eq_true, Bool.and_eq_true, Bool.and_eq_true, Bool.and_eq_true, Bool.and_eq_true, Bool.and_eq_true, Bool.and_eq_true, Bool.and_eq_true, Bool.and_eq_true] at q
                        have n0 := (Codec.inInt_iff.mp q.1).1
                        have n1 := (Codec.inInt_iff.mp q.2.1).1
                        have l2 := (Codec.inNat_iff.mp q.2.2.1.1).2
                        have l3 := (Codec.inNat_iff.mp q.2.2.2.1.1).2
                        have l4 := (Codec.inNat_iff.mp q.2.2.2.2.1.1).2
                        have n4 : ∀ z ∈ a.2.2.2.2.1, 0 ≤ z := fun z hz => (Codec.inInt_iff.mp (List.all_eq_true.mp q.2.2.2.2.1.2 z hz)).1
                        have l5 := (Codec.inNat_iff.mp q.2.2.2.2.2.1.1).2
                        have n5 : ∀ z ∈ a.2.2.2.2.2.1, 0 ≤ z := fun z hz => (Codec.inInt_iff.mp (List.all_eq_true.mp q.2.2.2.2.2.1.2 z hz)).1
                        exact ⟨_, _, _, _, a.1, a.2.1, a.2.2.1, a.2.2.2.1, a.2.2.2.2.1, a.2.2.2.2.2.1, rfl, s2, s3, s4, s5, by omega, by omega, by omega, by omega, n0, n1, n4, n5, fun H' p hp => .lst (L2.SqL.of hp) (L2.dw_ints _)⟩
#print axioms PySem.Challenge.cw_pairblend_s04_predict_combination_holds
