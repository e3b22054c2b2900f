import PyProof.Rows.All
import Wide.All
import OpenK.AllK
import Wide.FinOn
import Open.SpecLaws
import KE.OsGo
import HandS.ForSpec
import HandS.ForMost
import HandS.Zip
import HandS.Wide
import PySem.Challenge.RW_pairblend_s06_count_mixtures
/-! Mathematics over the specification: rational numbers in lowest terms. -/
namespace Mx
open Ks604 (Rational)
open Ks604.Rational (make zero ofInt ofNat)

theorem make_pos {a : Int} {b : Nat} (hb : 0 < b) : make a b = ⟨a / (Nat.gcd a.natAbs b : Nat), b / Nat.gcd a.natAbs b⟩ := by
  unfold Ks604.Rational.make
  rw [if_neg (by omega)]
theorem gcd_pos {a : Int} {b : Nat} (hb : 0 < b) : 0 < Nat.gcd a.natAbs b := Nat.gcd_pos_of_pos_right _ hb
theorem make_den {a : Int} {b : Nat} (hb : 0 < b) : 0 < (make a b).den := by
  rw [make_pos hb]
  exact Nat.div_pos (Nat.le_of_dvd hb (Nat.gcd_dvd_right _ _)) (gcd_pos hb)
theorem make_cross {a : Int} {b : Nat} (hb : 0 < b) : (make a b).num * (b : Int) = a * ((make a b).den : Int) := by
  rw [make_pos hb]
  show a / (Nat.gcd a.natAbs b : Nat) * (b : Int) = a * ((b / Nat.gcd a.natAbs b : Nat) : Int)
  have hg : 0 < Nat.gcd a.natAbs b := gcd_pos hb
  obtain ⟨k, hk⟩ : ((Nat.gcd a.natAbs b : Nat) : Int) ∣ a := Int.dvd_natAbs.mp (Int.natCast_dvd_natCast.mpr (Nat.gcd_dvd_left _ _))
  obtain ⟨m, hm⟩ : Nat.gcd a.natAbs b ∣ b := Nat.gcd_dvd_right _ _
  generalize Nat.gcd a.natAbs b = g at hg hk hm
  have hg' : (g : Int) ≠ 0 := by omega
  have e1 : a / (g : Int) = k := by rw [hk]; exact Int.mul_ediv_cancel_left k hg'
  have e2 : b / g = m := by rw [hm]; exact Nat.mul_div_cancel_left m hg
  rw [e1, e2, hk, hm, Int.natCast_mul]
  grind
theorem make_scale {a : Int} {b k : Nat} (hb : 0 < b) (hk : 0 < k) : make (a * k) (b * k) = make a b := by
  rw [make_pos hb, make_pos (Nat.mul_pos hb hk)]
  have e : Nat.gcd (a * (k : Int)).natAbs (b * k) = Nat.gcd a.natAbs b * k := by
    rw [Int.natAbs_mul, Int.natAbs_natCast, Nat.gcd_mul_right]
  rw [e]
  have e1 : a * (k : Int) / ((Nat.gcd a.natAbs b * k : Nat) : Int) = a / (Nat.gcd a.natAbs b : Nat) := by
    rw [Int.natCast_mul]
    exact Int.mul_ediv_mul_of_pos_left _ _ (by omega)
  have e2 : b * k / (Nat.gcd a.natAbs b * k) = b / Nat.gcd a.natAbs b := Nat.mul_div_mul_right _ _ hk
  rw [e1, e2]
theorem make_eq {a c : Int} {b d : Nat} (hb : 0 < b) (hd : 0 < d) (h : a * d = c * b) : make a b = make c d := by
  rw [← make_scale (a := a) hb hd, ← make_scale (a := c) hd hb, h, Nat.mul_comm b d]
theorem add_def (p q : Rational) : p + q = make (p.num * q.den + q.num * p.den) (p.den * q.den) := rfl
theorem mul_def (p q : Rational) : p * q = make (p.num * q.num) (p.den * q.den) := rfl
theorem sub_def (p q : Rational) : p - q = p + (⟨-q.num, q.den⟩ : Rational) := rfl
theorem make_add {a c : Int} {b d : Nat} (hb : 0 < b) (hd : 0 < d) : make a b + make c d = make (a * d + c * b) (b * d) := by
  rw [add_def]
  have h1 := make_cross (a := a) hb
  have h2 := make_cross (a := c) hd
  have p1 := make_den (a := a) hb
  have p2 := make_den (a := c) hd
  refine make_eq (Nat.mul_pos p1 p2) (Nat.mul_pos hb hd) ?_
  rw [Int.natCast_mul, Int.natCast_mul]
  generalize (make a b).num = n1 at *
  generalize (make c d).num = n2 at *
  generalize (make a b).den = d1 at *
  generalize (make c d).den = d2 at *
  grind
theorem make_mul {a c : Int} {b d : Nat} (hb : 0 < b) (hd : 0 < d) : make a b * make c d = make (a * c) (b * d) := by
  rw [mul_def]
  have h1 := make_cross (a := a) hb
  have h2 := make_cross (a := c) hd
  have p1 := make_den (a := a) hb
  have p2 := make_den (a := c) hd
  refine make_eq (Nat.mul_pos p1 p2) (Nat.mul_pos hb hd) ?_
  rw [Int.natCast_mul, Int.natCast_mul]
  generalize (make a b).num = n1 at *
  generalize (make c d).num = n2 at *
  generalize (make a b).den = d1 at *
  generalize (make c d).den = d2 at *
  grind
theorem make_one (a : Int) : make a 1 = ofInt a := by
  rw [make_pos (by decide)]
  show (⟨a / ((Nat.gcd a.natAbs 1 : Nat) : Int), 1 / Nat.gcd a.natAbs 1⟩ : Rational) = ⟨a, 1⟩
  rw [Nat.gcd_one_right]
  simp
theorem make_zero {b : Nat} (hb : 0 < b) : make 0 b = zero := by
  rw [make_pos hb]
  show (⟨0 / ((Nat.gcd (0 : Int).natAbs b : Nat) : Int), b / Nat.gcd (0 : Int).natAbs b⟩ : Rational) = ⟨0, 1⟩
  simp [hb]
theorem ofInt_add (a b : Int) : ofInt a + ofInt b = ofInt (a + b) := by
  rw [← make_one, ← make_one, make_add (by decide) (by decide), ← make_one]
  simp
theorem ofInt_mul (a b : Int) : ofInt a * ofInt b = ofInt (a * b) := by
  rw [← make_one, ← make_one, make_mul (by decide) (by decide), ← make_one]
theorem ofInt_sub (a b : Int) : ofInt a - ofInt b = ofInt (a - b) := by
  rw [sub_def]
  show ofInt a + ofInt (-b) = _
  rw [ofInt_add]
  rfl
theorem make_add_same {a c : Int} {b : Nat} (hb : 0 < b) : make a b + make c b = make (a + c) b := by
  rw [make_add hb hb]
  refine make_eq (Nat.mul_pos hb hb) hb ?_
  rw [Int.natCast_mul]
  grind
theorem sum_make_go {b : Nat} (hb : 0 < b) {α : Type} (f : α → Int) : ∀ (l : List α) (a : Int),
    (l.map fun i => make (f i) b).foldl Ks604.Rational.add (make a b) = make (a + (l.map f).sum) b
  | [], a => by simp
  | x :: r, a => by
    rw [List.map_cons, List.foldl_cons]
    have e : Ks604.Rational.add (make a b) (make (f x) b) = make (a + f x) b := make_add_same hb
    rw [e, sum_make_go hb f r, List.map_cons, List.sum_cons, Int.add_assoc]
theorem sum_make {b : Nat} (hb : 0 < b) {α : Type} (f : α → Int) (l : List α) : Ks604.Rational.sum (l.map fun i => make (f i) b) = make ((l.map f).sum) b := by
  unfold Ks604.Rational.sum
  rw [← make_zero hb, sum_make_go hb f l 0, Int.zero_add]
end Mx
namespace Mx
open Ks604 (Rational)
open Ks604.Rational (make zero ofInt ofNat)
open Ks608 (allPairs pairIndex)

/-! ### The mirror -/
/-- every number lies between -/
def okAll (lo hi : Int) (l : List Int) : Bool := l.all fun z => decide (lo ≤ z) && decide (z ≤ hi)
def respOk (p b : List Int) : Bool := decide (1 ≤ p.length) && (decide (p.length ≤ 4) && (decide (b.length = (allPairs p.length).length) && (okAll (-999) 999 p && okAll (-999) 999 b)))
def mixOk (m : List Int) (n : Nat) : Bool := decide (m.length = n) && (okAll 0 99 m && decide (0 < m.sum))
/-- the interaction of each pair -/
def interOne (p : List Int) (q : (Nat × Nat) × Int) : Int := 4 * q.2 - 2 * (p.getD q.1.1 0 + p.getD q.1.2 0)
def inter (p b : List Int) : List Int := ((allPairs p.length).zip b).map (interOne p)
def psum (p m : List Int) : Int := ((m.zip p).map fun q => q.1 * q.2).sum
def qone (m : List Int) (q : (Nat × Nat) × Int) : Int := q.2 * m.getD q.1.1 0 * m.getD q.1.2 0
def qsum (p b m : List Int) : Int := (((allPairs p.length).zip (inter p b)).map (qone m)).sum
def numer (p b m : List Int) : Int := psum p m * m.sum + qsum p b m
/-- what is due of interactions -/
def interDue (p b : List Int) : List Int := ((inter p b).length : Int) :: (inter p b).flatMap fun i => [i, 1]

/-! ### Limits -/
theorem pairs1 : allPairs 1 = [] := by decide
theorem pairs2 : allPairs 2 = [(0, 1)] := by decide
theorem pairs3 : allPairs 3 = [(0, 1), (0, 2), (1, 2)] := by decide
theorem pairs4 : allPairs 4 = [(0, 1), (0, 2), (0, 3), (1, 2), (1, 3), (2, 3)] := by decide
theorem any_okAll (l : List Int) : (l.any fun x => decide (999 < x.natAbs)) = !okAll (-999) 999 l := by
  induction l with
  | nil => rfl
  | cons x r ih =>
    rw [List.any_cons, ih]
    show _ = !((decide (-999 ≤ x) && decide (x ≤ 999)) && okAll (-999) 999 r)
    rw [Bool.not_and]
    congr 1
    by_cases h : 999 < x.natAbs
    · have h2 : ¬ (-999 ≤ x ∧ x ≤ 999) := by omega
      simp only [h, decide_true]
      symm
      rw [Bool.not_eq_true', Bool.and_eq_false_iff, decide_eq_false_iff_not, decide_eq_false_iff_not]
      omega
    · have h1 : -999 ≤ x := by omega
      have h2 : x ≤ 999 := by omega
      simp [h, h1, h2]
theorem parse_is (p b : List Int) : Ks608.parseResponses p b = if respOk p b = true then some ⟨p, b⟩ else none := by
  unfold Ks608.parseResponses
  rw [List.any_append, any_okAll, any_okAll]
  have e : (p.length < 1 ∨ Ks608.maxComponents < p.length ∨ 2 * b.length ≠ p.length * (p.length - 1) ∨ ((!okAll (-999) 999 p || !okAll (-999) 999 b) = true)) ↔ ¬ respOk p b = true := by
    unfold respOk Ks608.maxComponents
    rw [← Bool.not_and]
    generalize (okAll (-999) 999 p && okAll (-999) 999 b) = o
    rw [Bool.and_eq_true, Bool.and_eq_true, Bool.and_eq_true, decide_eq_true_eq, decide_eq_true_eq, decide_eq_true_eq, Bool.not_eq_true']
    by_cases h1 : 1 ≤ p.length
    · by_cases h4 : p.length ≤ 4
      · have hl : 2 * b.length ≠ p.length * (p.length - 1) ↔ ¬ b.length = (allPairs p.length).length := by
          have h : p.length = 1 ∨ p.length = 2 ∨ p.length = 3 ∨ p.length = 4 := by omega
          rcases h with h | h | h | h <;> rw [h]
          · rw [pairs1]; simp only [List.length_nil]; omega
          · rw [pairs2]; simp only [List.length_nil, List.length_cons]; omega
          · rw [pairs3]; simp only [List.length_nil, List.length_cons]; omega
          · rw [pairs4]; simp only [List.length_nil, List.length_cons]; omega
        rw [hl]
        have n1 : ¬ p.length < 1 := by omega
        have n4 : ¬ 4 < p.length := by omega
        by_cases hb : b.length = (allPairs p.length).length
        · cases o <;> simp [n1, n4, h1, h4, hb]
        · cases o <;> simp [n1, n4, h1, h4, hb]
      · have n4 : 4 < p.length := by omega
        simp [h4, n4]
    · have n1 : p.length < 1 := by omega
      simp only [h1, n1, true_or, false_and, not_false_eq_true]
  by_cases h : respOk p b = true
  · rw [if_pos h, if_neg (fun z => (e.mp z) h)]
  · rw [if_neg h, if_pos (e.mpr h)]
theorem respOk_spec {p b : List Int} (h : respOk p b = true) : (p.length = 1 ∨ p.length = 2 ∨ p.length = 3 ∨ p.length = 4) ∧ b.length = (allPairs p.length).length ∧ okAll (-999) 999 p = true ∧ okAll (-999) 999 b = true := by
  unfold respOk at h
  rw [Bool.and_eq_true, Bool.and_eq_true, Bool.and_eq_true, Bool.and_eq_true, decide_eq_true_eq, decide_eq_true_eq, decide_eq_true_eq] at h
  exact ⟨by omega, h.2.2.1, h.2.2.2.1, h.2.2.2.2⟩

/-! ### Interactions -/
theorem interaction_is (p b : List Int) (i j : Nat) : Ks608.interaction ⟨p, b⟩ i j = ofInt (4 * b.getD (pairIndex p.length (min i j) (max i j)) 0 - 2 * (p.getD i 0 + p.getD j 0)) := by
  unfold Ks608.interaction Ks608.binaryResponse Ks608.pureResponse Ks608.componentCount
  rw [ofInt_add, ofInt_mul, ofInt_mul, ofInt_sub]
/-- an interaction as a number -/
def I (p b : List Int) (q : Nat × Nat) : Int := 4 * b.getD (pairIndex p.length (min q.1 q.2) (max q.1 q.2)) 0 - 2 * (p.getD q.1 0 + p.getD q.2 0)
theorem inter_is {p b : List Int} (h : respOk p b = true) : inter p b = (allPairs p.length).map (I p b) := by
  obtain ⟨h1, h2, _, _⟩ := respOk_spec h
  unfold inter
  rcases h1 with h1 | h1 | h1 | h1
  · rw [h1, pairs1]; rfl
  · rw [h1, pairs2] at h2
    match p, h1, b, h2 with
    | [_, _], _, [_], _ => rw [show ([_, _] : List Int).length = 2 from rfl, pairs2]; rfl
  · rw [h1, pairs3] at h2
    match p, h1, b, h2 with
    | [_, _, _], _, [_, _, _], _ => rw [show ([_, _, _] : List Int).length = 3 from rfl, pairs3]; rfl
  · rw [h1, pairs4] at h2
    match p, h1, b, h2 with
    | [_, _, _, _], _, [_, _, _, _, _, _], _ => rw [show ([_, _, _, _] : List Int).length = 4 from rfl, pairs4]; rfl
theorem pairs_ofInt : ∀ l : List Int, Ks604.pairs (l.map ofInt) = l.flatMap fun i => [i, 1]
  | [] => rfl
  | x :: r => by
    have ih := pairs_ofInt r
    unfold Ks604.pairs at ih ⊢
    rw [List.map_cons, List.flatMap_cons, List.flatMap_cons, ih]
    rfl
theorem due_interactions (p b : List Int) : PyKs608.interactions p b = if respOk p b = true then interDue p b else [-22] := by
  show Ks608Neutral.integers (Ks608.withResponses p b _) = _
  unfold Ks608.withResponses
  rw [parse_is]
  by_cases h : respOk p b = true
  · rw [if_pos h, if_pos h]
    show ((allPairs p.length).length : Int) :: Ks604.pairs ((allPairs p.length).map fun q => Ks608.interaction ⟨p, b⟩ q.1 q.2) = _
    unfold interDue
    rw [inter_is h, List.length_map, ← pairs_ofInt, List.map_map]
    congr 2
    refine List.map_congr_left fun q _ => ?_
    exact interaction_is p b q.1 q.2
  · rw [if_neg h, if_neg h]
    rfl
end Mx
namespace Mx
open Ks604 (Rational)
open Ks604.Rational (make zero ofInt ofNat)
open Ks608 (allPairs pairIndex)

/-! ### Mixtures -/
theorem toNat_getD (m : List Int) (h : ∀ z ∈ m, 0 ≤ z) (i : Nat) : (((m.map Int.toNat).getD i 0 : Nat) : Int) = m.getD i 0 := by
  rw [List.getD_eq_getElem?_getD, List.getD_eq_getElem?_getD, List.getElem?_map]
  cases e : m[i]? with
  | none => rfl
  | some z => exact Int.toNat_of_nonneg (h z (List.mem_of_getElem? e))
theorem toNat_sum : ∀ (m : List Int), (∀ z ∈ m, 0 ≤ z) → (((m.map Int.toNat).sum : Nat) : Int) = m.sum
  | [], _ => rfl
  | z :: r, h => by
    have h1 := toNat_sum r fun y hy => h y (List.mem_cons_of_mem _ hy)
    have h2 := h z List.mem_cons_self
    rw [List.map_cons, List.sum_cons, List.sum_cons]
    omega
theorem toNat_all : ∀ (m : List Int), (∀ z ∈ m, 0 ≤ z) → ((m.map Int.toNat).all fun v => decide (v ≤ 99)) = okAll 0 99 m
  | [], _ => rfl
  | z :: r, h => by
    have h1 := toNat_all r fun y hy => h y (List.mem_cons_of_mem _ hy)
    have h2 := h z List.mem_cons_self
    rw [List.map_cons, List.all_cons, h1]
    show _ = ((decide (0 ≤ z) && decide (z ≤ 99)) && okAll 0 99 r)
    congr 1
    rw [decide_eq_true h2, Bool.true_and]
    exact decide_eq_decide.mpr (by omega)
theorem valid_is {p b m : List Int} (h : ∀ z ∈ m, 0 ≤ z) : Ks608.isValidMixture ⟨p, b⟩ (m.map Int.toNat) = mixOk m p.length := by
  unfold Ks608.isValidMixture mixOk
  rw [toNat_all m h, List.length_map]
  show ((m.length == p.length) && _ && _) = _
  rw [Bool.and_assoc]
  congr 1
  congr 1
  exact decide_eq_decide.mpr (by have := toNat_sum m h; omega)
theorem fractions_at (x : List Nat) (hT : 0 < x.sum) (i : Nat) : (Ks608.fractions x).getD i zero = make ((x.getD i 0 : Nat) : Int) x.sum := by
  unfold Ks608.fractions
  rw [List.getD_eq_getElem?_getD, List.getElem?_map, List.getD_eq_getElem?_getD]
  cases e : x[i]? with
  | none => exact (make_zero hT).symm
  | some z => rfl
/-- the predicted response of fractions over one denominator -/
theorem predict_over {p b : List Int} {x : List Rational} {c : Nat → Int} {T : Nat} (hT : 0 < T) (hx : ∀ i, x.getD i zero = make (c i) T) :
    Ks608.predict ⟨p, b⟩ x = make (((List.range p.length).map fun i => c i * p.getD i 0).sum * T + ((allPairs p.length).map fun q => I p b q * (c q.1 * c q.2)).sum) (T * T) := by
  unfold Ks608.predict
  have e1 : ((List.range (Ks608.componentCount ⟨p, b⟩)).map fun i => x.getD i zero * Ks608.pureResponse ⟨p, b⟩ i) = (List.range p.length).map fun i => make (c i * p.getD i 0) T := by
    refine List.map_congr_left fun i _ => ?_
    show x.getD i zero * ofInt (p.getD i 0) = _
    rw [hx, ← make_one, make_mul hT (by decide), Nat.mul_one]
  have e2 : ((allPairs (Ks608.componentCount ⟨p, b⟩)).map fun q => Ks608.interaction ⟨p, b⟩ q.1 q.2 * (x.getD q.1 zero * x.getD q.2 zero)) = (allPairs p.length).map fun q => make (I p b q * (c q.1 * c q.2)) (T * T) := by
    refine List.map_congr_left fun q _ => ?_
    rw [interaction_is, hx, hx, ← make_one, make_mul hT hT, make_mul (by decide) (Nat.mul_pos hT hT), Nat.one_mul]
    rfl
  rw [e1, e2, sum_make hT, sum_make (Nat.mul_pos hT hT), ← make_scale (a := ((List.range p.length).map fun i => c i * p.getD i 0).sum) hT hT, make_add_same (Nat.mul_pos hT hT)]
theorem getD_at {l : List Int} {i : Nat} (h : i < l.length) : l.getD i 0 = l[i] := by
  rw [List.getD_eq_getElem?_getD, List.getElem?_eq_getElem h]
  rfl
theorem psum_is {p m : List Int} (h : m.length = p.length) : psum p m = ((List.range p.length).map fun i => m.getD i 0 * p.getD i 0).sum := by
  unfold psum
  congr 1
  refine List.ext_getElem (by simp [h]) fun i h1 h2 => ?_
  have hm : i < m.length := by simp at h1; omega
  have hp : i < p.length := by simp at h2; omega
  rw [List.getElem_map, List.getElem_map, List.getElem_zip, List.getElem_range, getD_at hm, getD_at hp]
theorem qsum_is {p b m : List Int} (h : respOk p b = true) : qsum p b m = ((allPairs p.length).map fun q => I p b q * (m.getD q.1 0 * m.getD q.2 0)).sum := by
  unfold qsum
  rw [inter_is h]
  generalize allPairs p.length = l
  congr 1
  refine List.ext_getElem (by simp) fun i h1 h2 => ?_
  rw [List.getElem_map, List.getElem_map, List.getElem_zip, List.getElem_map]
  unfold qone
  exact Int.mul_assoc _ _ _
theorem predict_is {p b m : List Int} (h : respOk p b = true) (hm : m.length = p.length) (h0 : ∀ z ∈ m, 0 ≤ z) (hs : 0 < m.sum) :
    Ks608.predict ⟨p, b⟩ (Ks608.fractions (m.map Int.toNat)) = make (numer p b m) (m.sum * m.sum).toNat := by
  have e := toNat_sum m h0
  have hT : 0 < (m.map Int.toNat).sum := by omega
  rw [predict_over hT (c := fun i => m.getD i 0) (fun i => by rw [fractions_at _ hT, toNat_getD m h0]), ← psum_is hm, ← qsum_is h, e]
  unfold numer
  congr 1
  have e2 : m.sum * m.sum = (((m.map Int.toNat).sum * (m.map Int.toNat).sum : Nat) : Int) := by rw [Int.natCast_mul, e]
  rw [e2]
  rfl
/-- what is due of predict -/
def predDue (p b m : List Int) : List Int := [0, (make (numer p b m) (m.sum * m.sum).toNat).num, ((make (numer p b m) (m.sum * m.sum).toNat).den : Int)]
theorem mixOk_spec {m : List Int} {n : Nat} (h : mixOk m n = true) : m.length = n ∧ okAll 0 99 m = true ∧ 0 < m.sum := by
  unfold mixOk at h
  rw [Bool.and_eq_true, Bool.and_eq_true, decide_eq_true_eq, decide_eq_true_eq] at h
  exact ⟨h.1, h.2.1, h.2.2⟩
theorem due_predict (p b m : List Int) (h0 : ∀ z ∈ m, 0 ≤ z) : PyKs608.predict p b m = if respOk p b = true then (if mixOk m p.length = true then predDue p b m else [-22]) else [-22] := by
  show Ks608Neutral.integers (Ks608.withResponses p b fun r => if Ks608.isValidMixture r (m.map Int.toNat) = false then Ks608.number (-22) else { value := 0, rest := Ks604.pairs [Ks608.predict r (Ks608.fractions (m.map Int.toNat))] }) = _
  unfold Ks608.withResponses
  rw [parse_is]
  by_cases h : respOk p b = true
  · rw [if_pos h, if_pos h]
    show Ks608Neutral.integers (if Ks608.isValidMixture ⟨p, b⟩ (m.map Int.toNat) = false then _ else _) = _
    rw [valid_is h0]
    by_cases hm : mixOk m p.length = true
    · rw [if_pos hm, if_neg (by rw [hm]; decide)]
      obtain ⟨h1, _, h3⟩ := mixOk_spec hm
      rw [predict_is h h1 h0 h3]
      rfl
    · rw [if_neg hm, if_pos (by simpa using hm)]
      rfl
  · rw [if_neg h, if_neg h]
    rfl

/-! ### Lowest terms by division with remainder -/
/-- what lowest_terms hands back -/
def low (n d : Int) : List Int := [n / (Nat.gcd n.natAbs d.toNat : Nat), d / (Nat.gcd n.natAbs d.toNat : Nat)]
theorem low_is {n d : Int} (h : 0 < d) : low n d = [(make n d.toNat).num, ((make n d.toNat).den : Int)] := by
  have hd : 0 < d.toNat := by omega
  rw [make_pos hd]
  unfold low
  show [_, _] = [_, ((d.toNat / Nat.gcd n.natAbs d.toNat : Nat) : Int)]
  rw [Int.natCast_ediv, Int.toNat_of_nonneg (by omega)]
end Mx
namespace Mx
open Ks604 (Rational)
open Ks604.Rational (make zero ofInt ofNat)
open Ks608 (allPairs pairIndex)

/-! ### Combinations of two mixtures -/
theorem getD_none {l : List Int} {i : Nat} (h : l.length ≤ i) : l.getD i 0 = 0 := by
  rw [List.getD_eq_getElem?_getD, List.getElem?_eq_none h]
  rfl
/-- a rational number that was made is made of itself -/
theorem make_self {a : Int} {b : Nat} (hb : 0 < b) : make (make a b).num (make a b).den = make a b :=
  make_eq (make_den hb) hb (make_cross hb)
theorem ofNat_make (n : Nat) : ofNat n = make (n : Int) 1 := (make_one (n : Int)).symm
/-- whole parts of the combination -/
def combAt (k m F S : Int) (q : Int × Int) : Int := k * q.1 * S + m * q.2 * F
def comb (k m : Int) (f s : List Int) : List Int := (f.zip s).map (combAt k m f.sum s.sum)
theorem comb_len {k m : Int} {f s : List Int} (h : f.length = s.length) : (comb k m f s).length = f.length := by
  unfold comb
  rw [List.length_map, List.length_zip, h, Nat.min_self]
theorem combAt_sum (k m F S : Int) : ∀ {f s : List Int}, f.length = s.length → ((f.zip s).map (combAt k m F S)).sum = k * f.sum * S + m * s.sum * F
  | [], [], _ => by simp
  | x :: f, y :: s, h => by
    have ih := combAt_sum k m F S (f := f) (s := s) (by simpa using h)
    rw [List.zip_cons_cons, List.map_cons, List.sum_cons, ih, List.sum_cons, List.sum_cons]
    unfold combAt
    grind
  | [], _ :: _, h => by simp at h
  | _ :: _, [], h => by simp at h
theorem comb_sum {k m : Int} {f s : List Int} (h : f.length = s.length) : (comb k m f s).sum = f.sum * s.sum * (k + m) := by
  unfold comb
  rw [combAt_sum _ _ _ _ h]
  grind
theorem comb_at {k m : Int} {f s : List Int} (h : f.length = s.length) {i : Nat} (hi : i < f.length) : (comb k m f s).getD i 0 = combAt k m f.sum s.sum (f.getD i 0, s.getD i 0) := by
  rw [getD_at (by rw [comb_len h]; exact hi), getD_at hi, getD_at (by omega : i < s.length)]
  unfold comb
  rw [List.getElem_map, List.getElem_zip]
theorem combine_at {k m : Int} {f s : List Int} (h : f.length = s.length) (f0 : ∀ z ∈ f, 0 ≤ z) (s0 : ∀ z ∈ s, 0 ≤ z) (hf : 0 < f.sum) (hs : 0 < s.sum) (hk : 0 < k) (hm : 0 < m) (i : Nat) :
    (Ks608.combine k.toNat m.toNat (Ks608.fractions (f.map Int.toNat)) (Ks608.fractions (s.map Int.toNat))).getD i zero = make ((comb k m f s).getD i 0) (comb k m f s).sum.toNat := by
  have ef := toNat_sum f f0
  have es := toNat_sum s s0
  have pT : 0 < (comb k m f s).sum := by
    rw [comb_sum h]
    exact Int.mul_pos (Int.mul_pos hf hs) (by omega)
  by_cases hi : i < f.length
  · have lf : i < (Ks608.fractions (f.map Int.toNat)).length := by unfold Ks608.fractions; rw [List.length_map, List.length_map]; exact hi
    have ls : i < (Ks608.fractions (s.map Int.toNat)).length := by unfold Ks608.fractions; rw [List.length_map, List.length_map]; omega
    have e1 : (Ks608.combine k.toNat m.toNat (Ks608.fractions (f.map Int.toNat)) (Ks608.fractions (s.map Int.toNat))).getD i zero =
        (ofNat k.toNat * (Ks608.fractions (f.map Int.toNat)).getD i zero + ofNat m.toNat * (Ks608.fractions (s.map Int.toNat)).getD i zero) * make 1 (k.toNat + m.toNat) := by
      unfold Ks608.combine
      rw [List.getD_eq_getElem?_getD, List.getElem?_map, List.getElem?_eq_getElem (by rw [List.length_zip]; omega), List.getElem_zip]
      rw [List.getD_eq_getElem?_getD, List.getD_eq_getElem?_getD, List.getElem?_eq_getElem lf, List.getElem?_eq_getElem ls]
      rfl
    have pf : 0 < (f.map Int.toNat).sum := by omega
    have ps : 0 < (s.map Int.toNat).sum := by omega
    rw [e1, fractions_at _ pf, fractions_at _ ps, toNat_getD f f0, toNat_getD s s0, ofNat_make, ofNat_make, make_mul (by decide) pf, make_mul (by decide) ps,
      make_add (by omega) (by omega), make_mul (Nat.mul_pos (by omega) (by omega)) (by omega), comb_at h hi]
    refine make_eq (Nat.mul_pos (Nat.mul_pos (by omega) (by omega)) (by omega)) (by omega) ?_
    rw [Int.toNat_of_nonneg (Int.le_of_lt pT), comb_sum h]
    unfold combAt
    simp only [Int.natCast_mul, Int.natCast_add, ef, es, Int.toNat_of_nonneg (Int.le_of_lt hk), Int.toNat_of_nonneg (Int.le_of_lt hm)]
    grind
  · have e1 : (Ks608.combine k.toNat m.toNat (Ks608.fractions (f.map Int.toNat)) (Ks608.fractions (s.map Int.toNat))).getD i zero = zero := by
      unfold Ks608.combine Ks608.fractions
      rw [List.getD_eq_getElem?_getD, List.getElem?_eq_none]
      · rfl
      · rw [List.length_map, List.length_zip, List.length_map, List.length_map, List.length_map, List.length_map]; omega
    rw [e1, getD_none (by rw [comb_len h]; omega), make_zero (by omega)]
theorem predict_comb {p b f s : List Int} {k m : Int} (ok : respOk p b = true) (lf : f.length = p.length) (ls : s.length = p.length) (f0 : ∀ z ∈ f, 0 ≤ z) (s0 : ∀ z ∈ s, 0 ≤ z) (hf : 0 < f.sum) (hs : 0 < s.sum) (hk : 0 < k) (hm : 0 < m) :
    Ks608.predict ⟨p, b⟩ (Ks608.combine k.toNat m.toNat (Ks608.fractions (f.map Int.toNat)) (Ks608.fractions (s.map Int.toNat))) = make (numer p b (comb k m f s)) ((comb k m f s).sum * (comb k m f s).sum).toNat := by
  have h : f.length = s.length := by omega
  have pT : 0 < (comb k m f s).sum := by
    rw [comb_sum h]
    exact Int.mul_pos (Int.mul_pos hf hs) (by omega)
  have lc := comb_len (k := k) (m := m) h
  have hT : 0 < (comb k m f s).sum.toNat := by omega
  rw [predict_over hT (c := fun i => (comb k m f s).getD i 0) (combine_at h f0 s0 hf hs hk hm), ← psum_is (by omega), ← qsum_is ok]
  unfold numer
  have e : (((comb k m f s).sum.toNat : Nat) : Int) = (comb k m f s).sum := Int.toNat_of_nonneg (by omega)
  rw [e]
  congr 1
  have e2 : (comb k m f s).sum * (comb k m f s).sum = (((comb k m f s).sum.toNat * (comb k m f s).sum.toNat : Nat) : Int) := by rw [Int.natCast_mul, e]
  rw [e2]
  rfl
/-- the mean of two rational numbers, weighted -/
theorem mean_is {k m : Int} (hk : 0 < k) (hm : 0 < m) {a c : Int} {b d : Nat} (hb : 0 < b) (hd : 0 < d) :
    (ofNat k.toNat * make a b + ofNat m.toNat * make c d) * make 1 (k.toNat + m.toNat) =
      make (k * (make a b).num * ((make c d).den : Int) + m * (make c d).num * ((make a b).den : Int)) ((k + m) * ((make a b).den : Int) * ((make c d).den : Int)).toNat := by
  have p1 := make_den (a := a) hb
  have p2 := make_den (a := c) hd
  have key : (ofNat k.toNat * make (make a b).num (make a b).den + ofNat m.toNat * make (make c d).num (make c d).den) * make 1 (k.toNat + m.toNat) =
      make (k * (make a b).num * ((make c d).den : Int) + m * (make c d).num * ((make a b).den : Int)) ((k + m) * ((make a b).den : Int) * ((make c d).den : Int)).toNat := by
    generalize (make a b).num = n1 at *
    generalize (make c d).num = n2 at *
    generalize (make a b).den = d1 at *
    generalize (make c d).den = d2 at *
    rw [ofNat_make, ofNat_make, make_mul (by decide) p1, make_mul (by decide) p2, make_add (by omega) (by omega), make_mul (Nat.mul_pos (by omega) (by omega)) (by omega)]
    have pD : 0 < (k + m) * (d1 : Int) * (d2 : Int) := Int.mul_pos (Int.mul_pos (by omega) (by omega)) (by omega)
    refine make_eq (Nat.mul_pos (Nat.mul_pos (by omega) (by omega)) (by omega)) (by omega) ?_
    rw [Int.toNat_of_nonneg (by omega)]
    simp only [Int.natCast_mul, Int.natCast_add, Int.toNat_of_nonneg (Int.le_of_lt hk), Int.toNat_of_nonneg (Int.le_of_lt hm)]
    grind
  rw [make_self hb, make_self hd] at key
  exact key
/-- a rational number as a list of two -/
def duo (r : Rational) : List Int := [r.num, (r.den : Int)]
/-- the predicted response of a mixture -/
def resp (p b m : List Int) : Rational := make (numer p b m) (m.sum * m.sum).toNat
def meanOf (k m : Int) (r q : Rational) : Rational := make (k * r.num * (q.den : Int) + m * q.num * (r.den : Int)) ((k + m) * (r.den : Int) * (q.den : Int)).toNat
/-- what is due of predict_combination -/
def combDue (k m : Int) (p b f s : List Int) : List Int := 0 :: (duo (resp p b (comb k m f s)) ++ duo (meanOf k m (resp p b f) (resp p b s)))
theorem due_comb (k m : Int) (p b f s : List Int) (k0 : 0 ≤ k) (m0 : 0 ≤ m) (f0 : ∀ z ∈ f, 0 ≤ z) (s0 : ∀ z ∈ s, 0 ≤ z) :
    PyKs608.predict_combination k m p b f s = if respOk p b = true then (if (okAll 1 99 [k, m] && (mixOk f p.length && mixOk s p.length)) = true then combDue k m p b f s else [-22]) else [-22] := by
  show Ks608Neutral.integers (Ks608.withResponses p b fun r => if Ks608.isValidMixture r (f.map Int.toNat) = false ∨ Ks608.isValidMixture r (s.map Int.toNat) = false ∨ Ks608.isValidProportion k.toNat m.toNat = false then Ks608.number (-22) else _) = _
  unfold Ks608.withResponses
  rw [parse_is]
  by_cases h : respOk p b = true
  · rw [if_pos h, if_pos h]
    show Ks608Neutral.integers (if Ks608.isValidMixture ⟨p, b⟩ (f.map Int.toNat) = false ∨ Ks608.isValidMixture ⟨p, b⟩ (s.map Int.toNat) = false ∨ Ks608.isValidProportion k.toNat m.toNat = false then _ else _) = _
    rw [valid_is f0, valid_is s0]
    have ep : Ks608.isValidProportion k.toNat m.toNat = okAll 1 99 [k, m] := by
      unfold Ks608.isValidProportion
      show _ = ((decide (1 ≤ k) && decide (k ≤ 99)) && ((decide (1 ≤ m) && decide (m ≤ 99)) && true))
      rw [Bool.and_true, ← Bool.and_assoc]
      rw [decide_eq_decide.mpr (show 1 ≤ k.toNat ↔ 1 ≤ k by omega), decide_eq_decide.mpr (show k.toNat ≤ 99 ↔ k ≤ 99 by omega), decide_eq_decide.mpr (show 1 ≤ m.toNat ↔ 1 ≤ m by omega), decide_eq_decide.mpr (show m.toNat ≤ 99 ↔ m ≤ 99 by omega)]
    rw [ep]
    by_cases hq : (okAll 1 99 [k, m] && (mixOk f p.length && mixOk s p.length)) = true
    · rw [if_pos hq]
      rw [Bool.and_eq_true, Bool.and_eq_true] at hq
      obtain ⟨h1, h2, h3⟩ := hq
      rw [h1, h2, h3, if_neg (by decide)]
      show (0 : Int) :: Ks604.pairs [Ks608.predict ⟨p, b⟩ (Ks608.combine k.toNat m.toNat (Ks608.fractions (f.map Int.toNat)) (Ks608.fractions (s.map Int.toNat))),
        (ofNat k.toNat * Ks608.predict ⟨p, b⟩ (Ks608.fractions (f.map Int.toNat)) + ofNat m.toNat * Ks608.predict ⟨p, b⟩ (Ks608.fractions (s.map Int.toNat))) * make 1 (k.toNat + m.toNat)] = _
      have kk : (decide (1 ≤ k) && decide (k ≤ 99)) = true ∧ ((decide (1 ≤ m) && decide (m ≤ 99)) && true) = true := Bool.and_eq_true_iff.mp h1
      rw [Bool.and_true, Bool.and_eq_true, Bool.and_eq_true, decide_eq_true_eq, decide_eq_true_eq, decide_eq_true_eq, decide_eq_true_eq] at kk
      obtain ⟨l1, _, p1⟩ := mixOk_spec h2
      obtain ⟨l2, _, p2⟩ := mixOk_spec h3
      rw [predict_comb h l1 l2 f0 s0 p1 p2 (by omega) (by omega), predict_is h l1 f0 p1, predict_is h l2 s0 p2]
      have q1 := Int.mul_pos p1 p1
      have q2 := Int.mul_pos p2 p2
      rw [mean_is (by omega) (by omega) (by omega) (by omega)]
      rfl
    · rw [if_neg hq, if_pos]
      · rfl
      · revert hq
        cases okAll 1 99 [k, m] <;> cases mixOk f p.length <;> cases mixOk s p.length <;> simp
  · rw [if_neg h, if_neg h]
    rfl
end Mx
namespace Mx
open Ks604 (Rational)
open Ks604.Rational (make zero ofInt ofNat lt)
open Ks608 (allPairs pairIndex)

/-! ### All mixtures with so many parts -/
/-- a start with one more component, in all ways -/
def more (T : Int) (s : List Int) : List (List Int) := (List.range (T - s.sum + 1).toNat).map fun (j : Nat) => s ++ [(j : Int)]
def starts (T : Int) : Nat → List (List Int)
  | 0 => [[]]
  | k + 1 => (starts T k).flatMap (more T)
/-- the last component takes what is left -/
def full (T : Int) (s : List Int) : List Int := s ++ [T - s.sum]
def mixs (n : Nat) (T : Int) : List (List Int) := (starts T (n - 1)).map (full T)
def asZ (x : List Nat) : List Int := x.map Int.ofNat
theorem mixs_is : ∀ n, n < 5 → 1 ≤ n → ∀ T : Nat, T < 11 → mixs n (T : Int) = (Ks608.mixtures n T).map asZ := by decide +kernel
theorem mixs_good : ∀ n, n < 5 → 1 ≤ n → ∀ T : Nat, T < 11 → ∀ x ∈ Ks608.mixtures n T, x.length = n ∧ x.sum = T := by decide +kernel
theorem mixs_some : ∀ n, n < 5 → 1 ≤ n → ∀ T : Nat, T < 11 → Ks608.mixtures n T ≠ [] := by decide +kernel
theorem mixs_few : ∀ n, n < 5 → 1 ≤ n → ∀ T : Nat, T < 11 → (mixs n (T : Int)).length ≤ 1000 := by decide +kernel
theorem starts_few : ∀ k, k < 4 → ∀ T : Nat, T < 11 → (starts (T : Int) k).length ≤ 1000 := by decide +kernel
theorem starts_good : ∀ k, k < 4 → ∀ T : Nat, T < 11 → ∀ s ∈ starts (T : Int) k, 0 ≤ s.sum ∧ s.sum ≤ (T : Int) ∧ s.length = k := by decide +kernel
theorem mixs_all : ∀ n, n < 5 → 1 ≤ n → ∀ T : Nat, T < 11 → ∀ x ∈ mixs n (T : Int), x.length = n ∧ okAll 0 100000000 x = true := by decide +kernel

theorem mixs_pos {n T : Nat} (h1 : n < 5) (h2 : 1 ≤ n) (h3 : T < 11) (h4 : 1 ≤ T) {x : List Int} (h : x ∈ mixs n (T : Int)) : 0 < x.sum := by
  rw [mixs_is n h1 h2 T h3] at h
  obtain ⟨y, hy, rfl⟩ := List.mem_map.mp h
  have e := toNat_sum (asZ y) (fun z hz => by obtain ⟨n, _, rfl⟩ := List.mem_map.mp hz; exact Int.natCast_nonneg n)
  have e2 : (asZ y).map Int.toNat = y := by
    unfold asZ
    rw [List.map_map]
    exact List.map_id'' (fun _ => rfl) y
  rw [e2, (mixs_good n h1 h2 T h3 y hy).2] at e
  omega

/-! ### The best one -/
def step (g : List Int → Int) (best x : List Int) : List Int := if g best < g x then x else best
def pick (g : List Int → Int) (l : List (List Int)) : List Int := l.foldl (step g) (l.getD 0 [])
theorem step_self (g : List Int → Int) (x : List Int) : step g x x = x := by
  unfold step
  split <;> rfl
theorem lt_make {a c : Int} {d : Nat} (hd : 0 < d) : lt (make a d) (make c d) = decide (a < c) := by
  unfold Ks604.Rational.lt
  have h1 := make_cross (a := a) hd
  have h2 := make_cross (a := c) hd
  have p1 := make_den (a := a) hd
  have p2 := make_den (a := c) hd
  generalize (make a d).num = n1 at *
  generalize (make c d).num = n2 at *
  generalize (make a d).den = d1 at *
  generalize (make c d).den = d2 at *
  refine decide_eq_decide.mpr ?_
  have q1 : (0 : Int) < d := by omega
  have q2 : (0 : Int) < (d1 : Int) * (d2 : Int) := Int.mul_pos (by omega) (by omega)
  have e1 : (n1 * (d2 : Int)) * d = a * ((d1 : Int) * (d2 : Int)) := by grind
  have e2 : (n2 * (d1 : Int)) * d = c * ((d1 : Int) * (d2 : Int)) := by grind
  constructor
  · intro h
    have z := Int.mul_lt_mul_of_pos_right h q1
    rw [e1, e2] at z
    exact Int.lt_of_mul_lt_mul_right z (Int.le_of_lt q2)
  · intro h
    have z := Int.mul_lt_mul_of_pos_right h q2
    rw [← e1, ← e2] at z
    exact Int.lt_of_mul_lt_mul_right z (Int.le_of_lt q1)
theorem ints_toNat (x : List Nat) : (asZ x).map Int.toNat = x := by
  unfold asZ
  rw [List.map_map]
  exact List.map_id'' (fun _ => rfl) x
theorem ints_nonneg (x : List Nat) : ∀ z ∈ asZ x, 0 ≤ z := by
  intro z hz
  obtain ⟨n, _, rfl⟩ := List.mem_map.mp hz
  exact Int.natCast_nonneg n
theorem ints_sum (x : List Nat) : (asZ x).sum = (x.sum : Int) := by
  have e := toNat_sum (asZ x) (ints_nonneg x)
  rw [ints_toNat] at e
  exact e.symm
theorem ints_len (x : List Nat) : (asZ x).length = x.length := by
  unfold asZ
  rw [List.length_map]
theorem predict_nat {p b : List Int} {x : List Nat} (ok : respOk p b = true) (hl : x.length = p.length) (hs : 0 < x.sum) :
    Ks608.predict ⟨p, b⟩ (Ks608.fractions x) = make (numer p b (asZ x)) (x.sum * x.sum) := by
  have e := predict_is (m := asZ x) ok (by rw [ints_len]; exact hl) (ints_nonneg x) (by rw [ints_sum]; omega)
  rw [ints_toNat] at e
  rw [e, ints_sum, ← Int.natCast_mul, Int.toNat_natCast]
theorem fold_is {p b : List Int} {T : Nat} (ok : respOk p b = true) (hT : 0 < T) : ∀ (l : List (List Nat)) (f : List Nat), (∀ x ∈ l, x.length = p.length ∧ x.sum = T) → f.length = p.length → f.sum = T →
    asZ (l.foldl (fun best x => if lt (Ks608.predict ⟨p, b⟩ (Ks608.fractions best)) (Ks608.predict ⟨p, b⟩ (Ks608.fractions x)) then x else best) f) = (l.map asZ).foldl (step (numer p b)) (asZ f)
  | [], f, _, _, _ => rfl
  | x :: l, f, hl, h1, h2 => by
    have hx := hl x List.mem_cons_self
    have e : lt (Ks608.predict ⟨p, b⟩ (Ks608.fractions f)) (Ks608.predict ⟨p, b⟩ (Ks608.fractions x)) = decide (numer p b (asZ f) < numer p b (asZ x)) := by
      rw [predict_nat ok h1 (by omega), predict_nat ok hx.1 (by omega), h2, hx.2]
      exact lt_make (Nat.mul_pos hT hT)
    rw [List.foldl_cons, List.map_cons, List.foldl_cons]
    have es : step (numer p b) (asZ f) (asZ x) = asZ (if lt (Ks608.predict ⟨p, b⟩ (Ks608.fractions f)) (Ks608.predict ⟨p, b⟩ (Ks608.fractions x)) then x else f) := by
      rw [e]
      unfold step
      by_cases c : numer p b (asZ f) < numer p b (asZ x)
      · rw [if_pos c, if_pos (decide_eq_true c)]
      · rw [if_neg c, if_neg (by simpa using c)]
    rw [es]
    refine fold_is ok hT l _ (fun y hy => hl y (List.mem_cons_of_mem _ hy)) ?_ ?_
    · split
      · exact hx.1
      · exact h1
    · split
      · exact hx.2
      · exact h2
theorem best_is {p b : List Int} {T : Nat} (ok : respOk p b = true) (h1 : 1 ≤ T) (h2 : T ≤ 10) : asZ (Ks608.bestMixture ⟨p, b⟩ T) = pick (numer p b) (mixs p.length (T : Int)) := by
  obtain ⟨hn, _, _, _⟩ := respOk_spec ok
  have g := mixs_good p.length (by omega) (by omega) T (by omega)
  have s := mixs_some p.length (by omega) (by omega) T (by omega)
  rw [mixs_is p.length (by omega) (by omega) T (by omega)]
  unfold Ks608.bestMixture
  show asZ (match Ks608.mixtures p.length T with | [] => [] | first :: rest => _) = _
  generalize Ks608.mixtures p.length T = l at g s
  match l, g, s with
  | [], _, s => exact absurd rfl s
  | f :: r, g, _ =>
    have hf := g f List.mem_cons_self
    show asZ (r.foldl _ f) = (asZ f :: r.map asZ).foldl (step (numer p b)) (asZ f)
    rw [List.foldl_cons, step_self]
    exact fold_is ok (by omega) r f (fun y hy => g y (List.mem_cons_of_mem _ hy)) hf.1 hf.2
theorem foldl_mem (g : List Int → Int) : ∀ (l : List (List Int)) (f : List Int), l.foldl (step g) f = f ∨ l.foldl (step g) f ∈ l
  | [], f => .inl rfl
  | x :: l, f => by
    rw [List.foldl_cons]
    have e : step g f x = f ∨ step g f x = x := by
      unfold step
      split
      · exact .inr rfl
      · exact .inl rfl
    rcases foldl_mem g l (step g f x) with h | h
    · rw [h]
      rcases e with e | e
      · exact .inl e
      · rw [e]
        exact .inr List.mem_cons_self
    · exact .inr (List.mem_cons_of_mem _ h)
theorem pick_mem (g : List Int → Int) {l : List (List Int)} (h : l ≠ []) : pick g l ∈ l := by
  match l, h with
  | f :: r, _ =>
    unfold pick
    rcases foldl_mem g (f :: r) ((f :: r).getD 0 []) with e | e
    · rw [e]
      exact List.mem_cons_self
    · exact e
/-- what is due of best_mixture -/
def bestDue (T : Int) (p b : List Int) : List Int := (p.length : Int) :: (pick (numer p b) (mixs p.length T) ++ duo (resp p b (pick (numer p b) (mixs p.length T))))
theorem due_best (T : Int) (p b : List Int) (T0 : 0 ≤ T) : PyKs608.best_mixture T p b = if respOk p b = true then (if 1 ≤ T ∧ T ≤ 10 then bestDue T p b else [-22]) else [-22] := by
  show Ks608Neutral.integers (Ks608.withResponses p b fun r => if T.toNat < 1 ∨ 10 < T.toNat then Ks608.number (-22)
    else { value := Ks608.componentCount r, rest := Ks604.integers (Ks608.bestMixture r T.toNat) ++ Ks604.pairs [Ks608.predict r (Ks608.fractions (Ks608.bestMixture r T.toNat))] }) = _
  unfold Ks608.withResponses
  rw [parse_is]
  by_cases h : respOk p b = true
  · rw [if_pos h, if_pos h]
    show Ks608Neutral.integers (if T.toNat < 1 ∨ 10 < T.toNat then _ else _) = _
    by_cases hT : 1 ≤ T ∧ T ≤ 10
    · rw [if_pos hT, if_neg (by omega)]
      obtain ⟨t, rfl⟩ : ∃ t : Nat, T = (t : Int) := ⟨T.toNat, by omega⟩
      rw [Int.toNat_natCast]
      show (p.length : Int) :: (asZ (Ks608.bestMixture ⟨p, b⟩ t) ++ duo (Ks608.predict ⟨p, b⟩ (Ks608.fractions (Ks608.bestMixture ⟨p, b⟩ t)))) = _
      unfold bestDue
      have e := best_is h (T := t) (by omega) (by omega)
      obtain ⟨hn, _, _, _⟩ := respOk_spec h
      have g := mixs_good p.length (by omega) (by omega) t (by omega)
      have m : pick (numer p b) (mixs p.length (t : Int)) ∈ mixs p.length (t : Int) := by
        refine pick_mem _ ?_
        rw [mixs_is p.length (by omega) (by omega) t (by omega)]
        intro z
        exact mixs_some p.length (by omega) (by omega) t (by omega) (List.map_eq_nil_iff.mp z)
      rw [mixs_is p.length (by omega) (by omega) t (by omega)] at m
      obtain ⟨x, hx, ex⟩ := List.mem_map.mp m
      rw [← mixs_is p.length (by omega) (by omega) t (by omega)] at ex
      have eb : Ks608.bestMixture ⟨p, b⟩ t = x := by
        rw [← ints_toNat (Ks608.bestMixture ⟨p, b⟩ t), e, ← ex, ints_toNat]
      have gx := g x hx
      rw [← e, eb, predict_nat h gx.1 (by omega)]
      unfold resp
      rw [ints_sum, ← Int.natCast_mul, Int.toNat_natCast]
    · rw [if_neg hT, if_pos (by omega)]
      rfl
  · rw [if_neg h, if_neg h]
    rfl
end Mx
namespace Mx
open Ks604 (Rational)
open Ks604.Rational (make zero ofInt ofNat lt)
open Ks608 (allPairs pairIndex)

/-! ### Synergies -/
theorem lt_zero (a : Int) : lt zero (ofInt a) = decide (0 < a) := by
  show decide ((0 : Int) * ((1 : Nat) : Int) < a * ((1 : Nat) : Int)) = _
  refine decide_eq_decide.mpr ?_
  omega
/-- the components that are due -/
def syn (c : Nat) (p b : List Int) : List Nat := (List.range p.length).filter fun j => j != c && decide (0 < I p b (min c j, max c j))
theorem syn_is (c : Nat) (p b : List Int) : Ks608.synergies ⟨p, b⟩ c = syn c p b := by
  unfold Ks608.synergies syn
  show (List.range p.length).filter _ = _
  congr 1
  funext j
  rw [interaction_is, lt_zero]
  unfold I
  rfl
def synDue (c : Nat) (p b : List Int) : List Int := ((syn c p b).length : Int) :: asZ (syn c p b)
theorem due_syn (c : Int) (p b : List Int) (c0 : 0 ≤ c) : PyKs608.synergies c p b = if respOk p b = true then (if c < (p.length : Int) then synDue c.toNat p b else [-2]) else [-22] := by
  show Ks608Neutral.integers (Ks608.withResponses p b fun r => if Ks608.componentCount r ≤ c.toNat then Ks608.number (-2) else Ks604.listResult (Ks608.synergies r c.toNat)) = _
  unfold Ks608.withResponses
  rw [parse_is]
  by_cases h : respOk p b = true
  · rw [if_pos h, if_pos h]
    show Ks608Neutral.integers (if p.length ≤ c.toNat then _ else Ks604.listResult (Ks608.synergies ⟨p, b⟩ c.toNat)) = _
    by_cases hc : c < (p.length : Int)
    · rw [if_pos hc, if_neg (by omega), syn_is]
      rfl
    · rw [if_neg hc, if_pos (by omega)]
      rfl
  · rw [if_neg h, if_neg h]
    rfl

/-! ### The number of mixtures -/
/-- how many mixtures, without making them -/
def cnt : Nat → Nat → Nat
  | 0, T => if T = 0 then 1 else 0
  | n + 1, T => ((List.range (T + 1)).map fun a => cnt n (T - a)).sum
theorem len_flat {α β : Type} (f : α → List β) : ∀ l : List α, (l.flatMap f).length = (l.map fun x => (f x).length).sum
  | [] => rfl
  | x :: r => by rw [List.flatMap_cons, List.length_append, len_flat f r, List.map_cons, List.sum_cons]
theorem mixtures_len : ∀ n T, (Ks608.mixtures n T).length = cnt n T
  | 0, T => by
    unfold Ks608.mixtures cnt
    split <;> rfl
  | n + 1, T => by
    unfold Ks608.mixtures cnt
    rw [len_flat]
    congr 1
    refine List.map_congr_left fun a _ => ?_
    rw [List.length_map]
    exact mixtures_len n (T - a)
theorem cnt1 : ∀ T, T < 21 → cnt 1 T = 1 := by decide +kernel
theorem cnt2 : ∀ T, T < 21 → cnt 2 T = T + 1 := by decide +kernel
theorem cnt3 : ∀ T, T < 21 → cnt 3 T = (T + 1) * (T + 2) / 2 := by decide +kernel
theorem cnt4 : ∀ T, T < 21 → cnt 4 T = (T + 1) * (T + 2) * (T + 3) / 6 := by decide +kernel
theorem due_count (n T : Int) (n0 : 0 ≤ n) (T0 : 0 ≤ T) : PyKs608.count_mixtures n T = if 1 ≤ n ∧ n ≤ 4 ∧ T ≤ 20 then [(cnt n.toNat T.toNat : Int)] else [-22] := by
  show Ks608Neutral.integers (if n.toNat < 1 ∨ 4 < n.toNat ∨ 20 < T.toNat then Ks608.number (-22) else Ks608.number ((Ks608.mixtures n.toNat T.toNat).length : Int)) = _
  by_cases h : 1 ≤ n ∧ n ≤ 4 ∧ T ≤ 20
  · rw [if_pos h, if_neg (by omega), mixtures_len]
    rfl
  · rw [if_neg h, if_pos (by omega)]
    rfl
end Mx
namespace Mx
open Ks608 (allPairs pairIndex)

/-! ### Partners: the pairs gone through -/
def hit (c : Int) (q : (Nat × Nat) × Int) : Bool := ((q.1.1 : Int) == c || ((q.1.2 : Int) == c || false)) && decide (0 < q.2)
def oth (c : Int) (q : (Nat × Nat) × Int) : Int := (q.1.1 : Int) + (q.1.2 : Int) - c
def partners (c : Int) (p b : List Int) : List Int := (((allPairs p.length).zip (inter p b)).filter (hit c)).map (oth c)
theorem zip_map_self {α β : Type} (f : α → β) : ∀ l : List α, l.zip (l.map f) = l.map fun x => (x, f x)
  | [] => rfl
  | x :: r => by rw [List.map_cons, List.zip_cons_cons, zip_map_self f r, List.map_cons]
/-- the two walks over signs alone -/
def walkP (n c : Nat) (s : Nat × Nat → Bool) : List Int := ((allPairs n).filter fun q => (q.1 == c || q.2 == c) && s q).map fun q => (q.1 : Int) + (q.2 : Int) - (c : Int)
def walkC (n c : Nat) (s : Nat × Nat → Bool) : List Int := asZ ((List.range n).filter fun j => j != c && s (min c j, max c j))
def tab (x1 x2 x3 x4 x5 x6 : Bool) (q : Nat × Nat) : Bool :=
  if q = (0, 1) then x1 else if q = (0, 2) then x2 else if q = (0, 3) then x3 else if q = (1, 2) then x4 else if q = (1, 3) then x5 else x6
theorem walks_tab : ∀ n, n < 5 → ∀ c, c < n → ∀ x1 x2 x3 x4 x5 x6, walkP n c (tab x1 x2 x3 x4 x5 x6) = walkC n c (tab x1 x2 x3 x4 x5 x6) := by decide +kernel
theorem pairs_in : ∀ n, n < 5 → ∀ q ∈ allPairs n, q = (0, 1) ∨ q = (0, 2) ∨ q = (0, 3) ∨ q = (1, 2) ∨ q = (1, 3) ∨ q = (2, 3) := by decide
theorem pair_of : ∀ n, n < 5 → ∀ c, c < n → ∀ j, j < n → (j = c ∨ (allPairs n).contains (min c j, max c j) = true) := by decide +kernel
theorem tab_is (s : Nat × Nat → Bool) {q : Nat × Nat} (h : q = (0, 1) ∨ q = (0, 2) ∨ q = (0, 3) ∨ q = (1, 2) ∨ q = (1, 3) ∨ q = (2, 3)) :
    tab (s (0, 1)) (s (0, 2)) (s (0, 3)) (s (1, 2)) (s (1, 3)) (s (2, 3)) q = s q := by
  rcases h with h | h | h | h | h | h <;> subst h <;> rfl
theorem walks (n c : Nat) (hn : n < 5) (hc : c < n) (s : Nat × Nat → Bool) : walkP n c s = walkC n c s := by
  have z := walks_tab n hn c hc (s (0, 1)) (s (0, 2)) (s (0, 3)) (s (1, 2)) (s (1, 3)) (s (2, 3))
  have e1 : walkP n c (tab (s (0, 1)) (s (0, 2)) (s (0, 3)) (s (1, 2)) (s (1, 3)) (s (2, 3))) = walkP n c s := by
    unfold walkP
    congr 1
    refine List.filter_congr fun q hq => ?_
    rw [tab_is s (pairs_in n hn q hq)]
  have e2 : walkC n c (tab (s (0, 1)) (s (0, 2)) (s (0, 3)) (s (1, 2)) (s (1, 3)) (s (2, 3))) = walkC n c s := by
    unfold walkC
    congr 1
    refine List.filter_congr fun j hj => ?_
    by_cases e : j = c
    · rw [e, bne_self_eq_false, Bool.false_and, Bool.false_and]
    · rcases pair_of n hn c hc j (List.mem_range.mp hj) with z | z
      · exact absurd z e
      · rw [tab_is s (pairs_in n hn _ (List.contains_iff_mem.mp z))]
  rw [← e1, ← e2]
  exact z
theorem int_beq (a c : Nat) : ((a : Int) == (c : Int)) = (a == c) := by
  by_cases h : a = c
  · rw [h, beq_self_eq_true, beq_self_eq_true]
  · rw [beq_eq_false_iff_ne.mpr h, beq_eq_false_iff_ne]
    omega
theorem partners_is {p b : List Int} (h : respOk p b = true) {c : Nat} (hc : c < p.length) : partners (c : Int) p b = asZ (syn c p b) := by
  obtain ⟨hn, _, _, _⟩ := respOk_spec h
  have w := walks p.length c (by omega) hc fun q => decide (0 < I p b q)
  unfold walkC at w
  unfold partners syn
  rw [inter_is h, zip_map_self, List.filter_map, List.map_map]
  refine Eq.trans ?_ w
  unfold walkP
  have e : (hit (c : Int) ∘ fun q => (q, I p b q)) = fun q : Nat × Nat => (q.1 == c || q.2 == c) && decide (0 < I p b q) := by
    funext q
    show ((((q.1 : Int) == (c : Int)) || (((q.2 : Int) == (c : Int)) || false)) && decide (0 < I p b q)) = _
    rw [int_beq, int_beq, Bool.or_false]
  rw [e]
  rfl
theorem partners_few {p b : List Int} (h : respOk p b = true) (c : Int) : (partners c p b).length ≤ 6 := by
  obtain ⟨hn, _, _, _⟩ := respOk_spec h
  unfold partners
  rw [List.length_map]
  refine Nat.le_trans (List.length_filter_le _ _) ?_
  rw [List.length_zip]
  refine Nat.le_trans (Nat.min_le_left _ _) ?_
  rcases hn with e | e | e | e <;> rw [e]
  · rw [pairs1]; decide
  · rw [pairs2]; decide
  · rw [pairs3]; decide
  · rw [pairs4]; decide

/-! ### The product -/
def bin (w : Int) : Nat → Int
  | 0 => 1
  | k + 1 => bin w k * (w - (k : Int)) / ((k : Int) + 1)
theorem bin_cnt : ∀ n, n < 4 → ∀ T : Nat, T < 21 → bin ((T : Int) + ((n + 1 : Nat) : Int) - 1) n = (cnt (n + 1) T : Int) := by decide +kernel
end Mx
set_option Elab.async false
set_option linter.all false
set_option maxRecDepth 100000
set_option maxHeartbeats 4000000
namespace Pb
open PySem PySem.Spec PyProof.Rows L2
def topS (i : Nat) : Stmt := PySem.Challenge.pw_pairblend_s06_count_mixtures.main.body.getD i (.Pass ⟨0, 0, 0, 0⟩)
abbrev sBi : Stmt := topS 4
abbrev sCM : Stmt := topS 5
/-! ### heaps, lists -/
theorem same_upd {H : Hp} {p : Addr} {o : HO} (h : H p = none) : Same H (upd H p o) := fun b x e => by
  rw [upd_ne (ne_of_none e h)]
  exact e
/-- what was tracked ahead stands, a new object is changed -/
theorem same_chg {H H1 : Hp} {p : Addr} {o : HO} (s : Same H H1) (h : H p = none) : Same H (upd H1 p o) := fun b x e => by
  rw [upd_ne (ne_of_none e h)]
  exact s b x e
theorem take_snoc {α : Type} {l : List α} {i : Nat} {x : α} (h : l[i]? = some x) : l.take (i + 1) = l.take i ++ [x] := by
  rw [List.take_add_one, h]
  rfl
theorem map_at {α β : Type} {f : α → β} {l : List α} {i : Nat} {y : β} (h : (l.map f)[i]? = some y) : ∃ z, l[i]? = some z ∧ y = f z := by
  rw [List.getElem?_map] at h
  cases e : l[i]? with
  | none =>
    rw [e] at h
    cases h
  | some z =>
    rw [e] at h
    exact ⟨z, rfl, (Option.some.inj h).symm⟩
theorem lt_of_at {α : Type} {l : List α} {i : Nat} {x : α} (h : l[i]? = some x) : i < l.length := (List.getElem?_eq_some_iff.mp h).1
/-- a constant of the module that is a number -/
theorem pe_num {X : Cx} {x : Str} {i : Int} {t : Tok} {pos : Pos} (hg : Gl X x) (hm : X.mg x = some (.int i t)) (hd : (x == ("__debug__" : Str)) = false := by decide) : PE X (.Name x pos) (tC (.int i)) := pe_glob (v := .int i) hg hm ⟨_, rfl⟩ hd
/-! ### bounds -/
theorem all_mem {lo hi : Int} {l : List Int} (h : Mx.okAll lo hi l = true) {z : Int} (hz : z ∈ l) : lo ≤ z ∧ z ≤ hi := by
  have e := List.all_eq_true.mp h z hz
  rw [Bool.and_eq_true, decide_eq_true_eq, decide_eq_true_eq] at e
  exact e
theorem all_at {lo hi : Int} {l : List Int} (h : Mx.okAll lo hi l = true) {i : Nat} (hi' : i < l.length) : lo ≤ l.getD i 0 ∧ l.getD i 0 ≤ hi := by
  rw [Mx.getD_at hi']
  exact all_mem h (List.getElem_mem hi')
theorem sum_most {hi : Int} : ∀ {l : List Int}, Mx.okAll 0 hi l = true → l.sum ≤ hi * l.length
  | [], _ => by simp
  | z :: r, h => by
    have h1 := all_mem h (List.mem_cons_self ..)
    have h2 := sum_most (l := r) (by
      unfold Mx.okAll at h ⊢
      rw [List.all_cons, Bool.and_eq_true] at h
      exact h.2)
    rw [List.sum_cons, List.length_cons, Int.natCast_add, Int.mul_add]
    omega
theorem mul_ok {i j : Int} (h1 : -1000000 ≤ j) (h2 : j ≤ 1000000) : CMul i j := .inr ⟨by omega, by omega⟩
theorem sum_pos {hi : Int} : ∀ {l : List Int}, Mx.okAll 0 hi l = true → 0 ≤ l.sum
  | [], _ => by simp
  | z :: r, h => by
    have h1 := all_mem h (List.mem_cons_self ..)
    have h2 := sum_pos (l := r) (hi := hi) (by
      unfold Mx.okAll at h ⊢
      rw [List.all_cons, Bool.and_eq_true] at h
      exact h.2)
    rw [List.sum_cons]
    omega
theorem all_more {lo hi hi' : Int} {l : List Int} (h : Mx.okAll lo hi l = true) (hh : hi ≤ hi') : Mx.okAll lo hi' l = true := by
  unfold Mx.okAll
  refine List.all_eq_true.mpr fun z hz => ?_
  have e := all_mem h hz
  rw [Bool.and_eq_true, decide_eq_true_eq, decide_eq_true_eq]
  omega
theorem mul_big {i j : Int} (h1 : -1000000000000 ≤ j) (h2 : j ≤ 1000000000000) : CMul i j := .inr ⟨by omega, by omega⟩
/-- a def of the program, as a caller needs it -/
def HasD (K : PySem.W.Frag) (mg : Str → Option Value) (nm : Str) (st : Stmt) (ps : List Str) : Prop := ∃ (f : Addr) (fd : FuncData), Fun K nm nm st f fd ∧ mg nm = some (.ref f) ∧ Binds K fd ps []
/-! ### binomial -/
def spBi (K : PySem.W.Frag) : Sp := fun vs H Q _ => ∃ (w : Int) (k : Nat), vs = [.int w, .int (k : Int)] ∧ -1000 ≤ w ∧ w ≤ 1000 ∧ k ≤ 1000 ∧
  ∀ H', Same H H' → Q (.int (Mx.bin w k)) H'
theorem scBi : FnScope ["whole", "chosen", "ways", "step"] ["whole", "chosen"] (defScope sBi) := ⟨rfl, rfl, rfl, by decide +kernel, rfl, by decide +kernel, by decide +kernel⟩
theorem ok_bi {P : Program} {w : World} {K : PySem.W.Frag} {mg : Str → Option Value} {base : Heap} {f : Addr} {fd : FuncData} {lv : Nat} (F : Fun K "binomial" "binomial" sBi f fd) (mr : mg "range" = none) :
    FnOk P w K mg base CX0 (lv + 1) f fd ["whole", "chosen"] (spBi K) := by
  refine F.ok scBi (fun vs H Q E h => ?_) (fun cdv A outer s H vs Q E hr h => ?_)
  · obtain ⟨n, k, rfl, _⟩ := h
    rfl
  · obtain ⟨n, k, rfl, h1, h2, h3, q⟩ := h
    refine ⟨_, pss_cons (ps_set (i := 2) scBi.nd rfl (.inl rfl) pe_int)
      (pss_cons (ps_for PassesOwn.never rfl (pi_range1 (by rfl) mr (pa_cons (pv 1) pa_nil)) (pg_name (i := 3) scBi.nd rfl (Or.inl rfl))
        (pss_one (ps_set (i := 2) scBi.nd rfl (.inl rfl) (pe_op op_fdiv (pe_op op_mul (pv 2) (pe_op op_sub (pv 0) (pv 3))) (pe_op op_add (pv 3) pe_int)))))
      (pss_one (ps_ret (pv 2)))), ?_⟩
    refine ⟨_, rfl, (k : Int), rfl, by omega, by omega, ?_⟩
    rw [Int.toNat_natCast]
    refine for_range (lo := 0) (n := k) (fun i σ H' => ∃ v3, σ = [some (.int n), some (.int (k : Int)), some (.int (Mx.bin n i)), v3] ∧ Same H H')
      ⟨none, rfl, Same.refl H⟩ ?_ ?_
    · rintro i σ H1 hi ⟨v3, rfl, sm⟩
      rw [Int.zero_add]
      refine ⟨_, rfl, _, rfl, _, rfl, _, _, rfl, rfl, _, _, rfl, rfl, mul_big (by omega) (by omega), _, rfl, _, _, rfl, rfl, _, _, rfl, rfl, ⟨by omega, by omega⟩, ?_⟩
      exact ⟨_, rfl, sm⟩
    · rintro σ H1 ⟨v3, rfl, sm⟩
      exact ⟨_, rfl, q H1 sm⟩
/-! ### count_mixtures -/
def spCM (K : PySem.W.Frag) : Sp := fun vs H Q _ => ∃ (n T : Int), vs = [.int n, .int T] ∧ 0 ≤ n ∧ 0 ≤ T ∧
  ∀ H' r, H' r = some (.lst ((PyKs608.count_mixtures n T).map V.int)) → Q (.ref r) H'
theorem scCM : FnScope ["components", "parts"] ["components", "parts"] (defScope sCM) := ⟨rfl, rfl, rfl, by decide +kernel, rfl, by decide +kernel, by decide +kernel⟩
theorem ok_cm {P : Program} {w : World} {K : PySem.W.Frag} {mg : Str → Option Value} {base : Heap} {f : Addr} {fd : FuncData} (F : Fun K "count_mixtures" "count_mixtures" sCM f fd)
    (mr : mg "range" = none) (BI : HasD K mg "binomial" sBi ["whole", "chosen"]) (oo : ∃ t, mg "OUT_OF_LIMITS" = some (.int (-22) t)) (mc : ∃ t, mg "MOST_COMPONENTS" = some (.int 4 t)) (mp : ∃ t, mg "MOST_COUNTED_PARTS" = some (.int 20 t)) :
    FnOk P w K mg base CX0 2 f fd ["components", "parts"] (spCM K) := by
  obtain ⟨fBi, fdBi, FBi, gBi, bBi⟩ := BI
  have GBi : FnOk P w K mg base CX0 1 fBi fdBi ["whole", "chosen"] (spBi K) := ok_bi FBi mr
  obtain ⟨t1, gOO⟩ := oo
  obtain ⟨t2, gMC⟩ := mc
  obtain ⟨t3, gMP⟩ := mp
  refine F.ok scCM (fun vs H Q E h => ?_) (fun cdv A outer s H vs Q E hr h => ?_)
  · obtain ⟨n, T, rfl, _⟩ := h
    rfl
  · obtain ⟨n, T, rfl, n0, T0, q⟩ := h
    refine ⟨_, pss_cons (ps_if (pt_not (pt_chain op_le op_le pe_int (pv 0) (pe_num rfl gMC))) (pss_one (ps_ret (pe_lst (pa_cons (pe_num rfl gOO) pa_nil)))) pss_nil)
      (pss_cons (ps_if (pt_not (pt_chain op_le op_le pe_int (pv 1) (pe_num rfl gMP))) (pss_one (ps_ret (pe_lst (pa_cons (pe_num rfl gOO) pa_nil)))) pss_nil)
      (pss_one (ps_ret (pe_lst (pa_cons (pe_call GBi hr (by rfl) gBi FBi.kp bBi .nil pass0 (pa_cons (pe_op op_sub (pe_op op_add (pv 1) (pv 0)) pe_int) (pa_cons (pe_op op_sub (pv 0) pe_int) pa_nil))) pa_nil))))), ?_⟩
    have due := Mx.due_count n T n0 T0
    have no : ¬ (1 ≤ n ∧ n ≤ 4 ∧ T ≤ 20) → ∀ H', 1 ≤ sizeLine ∧ ∀ r, H' r = none → Q (.ref r) (upd H' r (.lst [.int (-22)])) := fun c H' => by
      refine ⟨(by show 1 ≤ sizeLine; decide), fun r nr => q _ r ?_⟩
      rw [if_neg c] at due
      rw [upd_same, due]
      rfl
    refine ⟨_, rfl, _, _, rfl, rfl, _, rfl, ?_⟩
    by_cases c1 : (1 : Int) ≤ n
    case neg =>
      rw [decide_eq_false c1]
      refine iteF ?_
      refine ⟨_, rfl, ?_⟩
      exact no (by omega) H
    rw [decide_eq_true c1]
    refine iteT ?_
    refine ⟨_, _, rfl, rfl, _, rfl, ?_⟩
    by_cases c2 : n ≤ 4
    case neg =>
      rw [decide_eq_false c2]
      exact no (by omega) H
    rw [decide_eq_true c2]
    refine ⟨_, rfl, _, _, rfl, rfl, _, rfl, ?_⟩
    rw [decide_eq_true T0]
    refine iteT ?_
    refine ⟨_, _, rfl, rfl, _, rfl, ?_⟩
    by_cases c3 : T ≤ 20
    case neg =>
      rw [decide_eq_false c3]
      exact no (by omega) H
    rw [decide_eq_true c3]
    rw [if_pos ⟨c1, c2, c3⟩] at due
    obtain ⟨k, rfl⟩ : ∃ k : Nat, n = ((k + 1 : Nat) : Int) := ⟨n.toNat - 1, by omega⟩
    obtain ⟨t, rfl⟩ : ∃ t : Nat, T = (t : Int) := ⟨T.toNat, by omega⟩
    rw [Int.toNat_natCast, Int.toNat_natCast, ← Mx.bin_cnt k (by omega) t (by omega)] at due
    have ek : ((k + 1 : Nat) : Int) - 1 = (k : Int) := by omega
    refine ⟨_, rfl, _, rfl, _, _, rfl, rfl, _, _, rfl, rfl, _, rfl, _, _, rfl, rfl, (t : Int) + ((k + 1 : Nat) : Int) - 1, k, congrArg (fun z => [V.int ((t : Int) + ((k + 1 : Nat) : Int) - 1), V.int z]) ek, by omega, by omega, by omega, fun H1 s1 => ?_⟩
    refine ⟨(by show 1 ≤ sizeLine; decide), fun r nr => q _ r ?_⟩
    rw [upd_same, due]
    rfl
/-! ### the end: what the top has written -/
theorem all_mk {P : Program} {w : World} {K : PySem.W.Frag} {h : Heap} {mg : Str → Option Value} {fa f1 f2 : Addr} (X : K.In h) (G : h.Ns mainGlobals mg) (hfa : mg "count_mixtures" = some (.ref fa))
    {od1 an1 od2 an2 : Option Addr} {sl1 sl2 : Array (Option Value)} {oc1 kV1 dc1 pm1 cd1 ct1 oc2 kV2 dc2 pm2 cd2 ct2 : Value} {t1 t2 t3 : Tok}
    (a1 : PySem.W.nsIn K mainGlobals "binomial" = some (some (.ref f1))) (l1 : K.lookup f1 = some ⟨oc1, od1, .func (PySem.W.fnOf "binomial" "binomial" (defArgs sBi) (defBody sBi) (defScope sBi) .none kV1 dc1 pm1 an1 cd1 ct1), sl1⟩) (c1 : PySem.W.codeIn K cd1 "binomial" = true) (k1 : PySem.W.keepIn K (.ref f1) = true)
    (a2 : PySem.W.nsIn K mainGlobals "count_mixtures" = some (some (.ref f2))) (l2 : K.lookup f2 = some ⟨oc2, od2, .func (PySem.W.fnOf "count_mixtures" "count_mixtures" (defArgs sCM) (defBody sCM) (defScope sCM) .none kV2 dc2 pm2 an2 cd2 ct2), sl2⟩) (c2 : PySem.W.codeIn K cd2 "count_mixtures" = true) (k2 : PySem.W.keepIn K (.ref f2) = true)
    (m1 : PySem.W.nsIn K mainGlobals "OUT_OF_LIMITS" = some (some (.int (-22) t1)))
    (m2 : PySem.W.nsIn K mainGlobals "MOST_COMPONENTS" = some (some (.int 4 t2)))
    (m3 : PySem.W.nsIn K mainGlobals "MOST_COUNTED_PARTS" = some (some (.int 20 t3)))
    (z1 : PySem.W.nsIn K mainGlobals "range" = some none) :
    ∃ fd : FuncData, (∀ (s : Shared) (us : List Value), us.length = (["components", "parts"] : List Str).length → BindsTo s fd ⟨us, []⟩ ((["components", "parts"] : List Str).zip us)) ∧ ∀ base : Heap, K.In base → base.Ns mainGlobals mg → FnOk P w K mg base CX0 2 fa fd ["components", "parts"] (spCM K) := by
  have e := hfa.symm.trans (PySem.W.mg_of X G a2)
  cases e
  have F_binomial := fun_mk (st := sBi) l1 c1 k1
  have b_binomial := F_binomial.binds (ps := ["whole", "chosen"]) fun _ _ _ _ _ _ us hl => match us, hl with | [_, _], _ => rfl
  have h_binomial := PySem.W.mg_of X G a1
  have F_count_mixtures := fun_mk (st := sCM) l2 c2 k2
  have g_OUT_OF_LIMITS := PySem.W.mg_of X G m1
  have g_MOST_COMPONENTS := PySem.W.mg_of X G m2
  have g_MOST_COUNTED_PARTS := PySem.W.mg_of X G m3
  have y_range := PySem.W.mg_none_of X G z1
  exact ⟨PySem.W.fnOf "count_mixtures" "count_mixtures" (defArgs sCM) (defBody sCM) (defScope sCM) .none kV2 dc2 pm2 an2 cd2 ct2, fun s us hu => match us, hu with | [_, _], _ => .of_eq rfl, fun base _ _ => ok_cm F_count_mixtures y_range ⟨_, _, F_binomial, h_binomial, b_binomial⟩ ⟨_, g_OUT_OF_LIMITS⟩ ⟨_, g_MOST_COMPONENTS⟩ ⟨_, g_MOST_COUNTED_PARTS⟩⟩
end Pb
open PySem PySem.W PyProof.Rows
set_option maxRecDepth 100000 in
set_option maxHeartbeats 8000000 in
theorem PySem.Challenge.cw_pairblend_s06_count_mixtures_holds : PySem.Challenge.rw_pairblend_s06_count_mixtures.Holds := by
  w_on; k_headS; (case hw => exact ⟨[.int 0, .int 0], by decide +kernel, by decide +kernel⟩)
  k_fillS
  refine L2.walk_specK (r := PySem.Challenge.rw_pairblend_s06_count_mixtures) (k := 2) (CX := L2.CX0) (ps := ["components", "parts"]) (sp := Pb.spCM) (by decide +kernel) rfl rfl ⟨rfl, by decide, by decide⟩ (fun w h Y => PySem.W.kIn_of Y) ?F ?S (fun _ _ _ _ z => z)
  case F =>
    intro w mg fa h Y KX G hmg
    refine' Pb.all_mk KX G hmg ?a1 ?l1 ?c1 ?k1 ?a2 ?l2 ?c2 ?k2 ?m1 ?m2 ?m3 ?z1
    (case a1 => k_is); (case l1 => k_is); (case c1 => k_is); (case k1 => k_is); (case a2 => k_is); (case l2 => k_is); (case c2 => k_is); (case k2 => k_is)
    (case m1 => k_is); (case m2 => k_is); (case m3 => k_is); (case z1 => k_is)
  case S =>
    intro K H xs a hO hwi hask hx
    cases hx with
    | cons g0 r0 =>
      cases r0 with
      | cons g1 r1 =>
        cases r1
        cases g0
        cases g1
        have q : (Codec.inInt 0 4294967295 a.1 && (Codec.inInt 0 4294967295 a.2.1 && true)) = true := hwi
        rw [Bool.and_eq_true, Bool.and_eq_true] at q
        have n0 := (Codec.inInt_iff.mp q.1).1
        have n1 := (Codec.inInt_iff.mp q.2.1).1
        exact ⟨a.1, a.2.1, rfl, n0, n1, fun H' p hp => .lst (L2.SqL.of hp) (L2.dw_ints _)⟩
#print axioms PySem.Challenge.cw_pairblend_s06_count_mixtures_holds
