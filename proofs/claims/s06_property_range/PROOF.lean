import PyProof.Rows.All
import Wide.All
import OpenK.AllK
import Wide.FinOn
import PyProof.EqAt
import PyProof.EqKinds
import PyProof.TupleCall
import KE.LtSeq
import Open.SpecLaws
import KE.OsGo
import HandS.Base
import HandS.Call
import HandS.List
import HandS.Comp
import HandS.Iter
import HandS.Words
import HandS.WordsList
import HandS.Walk
import HandS.SortRule
import HandS.SortKw
import HandS.ForMost
import HandS.ForSpec
import HandS.Flow
import PySem.Challenge.RW_meanblend_s06_property_range
set_option Elab.async false
set_option linter.all false
set_option maxRecDepth 100000
set_option maxHeartbeats 8000000
namespace MB
open Ks595

/-! ### rational numbers of the specification, each over some denominator above 0 -/
theorem make_pos {n : Int} {d : Nat} (h : d ≠ 0) : Rational.make n d = ⟨(mkRat n d).num, (mkRat n d).den⟩ := by
  unfold Rational.make
  rw [if_neg h, ← Rat.normalize_eq_mkRat h, Rat.normalize_eq]
theorem make_eq {a b : Int} {d e : Nat} (hd : d ≠ 0) (he : e ≠ 0) : Rational.make a d = Rational.make b e ↔ a * (e : Int) = b * (d : Int) := by
  rw [make_pos hd, make_pos he, ← Rat.mkRat_eq_iff hd he]
  constructor
  · intro h
    have h1 := congrArg Rational.num h
    have h2 := congrArg Rational.den h
    exact Rat.ext h1 h2
  · intro h
    rw [h]
theorem make_den_pos {n : Int} {d : Nat} (h : d ≠ 0) : (Rational.make n d).den ≠ 0 := by
  rw [make_pos h]
  exact (mkRat n d).den_nz
/-- numerator and denominator of the lowest terms, against the ones given -/
theorem make_cross {n : Int} {d : Nat} (h : d ≠ 0) : (Rational.make n d).num * (d : Int) = n * ((Rational.make n d).den : Int) := by
  have h1 : mkRat (mkRat n d).num (mkRat n d).den = mkRat n d := Rat.mkRat_self _
  have h2 := (Rat.mkRat_eq_iff (mkRat n d).den_nz h).mp h1
  rw [make_pos h]
  exact h2
theorem make_self {n : Int} {d : Nat} (h : d ≠ 0) : Rational.make (Rational.make n d).num (Rational.make n d).den = Rational.make n d := by
  have e := make_cross (n := n) h
  exact (make_eq (make_den_pos h) h).mpr e
theorem make_mul {n : Int} {d k : Nat} (hd : d ≠ 0) (hk : k ≠ 0) : Rational.make (n * k) (d * k) = Rational.make n d := by
  refine (make_eq (Nat.mul_ne_zero hd hk) hd).mpr ?_
  rw [Int.natCast_mul]
  grind
theorem zero_is {d : Nat} (h : d ≠ 0) : Rational.zero = Rational.make 0 d := by
  have e : Rational.make 0 d = Rational.make 0 1 := (make_eq h (by decide)).mpr (by omega)
  rw [e]
  rfl
theorem ofInt_is (v : Int) : Rational.ofInt v = Rational.make v 1 := by
  unfold Rational.ofInt Rational.make
  rw [if_neg (by decide)]
  simp
theorem ofNat_is (v : Nat) : Rational.ofNat v = Rational.make v 1 := ofInt_is v
theorem ofInt_den {v : Int} {d : Nat} (h : d ≠ 0) : Rational.ofInt v = Rational.make (v * d) d := by
  rw [ofInt_is]
  refine (make_eq (by decide) h).mpr ?_
  simp
theorem ofNat_den {v d : Nat} (h : d ≠ 0) : Rational.ofNat v = Rational.make (v * d) d := ofInt_den h
theorem add_make {a b : Int} {d e : Nat} (hd : d ≠ 0) (he : e ≠ 0) : Rational.add (Rational.make a d) (Rational.make b e) = Rational.make (a * e + b * d) (d * e) := by
  have h1 := make_cross (n := a) hd
  have h2 := make_cross (n := b) he
  unfold Rational.add
  refine (make_eq (Nat.mul_ne_zero (make_den_pos hd) (make_den_pos he)) (Nat.mul_ne_zero hd he)).mpr ?_
  rw [Int.natCast_mul, Int.natCast_mul]
  generalize (Rational.make a d).num = p at *
  generalize ((Rational.make a d).den : Int) = q at *
  generalize (Rational.make b e).num = r at *
  generalize ((Rational.make b e).den : Int) = s at *
  grind
theorem mul_make {a b : Int} {d e : Nat} (hd : d ≠ 0) (he : e ≠ 0) : Rational.mul (Rational.make a d) (Rational.make b e) = Rational.make (a * b) (d * e) := by
  have h1 := make_cross (n := a) hd
  have h2 := make_cross (n := b) he
  unfold Rational.mul
  refine (make_eq (Nat.mul_ne_zero (make_den_pos hd) (make_den_pos he)) (Nat.mul_ne_zero hd he)).mpr ?_
  rw [Int.natCast_mul, Int.natCast_mul]
  generalize (Rational.make a d).num = p at *
  generalize ((Rational.make a d).den : Int) = q at *
  generalize (Rational.make b e).num = r at *
  generalize ((Rational.make b e).den : Int) = s at *
  grind
theorem neg_make {a : Int} {d : Nat} (hd : d ≠ 0) : Rational.neg (Rational.make a d) = Rational.make (-a) d := by
  rw [make_pos hd, make_pos hd]
  unfold Rational.neg
  have e : mkRat (-a) d = - mkRat a d := Rat.neg_mkRat a d ▸ rfl
  rw [e]
  rfl
theorem add_same {a b : Int} {d : Nat} (hd : d ≠ 0) : Rational.add (Rational.make a d) (Rational.make b d) = Rational.make (a + b) d := by
  rw [add_make hd hd]
  refine (make_eq (Nat.mul_ne_zero hd hd) hd).mpr ?_
  rw [Int.natCast_mul]
  grind
theorem sub_same {a b : Int} {d : Nat} (hd : d ≠ 0) : Rational.sub (Rational.make a d) (Rational.make b d) = Rational.make (a - b) d := by
  unfold Rational.sub
  rw [neg_make hd, add_same hd]
  rfl
theorem cross_eq {an q p ad bn s r bd : Int} (h1 : an * q = p * ad) (h2 : bn * s = r * bd) :
    (an * bd) * (q * s) = (p * s) * (ad * bd) ∧ (bn * ad) * (q * s) = (r * q) * (ad * bd) := by
  constructor
  · grind
  · grind
theorem le_cross {a b : Rational} {p r : Int} {q s : Nat} (ha : Rational.make p q = a) (hb : Rational.make r s = b) (hq : q ≠ 0) (hs : s ≠ 0) :
    (a.num * (b.den : Int) ≤ b.num * (a.den : Int)) ↔ (p * (s : Int) ≤ r * (q : Int)) := by
  have h1 := make_cross (n := p) hq
  have h2 := make_cross (n := r) hs
  have h3 := make_den_pos (n := p) hq
  have h4 := make_den_pos (n := r) hs
  rw [ha] at h1 h3
  rw [hb] at h2 h4
  have q0 : (0 : Int) < q := by omega
  have s0 : (0 : Int) < s := by omega
  have a0 : (0 : Int) < a.den := by omega
  have b0 : (0 : Int) < b.den := by omega
  have qs : (0 : Int) < (q : Int) * s := Int.mul_pos q0 s0
  have ab : (0 : Int) < (a.den : Int) * b.den := Int.mul_pos a0 b0
  obtain ⟨c1, c2⟩ := cross_eq h1 h2
  constructor
  · intro h
    have z : (a.num * (b.den : Int)) * ((q : Int) * s) ≤ (b.num * (a.den : Int)) * ((q : Int) * s) := Int.mul_le_mul_of_nonneg_right h (Int.le_of_lt qs)
    have z2 : (p * (s : Int)) * ((a.den : Int) * b.den) ≤ (r * (q : Int)) * ((a.den : Int) * b.den) := by
      rw [← c1, ← c2]
      exact z
    exact Int.le_of_mul_le_mul_right z2 ab
  · intro h
    have z : (p * (s : Int)) * ((a.den : Int) * b.den) ≤ (r * (q : Int)) * ((a.den : Int) * b.den) := Int.mul_le_mul_of_nonneg_right h (Int.le_of_lt ab)
    have z2 : (a.num * (b.den : Int)) * ((q : Int) * s) ≤ (b.num * (a.den : Int)) * ((q : Int) * s) := by
      rw [c1, c2]
      exact z
    exact Int.le_of_mul_le_mul_right z2 qs
theorem le_make {a b : Int} {d e : Nat} (hd : d ≠ 0) (he : e ≠ 0) : Rational.le (Rational.make a d) (Rational.make b e) = decide (a * (e : Int) ≤ b * (d : Int)) := by
  unfold Rational.le
  exact decide_eq_decide.mpr (le_cross rfl rfl hd he)
theorem lt_make {a b : Int} {d e : Nat} (hd : d ≠ 0) (he : e ≠ 0) : Rational.lt (Rational.make a d) (Rational.make b e) = decide (a * (e : Int) < b * (d : Int)) := by
  unfold Rational.lt
  refine decide_eq_decide.mpr ?_
  have h := le_cross (a := Rational.make b e) (b := Rational.make a d) rfl rfl he hd
  omega
theorem le_same {a b : Int} {d : Nat} (hd : d ≠ 0) : Rational.le (Rational.make a d) (Rational.make b d) = decide (a ≤ b) := by
  rw [le_make hd hd]
  have d0 : (0 : Int) < d := by omega
  exact decide_eq_decide.mpr ⟨fun h => Int.le_of_mul_le_mul_right h d0, fun h => Int.mul_le_mul_of_nonneg_right h (Int.le_of_lt d0)⟩
theorem eq_same {a b : Int} {d : Nat} (hd : d ≠ 0) : Rational.make a d = Rational.make b d ↔ a = b := by
  rw [make_eq hd hd]
  have d0 : (d : Int) ≠ 0 := by omega
  exact ⟨fun h => Int.eq_of_mul_eq_mul_right d0 h, fun h => by rw [h]⟩
theorem div_make {a b : Int} {d e : Nat} (hd : d ≠ 0) (he : e ≠ 0) (hb : b ≠ 0) :
    Rational.div (Rational.make a d) (Rational.make b e) = if 0 < b then Rational.make (a * e) (d * b.natAbs) else Rational.make (-(a * e)) (d * b.natAbs) := by
  have h2 := make_cross (n := b) he
  have h3 := make_den_pos (n := b) he
  have hn0 : (Rational.make b e).num ≠ 0 := by
    intro z
    rw [z, Int.zero_mul] at h2
    have : b * ((Rational.make b e).den : Int) ≠ 0 := Int.mul_ne_zero hb (by omega)
    omega
  have e0 : (0 : Int) < e := by omega
  have r0 : (0 : Int) < ((Rational.make b e).den : Int) := by omega
  have sgn : 0 < (Rational.make b e).num ↔ 0 < b := by
    constructor
    · intro z
      have z1 : 0 < (Rational.make b e).num * (e : Int) := Int.mul_pos z e0
      rw [h2] at z1
      exact Int.pos_of_mul_pos_left z1 r0 |> fun h => h
    · intro z
      have z1 : 0 < b * ((Rational.make b e).den : Int) := Int.mul_pos z r0
      rw [← h2] at z1
      exact Int.pos_of_mul_pos_left z1 e0 |> fun h => h
  have hb' : b.natAbs ≠ 0 := by omega
  have hn' : (Rational.make b e).num.natAbs ≠ 0 := by omega
  unfold Rational.div Rational.inverse
  rw [if_neg hn0]
  by_cases hp : 0 < b
  · have hp2 := sgn.mpr hp
    rw [if_neg (by omega), if_pos hp, mul_make hd hn']
    refine (make_eq (Nat.mul_ne_zero hd hn') (Nat.mul_ne_zero hd hb')).mpr ?_
    rw [Int.natCast_mul, Int.natCast_mul]
    have e1 : ((Rational.make b e).num.natAbs : Int) = (Rational.make b e).num := by omega
    have e2 : (b.natAbs : Int) = b := by omega
    rw [e1, e2]
    generalize (Rational.make b e).num = r at *
    generalize ((Rational.make b e).den : Int) = s at *
    grind
  · have hp2 : ¬ 0 < (Rational.make b e).num := fun z => hp (sgn.mp z)
    rw [if_pos (by omega), if_neg hp, mul_make hd hn']
    refine (make_eq (Nat.mul_ne_zero hd hn') (Nat.mul_ne_zero hd hb')).mpr ?_
    rw [Int.natCast_mul, Int.natCast_mul]
    have e1 : ((Rational.make b e).num.natAbs : Int) = -(Rational.make b e).num := by omega
    have e2 : (b.natAbs : Int) = -b := by omega
    rw [e1, e2]
    generalize (Rational.make b e).num = r at *
    generalize ((Rational.make b e).den : Int) = s at *
    grind
end MB

namespace MB
open Ks595

/-! ### blends over a common denominator -/
abbrev toR (d : Nat) (b : List Int) : List Rational := b.map fun x => Rational.make x d
def wsum (xs ys : List Int) : Int := (List.zipWith (fun x y => x * y) xs ys).sum
def within (x m : Int) : Bool := decide (0 ≤ x) && decide (x ≤ m)
def feas (q lo hi den : Int) (av pr b : List Int) : Bool :=
  (List.zipWith (fun x m => within x (den * m)) b av).all id && (decide (b.sum = den * q) && (decide (den * lo * q ≤ wsum b pr) && decide (wsum b pr ≤ den * hi * q)))

theorem foldl_add {d : Nat} (hd : d ≠ 0) : ∀ (l : List Int) (a : Int), (toR d l).foldl Rational.add (Rational.make a d) = Rational.make (a + l.sum) d
  | [], a => by simp
  | x :: r, a => by
    show (toR d r).foldl Rational.add (Rational.add (Rational.make a d) (Rational.make x d)) = _
    rw [add_same hd, foldl_add hd r, List.sum_cons, Int.add_assoc]
theorem sum_toR {d : Nat} (hd : d ≠ 0) (l : List Int) : Rational.sum (toR d l) = Rational.make l.sum d := by
  unfold Rational.sum
  rw [zero_is hd, foldl_add hd, Int.zero_add]
theorem mul_ofNat {x : Int} {d c : Nat} (hd : d ≠ 0) : Rational.mul (Rational.make x d) (Rational.ofNat c) = Rational.make (x * c) d := by
  rw [ofNat_is, mul_make hd (by decide), Nat.mul_one]

def avs (p : Problem) : List Int := p.components.map fun c => (c.amount : Int)
def csts (p : Problem) : List Int := p.components.map fun c => (c.cost : Int)
def prs (p : Problem) : List Int := p.components.map fun c => (c.property : Int)
theorem avs_len (p : Problem) : (avs p).length = p.components.length := List.length_map _
theorem csts_len (p : Problem) : (csts p).length = p.components.length := List.length_map _
theorem prs_len (p : Problem) : (prs p).length = p.components.length := List.length_map _

theorem weigh {p : Problem} {d : Nat} (hd : d ≠ 0) {b : List Int} (hb : b.length = p.components.length) (f : Component → Nat) :
    Rational.sum ((List.range p.components.length).map fun i => (toR d b).getD i Rational.zero * Rational.ofNat (f (componentAt p i))) = Rational.make (wsum b (p.components.map fun c => (f c : Int))) d := by
  have e : ((List.range p.components.length).map fun i => (toR d b).getD i Rational.zero * Rational.ofNat (f (componentAt p i))) = toR d (List.zipWith (fun x y => x * y) b (p.components.map fun c => (f c : Int))) := by
    refine List.ext_getElem (by simp [hb]) fun i h1 h2 => ?_
    have hi : i < p.components.length := by simpa using h1
    have hi2 : i < b.length := by omega
    simp only [List.getElem_map, List.getElem_range, List.getElem_zipWith]
    have g1 : (toR d b).getD i Rational.zero = Rational.make b[i] d := by
      rw [List.getD_eq_getElem?_getD, List.getElem?_map, List.getElem?_eq_getElem hi2]
      rfl
    have g2 : componentAt p i = p.components[i] := by
      unfold componentAt
      rw [List.getD_eq_getElem?_getD, List.getElem?_eq_getElem hi]
      rfl
    rw [g1, g2]
    exact mul_ofNat hd
  rw [e, sum_toR hd]
  rfl
theorem cost_toR {p : Problem} {d : Nat} (hd : d ≠ 0) {b : List Int} (hb : b.length = p.components.length) : costOf p (toR d b) = Rational.make (wsum b (csts p)) d := weigh hd hb Component.cost
theorem prop_toR {p : Problem} {d : Nat} (hd : d ≠ 0) {b : List Int} (hb : b.length = p.components.length) : propertyTotal p (toR d b) = Rational.make (wsum b (prs p)) d := weigh hd hb Component.property

theorem beq_iff (a b : Rational) : (a == b) = decide (a = b) := by
  by_cases h : a = b
  · rw [decide_eq_true h, h]
    exact beq_self_eq_true b
  · rw [decide_eq_false h]
    exact beq_eq_false_iff_ne.mpr h
theorem all_range {α β : Type} {n : Nat} {f : Nat → Bool} {g : α → β → Bool} {xs : List α} {ys : List β} (hx : xs.length = n) (hy : ys.length = n) (h : ∀ i (h1 : i < xs.length) (h2 : i < ys.length), f i = g xs[i] ys[i]) :
    (List.range n).all f = (List.zipWith g xs ys).all id := by
  have e : (List.range n).map f = List.zipWith g xs ys := by
    refine List.ext_getElem (by simp [hx, hy]) fun i h1 h2 => ?_
    simp only [List.getElem_map, List.getElem_range, List.getElem_zipWith]
    have hi : i < n := by simpa using h1
    exact h i (by omega) (by omega)
  rw [← e, List.all_map]
  rfl
theorem le_ofNat {x : Int} {d c : Nat} (hd : d ≠ 0) : Rational.le (Rational.make x d) (Rational.ofNat c) = decide (x ≤ d * c) := by
  rw [ofNat_den hd, le_same hd, Int.mul_comm]
theorem ofNat_le {x : Int} {d c : Nat} (hd : d ≠ 0) : Rational.le (Rational.ofNat c) (Rational.make x d) = decide ((d * c : Int) ≤ x) := by
  rw [ofNat_den hd, le_same hd, Int.mul_comm]
theorem feas_toR {p : Problem} {d : Nat} (hd : d ≠ 0) {b : List Int} (hb : b.length = p.components.length) :
    isFeasible p (toR d b) = feas p.quantity p.low p.high d (avs p) (prs p) b := by
  unfold isFeasible
  rw [show ((toR d b).length == p.components.length) = true by simp [hb], prop_toR hd hb, sum_toR hd, ofNat_le hd, le_ofNat hd]
  rw [all_range (xs := b) (ys := avs p) (g := fun x m => within x ((d : Int) * m)) hb (avs_len p)]
  · unfold feas
    rw [Bool.true_and, Bool.and_assoc, Bool.and_assoc]
    congr 1
    congr 1
    · rw [beq_iff, ofNat_den hd]
      refine decide_eq_decide.mpr ?_
      rw [eq_same hd, Int.mul_comm]
    · congr 1
      · refine decide_eq_decide.mpr ?_
        rw [Int.natCast_mul, Int.mul_assoc]
      · refine decide_eq_decide.mpr ?_
        rw [Int.natCast_mul, Int.mul_assoc]
  · intro i h1 h2
    have g1 : (toR d b).getD i Rational.zero = Rational.make b[i] d := by
      rw [List.getD_eq_getElem?_getD, List.getElem?_map, List.getElem?_eq_getElem h1]
      rfl
    have hi : i < p.components.length := by omega
    have g2 : componentAt p i = p.components[i] := by
      unfold componentAt
      rw [List.getD_eq_getElem?_getD, List.getElem?_eq_getElem hi]
      rfl
    have g3 : (avs p)[i] = (p.components[i].amount : Int) := List.getElem_map _
    rw [g1, g2, g3, zero_is hd, le_same hd, le_ofNat hd]
    rfl
end MB

namespace MB
open PySem PySem.Spec PyProof.Rows L2
/-! ### two rules of my own: a slice with a step; the order of two lists of whole numbers -/
def pickV (xs : List V) (lo hi st : Option Int) : List V :=
  (sliceRange (sliceBounds lo hi st xs.length).1 (sliceBounds lo hi st xs.length).2.1 (sliceBounds lo hi st xs.length).2.2).filterMap (xs[·]?)
theorem vals_places : ∀ {xs : List V} {us : List Value}, Vals xs us → ∀ js : List Nat, Vals (js.filterMap (xs[·]?)) (js.filterMap (us[·]?))
  | _, _, _, [] => .nil
  | xs, us, h, j :: js => by
    have ih := vals_places h js
    cases hn : xs[j]? with
    | some n =>
      obtain ⟨u, hv, r⟩ := h.get hn
      simp only [List.filterMap_cons, hn, hv]
      exact .cons r ih
    | none =>
      have hv := h.none_of hn
      simp only [List.filterMap_cons, hn, hv]
      exact ih
def pickU (us : List Value) (lo hi st : Option Int) : List Value :=
  (sliceRange (sliceBounds lo hi st us.length).1 (sliceBounds lo hi st us.length).2.1 (sliceBounds lo hi st us.length).2.2).filterMap (us[·]?)
theorem pick_eq (us : List Value) (lo hi st : Option Int) : slicePick us.toArray lo hi st = (pickU us lo hi st).toArray := by
  simp [slicePick, pickU]
theorem vals_pick {xs : List V} {us : List Value} (h : Vals xs us) (lo hi st : Option Int) : Vals (pickV xs lo hi st) (pickU us lo hi st) := by
  unfold pickV pickU
  rw [h.length]
  exact vals_places h _
def tSl3 (K : PySem.W.Frag) (te : TE) (tl th ts : TO) : TE := fun σ H Q => te σ H fun x H1 => tl σ H1 fun l H2 => th σ H2 fun u H3 => ts σ H3 fun k H4 =>
  ∃ a xs, x = .ref a ∧ SqL K H4 a xs ∧ k ≠ some 0 ∧ ∀ p, H4 p = none → Q (.ref p) (upd H4 p (.lst (pickV xs l u k)))
section
variable {X : Cx}
theorem pe_slice3 {e : Expr} {lo hi : Option Expr} {st : Expr} {te : TE} {tl th ts : TO} {p2 pos : Pos} (he : PE X e te) (hl : PO X lo tl) (hh : PO X hi th) (hs : PO X (some st) ts) :
    PE X (.Subscript e (.Slice lo hi (some st) p2) pos) (tSl3 X.K te tl th ts) := by
  refine ⟨fun pins s σ H Q I h => ?_⟩
  refine Subscript_ (thn (he.run pins s σ H _ I h) fun v s1 ⟨x, H1, I1, r1, q1⟩ => ?_)
  refine wpAny_Slice (thn (hl.run pins s1 σ H1 _ I1 q1) fun vl s2 ⟨l, H2, I2, pl, q2⟩ => thn (hh.run pins s2 σ H2 _ I2 q2) fun vu s3 ⟨u, H3, I3, pu, q3⟩ => thn (hs.run pins s3 σ H3 _ I3 q3) fun vk s4 ⟨k, H4, I4, pk, q4⟩ => ?_)
  obtain ⟨a, xs, rfl, hx, hk, q⟩ := q4
  cases r1
  have I5 : Inv X pins σ H4 { s4 with heap := s4.heap.push { cls := .type "slice", data := .fields #[vl, vu, vk] } } := I4.kept (t' := s4.toks) fun b ob q => Heap.get?_push_of_some _ q
  obtain ⟨its, r, ht, hz⟩ := I5.list hx
  have hlen := r.length
  show wpAny (model X.prog X.w) X.A (subscriptTail e (.Slice lo hi (some st) p2) (.ref a) (.ref s4.heap.objs.size)) (EP X pins σ Q) X.xe { s4 with heap := s4.heap.push { cls := .type "slice", data := .fields #[vl, vu, vk] } }
  refine tail_any (ops := [.ref a, .ref s4.heap.objs.size]) ht.isList.typeIs (PySem.slot_list_getitem.lookup) ?_ (by with_unfolding_all rfl)
  refine wpAny_getItem_list_slice ht.isList (Heap.IsSliceOf.new _ vl vu vk) pl pu pk hk ?_ (by rw [List.size_toArray]; omega)
  have rr := vals_pick r l u k
  have hle := slicePick_size_le its.toArray l u k
  rw [pick_eq] at hle ⊢
  refine ⟨.ref _, _, I5.laid (t' := s4.toks) (o := .lst (pickV xs l u k)) (fun b ob q => Heap.get?_push_of_some _ q) (Nat.le_refl _) ?_, rfl, q _ (I5.hok.fresh (Nat.le_refl _))⟩
  refine ⟨?_, _, 0, rr, Heap.get?_push_size _ rfl⟩
  have e := rr.length
  rw [List.size_toArray, List.size_toArray] at hle
  omega
def firstLtI (ns ms : List Int) : Bool := HT.lexLt ns ms
theorem firstLt_lex : ∀ (ns ms : List Int) (k : Nat) (f g : Nat → Int), (∀ j, j < ns.length → ns.getD j 0 = f (k + j)) → (∀ j, j < ms.length → ms.getD j 0 = g (k + j)) →
    SeqAt.firstLt (fun j => decide (f j = g j)) (fun j => decide (f j < g j)) (decide (ns.length < ms.length)) ((List.range (min ns.length ms.length)).map (k + ·)) = HT.lexLt ns ms
  | [], [], _, _, _, _, _ => rfl
  | [], _ :: _, _, _, _, _, _ => by
    rw [HT.lexLt_nil_cons]
    simp [SeqAt.firstLt]
  | _ :: _, [], _, _, _, _, _ => by
    rw [HT.lexLt_cons_nil]
    simp [SeqAt.firstLt]
  | x :: xs, y :: ys, k, f, g, hf, hg => by
    have fx : x = f k := by
      have := hf 0 (by simp)
      simpa using this
    have gy : y = g k := by
      have := hg 0 (by simp)
      simpa using this
    rw [HT.lexLt_cons]
    have e : (List.range (min (x :: xs).length (y :: ys).length)).map (k + ·) = k :: (List.range (min xs.length ys.length)).map ((k + 1) + ·) := by
      rw [List.length_cons, List.length_cons, Nat.add_min_add_right, List.range_succ_eq_map, List.map_cons, List.map_map]
      congr 1
      refine List.map_congr_left fun j _ => ?_
      show k + (j + 1) = k + 1 + j
      omega
    rw [e]
    have ih := firstLt_lex xs ys (k + 1) f g (fun j hj => by
      have := hf (j + 1) (by simpa using hj)
      rw [show k + 1 + j = k + (j + 1) by omega]
      simpa using this) (fun j hj => by
      have := hg (j + 1) (by simpa using hj)
      rw [show k + 1 + j = k + (j + 1) by omega]
      simpa using this)
    have hl : decide ((x :: xs).length < (y :: ys).length) = decide (xs.length < ys.length) := decide_eq_decide.mpr (by simp)
    rw [hl]
    by_cases c : x = y
    · rw [if_pos c, SeqAt.firstLt_yes (decide_eq_true (by rw [← fx, ← gy]; exact c))]
      exact ih
    · rw [if_neg c, SeqAt.firstLt_no (decide_eq_false (by rw [← fx, ← gy]; exact c)), ← fx, ← gy]
def rLtL (K : PySem.W.Frag) : R2 := fun x y H Q => ∃ a b ns ms, x = .ref a ∧ y = .ref b ∧ SqL K H a (ns.map V.int) ∧ SqL K H b (ms.map V.int) ∧ Q (.bl (HT.lexLt ns ms)) H
theorem op_ltL (hu : X.A.units < cLine) : OpR X (compareOp .Lt) (rLtL X.K) := by
  intro pins s σ H x y v u Q I rx ry h
  obtain ⟨a, b, ns, ms, rfl, rfl, ha, hb, q⟩ := h
  cases rx
  cases ry
  obtain ⟨its, r1, p1, _⟩ := I.list ha
  obtain ⟨its2, r2, p2, _⟩ := I.list hb
  have i1 : IntsAre its ns := intsAre_of r1
  have i2 : IntsAre its2 ms := intsAre_of r2
  have e1 : its.toArray.size = ns.length := by rw [List.size_toArray]; exact i1.length
  have e2 : its2.toArray.size = ms.length := by rw [List.size_toArray]; exact i2.length
  have at1 : ∀ j (h1 : j < its.toArray.size), ∃ t, its.toArray[j] = .int (ns.getD j 0) t := fun j h1 => PyProof.Rows.IntsAre.int_at i1 _ _ (by simp at h1; simp [h1])
  have at2 : ∀ j (h1 : j < its2.toArray.size), ∃ t, its2.toArray[j] = .int (ms.getD j 0) t := fun j h1 => PyProof.Rows.IntsAre.int_at i2 _ _ (by simp at h1; simp [h1])
  have R := SeqAt.RcLt.lists (A := X.A) (s := s) (e := fun j => decide (ns.getD j 0 = ms.getD j 0)) (r := fun j => decide (ns.getD j 0 < ms.getD j 0)) p1.isList p2.isList hu (fun j h1 h2 => by
    obtain ⟨t, et⟩ := at1 j h1
    obtain ⟨t', et'⟩ := at2 j h2
    rw [et, et']
    have z : (ns.getD j 0 == ms.getD j 0) = decide (ns.getD j 0 = ms.getD j 0) := by
      by_cases q : ns.getD j 0 = ms.getD j 0
      · rw [decide_eq_true q]; exact beq_iff_eq.mpr q
      · rw [decide_eq_false q]; exact beq_eq_false_iff_ne.mpr q
    rw [← z]
    exact SeqAt.EqAt.int_int _ _ _ _) (fun j h1 h2 _ => by
    obtain ⟨t, et⟩ := at1 j h1
    obtain ⟨t', et'⟩ := at2 j h2
    rw [et, et']
    exact fun _ _ _ _ h => PyProof.Rows.lt_int h)
  have e := firstLt_lex ns ms 0 (fun j => ns.getD j 0) (fun j => ms.getD j 0) (fun j _ => by rw [Nat.zero_add]) (fun j _ => by rw [Nat.zero_add])
  have e3 : (List.range (min ns.length ms.length)).map (0 + ·) = List.range (min ns.length ms.length) := by
    conv => rhs; rw [← List.map_id (List.range _)]
    exact List.map_congr_left fun j _ => Nat.zero_add j
  rw [e3] at e
  rw [e1, e2, e] at R
  exact R _ _ _ _ ⟨.bl (HT.lexLt ns ms), H, I, rfl, q⟩
end
end MB

namespace MB
open PySem PySem.Spec PyProof.Rows L2
/-! ### heaps and lists of whole numbers -/
theorem same_upd {H : Hp} {p : Addr} {o : HO} (h : H p = none) : Same H (upd H p o) := fun b x e => by
  rw [upd_ne (ne_of_none e h)]
  exact e
/-- all but p stands -/
def SameBut (p : Addr) (H H' : Hp) : Prop := ∀ b o, b ≠ p → H b = some o → H' b = some o
theorem SameBut.upd {H : Hp} {p : Addr} {o : HO} : SameBut p H (upd H p o) := fun b x n e => by
  rw [upd_ne n]
  exact e
theorem same_but {p : Addr} {H H' : Hp} (h : Same H H') : SameBut p H H' := fun b o _ e => h b o e
theorem SameBut.trans {p : Addr} {H H1 H2 : Hp} (a : SameBut p H H1) (b : SameBut p H1 H2) : SameBut p H H2 := fun c o n e => b c o n (a c o n e)
theorem SameBut.same {p : Addr} {H H' : Hp} (h : SameBut p H H') (n : H p = none) : Same H H' := fun b o e => h b o (ne_of_none e n) e
/-- a list of whole numbers that may be read -/
abbrev LI (K : PySem.W.Frag) (H : Hp) (p : Addr) (ns : List Int) : Prop := SqL K H p (ns.map V.int)
theorem li_of {K : PySem.W.Frag} {H : Hp} {p : Addr} {ns : List Int} (h : H p = some (.lst (ns.map V.int))) : LI K H p ns := .inl (.inl h)
theorem line_of {n : Nat} (h : n ≤ 100000) : n < sizeLine := Nat.lt_of_le_of_lt h (by decide)
theorem line_le {n : Nat} (h : n ≤ 100000) : n ≤ sizeLine := Nat.le_of_lt (line_of h)
theorem map_at {ns : List Int} {i : Nat} {x : V} (h : (ns.map V.int)[i]? = some x) : ∃ n, ns[i]? = some n ∧ x = .int n := by
  rw [List.getElem?_map] at h
  cases q : ns[i]? with
  | none => rw [q] at h; cases h
  | some n => rw [q] at h; exact ⟨n, rfl, (Option.some.inj h).symm⟩
theorem take_more {α : Type} {l : List α} {i : Nat} {x : α} (h : l[i]? = some x) : l.take (i + 1) = l.take i ++ [x] := by
  rw [List.take_add_one, h]
  rfl
theorem if_true_of {c : Bool} {A B : Prop} (hc : c = true) (h : A) : if c = true then A else B := by
  rw [if_pos hc]
  exact h
theorem if_false_of {c : Bool} {A B : Prop} (hc : c = false) (h : B) : if c = true then A else B := by
  rw [hc, if_neg Bool.false_ne_true]
  exact h
/-! ### comprehensions without a test -/
section
variable {J : It} {n : Nat} {G : Hp → Prop} {Y : Nat → Hp → V → Hp → Prop}
theorem lc_rel (w : Walk J n G Y) {g : TG} {te : TE} {vs : List Nat} {σ : L2.St} {H1 : Hp} {D : Addr} {Qd : Hp → Prop} (hD : H1 D = none) (hn : n ≤ 100000) (hG : ∀ H, Same H1 H → G H) (Rel : Nat → V → Hp → Prop)
    (hm : ∀ i y H H', SameBut D H H' → Rel i y H → Rel i y H')
    (hs : ∀ i x H H' (R : V → Hp → Prop) (Z : Hp → Prop), i < n → Same H1 H → (∃ acc, H D = some (.lst acc)) → Y i H x H' → (∀ y H4, Same H H4 → Rel i y H4 → R y H4) →
      g x (wipe σ vs) H' fun σ2 H2 => wipe σ2 vs = wipe σ vs ∧ if true = true then te σ2 H2 R else Z H2)
    (hd : ∀ H ys, Same H1 H → H D = some (.lst ys) → ys.length = n → (∀ i y, ys[i]? = some y → Rel i y H) → Qd H) :
    ∃ W : Nat → Nat → Hp → Prop, (∃ m, W 0 m (upd H1 D (.lst []))) ∧ ∀ i m H, W i m H →
      (J.stop i H ∧ Qd H) ∨ (J.go i H ∧ ∃ Nx : Hp → Prop, (∀ H', Nx H' → ∃ m', m' < m ∧ W (i + 1) m' H') ∧ ∀ x H', J.yld i H x H' → g x (wipe σ vs) H' fun σ2 H2 => wipe σ2 vs = wipe σ vs ∧ tYes σ2 H2 fun b H3 =>
        if b = true then te σ2 H3 fun y H4 => ∃ acc, H4 D = some (.lst acc) ∧ acc.length < sizeLine ∧ Nx (upd H4 D (.lst (acc ++ [y]))) else Nx H3) := by
  refine lc_it w (tt := tYes) (te := te) (fun i H => i ≤ n ∧ Same H1 H ∧ ∃ ys, H D = some (.lst ys) ∧ ys.length = i ∧ ∀ j y, ys[j]? = some y → Rel j y H) ?_ ?_ ?_ ?_
  · exact ⟨Nat.zero_le _, same_upd hD, [], upd_same, rfl, fun j y e => by simp at e⟩
  · intro i H _ p
    exact hG H p.2.1
  · intro i x H H' hi p y
    obtain ⟨_, sm, ys, hys, hl, hr⟩ := p
    refine hs i x H H' _ (fun H => i + 1 ≤ n ∧ Same H1 H ∧ ∃ ys, H D = some (.lst ys) ∧ ys.length = i + 1 ∧ ∀ j y, ys[j]? = some y → Rel j y H) hi sm ⟨ys, hys⟩ y ?_
    intro z H4 s4 rz
    refine ⟨ys, s4 _ _ hys, line_of (by omega), hi, ?_, ys ++ [z], upd_same, by simp [hl], ?_⟩
    · exact SameBut.same (SameBut.trans (same_but (Same.trans sm s4)) SameBut.upd) hD
    · intro j y' e
      by_cases hj : j < ys.length
      · rw [List.getElem?_append_left hj] at e
        exact hm j y' H _ (SameBut.trans (same_but s4) SameBut.upd) (hr j y' e)
      · have hj2 : j = i := by
          have h1 : j < (ys ++ [z]).length := (List.getElem?_eq_some_iff.mp e).1
          rw [List.length_append, List.length_singleton] at h1
          omega
        subst hj2
        rw [List.getElem?_append_right (by omega), hl, Nat.sub_self] at e
        have e2 : z = y' := Option.some.inj e
        subst e2
        exact hm _ _ H4 _ SameBut.upd rz
  · intro H p
    obtain ⟨_, sm, ys, hys, hl, hr⟩ := p
    exact hd H ys sm hys hl hr
theorem lc_map (w : Walk J n G Y) {g : TG} {te : TE} {vs : List Nat} {σ : L2.St} {H1 : Hp} {D : Addr} {Qd : Hp → Prop} (hD : H1 D = none) (hn : n ≤ 100000) (hG : ∀ H, Same H1 H → G H) (out : List V) (ho : out.length = n)
    (hs : ∀ i x H H' (z : V) (R : V → Hp → Prop) (Z : Hp → Prop), out[i]? = some z → Same H1 H → Y i H x H' → (∀ H4, Same H H4 → R z H4) →
      g x (wipe σ vs) H' fun σ2 H2 => wipe σ2 vs = wipe σ vs ∧ if true = true then te σ2 H2 R else Z H2)
    (hd : ∀ H, Same H1 H → H D = some (.lst out) → Qd H) :
    ∃ W : Nat → Nat → Hp → Prop, (∃ m, W 0 m (upd H1 D (.lst []))) ∧ ∀ i m H, W i m H →
      (J.stop i H ∧ Qd H) ∨ (J.go i H ∧ ∃ Nx : Hp → Prop, (∀ H', Nx H' → ∃ m', m' < m ∧ W (i + 1) m' H') ∧ ∀ x H', J.yld i H x H' → g x (wipe σ vs) H' fun σ2 H2 => wipe σ2 vs = wipe σ vs ∧ tYes σ2 H2 fun b H3 =>
        if b = true then te σ2 H3 fun y H4 => ∃ acc, H4 D = some (.lst acc) ∧ acc.length < sizeLine ∧ Nx (upd H4 D (.lst (acc ++ [y]))) else Nx H3) := by
  refine lc_rel w hD hn hG (fun i y _ => out[i]? = some y) (fun _ _ _ _ _ h => h) ?_ ?_
  · intro i x H H' R Z hi sm _ y hR
    have e : out[i]? = some out[i] := List.getElem?_eq_getElem (by omega)
    exact hs i x H H' _ R Z e sm y (fun H4 s4 => hR _ H4 s4 e)
  · intro H ys sm hys hl hr
    have e : ys = out := by
      refine List.ext_getElem (by omega) fun i h1 h2 => ?_
      have := hr i _ (List.getElem?_eq_getElem h1)
      rw [List.getElem?_eq_getElem h2] at this
      exact (Option.some.inj this).symm
    subst e
    exact hd H sm hys
end
end MB

namespace MB
open PySem PySem.Spec PyProof.Rows L2
/-! ### two more rules of my own: a chain of three comparisons; sorted(xs, reverse=True) of pairs -/
def tChain3 (r1 r2 r3 : R2) (ta tb tc td : TE) : TE := fun σ H Q => ta σ H fun x Ha => tb σ Ha fun y Hb => r1 x y Hb fun v Hc => ∃ k, v = .bl k ∧
  (if k = true then (tc σ Hc fun z Hd => r2 y z Hd fun v2 He => ∃ k2, v2 = .bl k2 ∧ (if k2 = true then (td σ He fun u Hf => r3 z u Hf Q) else Q (.bl false) He)) else Q (.bl false) Hc)
section
variable {X : Cx}
theorem pe_chain3 {a b c d : Expr} {ta tb tc td : TE} {o1 o2 o3 : CmpOp} {r1 r2 r3 : R2} {pos : Pos} (h1 : OpR X (compareOp o1) r1) (h2 : OpR X (compareOp o2) r2) (h3 : OpR X (compareOp o3) r3)
    (ha : PE X a ta) (hb : PE X b tb) (hc : PE X c tc) (hd : PE X d td) (hm : lastMarks [o1, o2, o3] [b, c, d] = false := by with_unfolding_all rfl) :
    PE X (.Compare a [o1, o2, o3] [b, c, d] pos) (tChain3 r1 r2 r3 ta tb tc td) := by
  refine ⟨fun pins s σ H Q I h => Compare_chain (thn (ha.run pins s σ H _ I h) ?_) hm⟩
  rintro va sa ⟨x, Ha, Ia, ra, qa⟩
  refine chain_link (thn (hb.run pins sa σ Ha _ Ia qa) ?_)
  rintro vb sb ⟨y, Hb, Ib, rb, qb⟩
  refine thn (h1 pins sb σ Hb x y va vb _ Ib ra rb qb) ?_
  rintro vt st ⟨v, Hc, Ic, rt, k, rfl, qc⟩
  cases rt
  refine wpAny_truthy_bool ?_
  cases k with
  | false => exact ite_ff ⟨.bl false, Hc, Ic, rfl, qc⟩
  | true =>
    refine ite_tt (chain_link (thn (hc.run pins st σ Hc _ Ic qc) ?_))
    rintro vc sc ⟨z, Hd, Id, rc, qd⟩
    refine thn (h2 pins sc σ Hd y z vb vc _ Id rb rc qd) ?_
    rintro vt2 st2 ⟨v2, He, Ie, rt2, k2, rfl, qe⟩
    cases rt2
    refine wpAny_truthy_bool ?_
    cases k2 with
    | false => exact ite_ff ⟨.bl false, He, Ie, rfl, qe⟩
    | true =>
      refine ite_tt (chain_last (thn (hd.run pins st2 σ He _ Ie qe) ?_))
      rintro vd sd ⟨u, Hf, If, rd, qf⟩
      exact h3 pins sd σ Hf z u vc vd Q If rc rd qf
/-- sorted(xs, reverse=True), xs a list of pairs of whole numbers: a new list, the sorted ones from the last to the first -/
def rSortedBack (K : PySem.W.Frag) : List V → List V → Hp → VK → Prop := fun vs zs H Q => ∃ (a : Addr) (xs : List V) (k : V → Int × Int), vs = [.ref a] ∧ zs = [.bl true] ∧ SqL K H a xs ∧
  (∀ x ∈ xs, ∃ t, x = .ref t ∧ H t = some (.tup [.int (k x).1, .int (k x).2])) ∧
  ∀ ys p, SrtO.Srtd (ltP k) ys → ys.Perm xs → H p = none → Q (.ref p) (upd H p (.lst ys.reverse))
theorem cr_sortedBack : CallRK X (.builtin "sorted") [Str.ofString "reverse"] (rSortedBack X.K) := by
  rintro pins s σ H vs zs us ws Q I rv rz ⟨a, xs, k, rfl, rfl, hs, hx, q⟩
  obtain rfl := Vals.ref1 rv
  obtain ⟨w1, rfl, rw1⟩ := vals1 rz
  obtain rfl : w1 = Value.bool true := rw1
  obtain ⟨its, rits, hl, hz⟩ := I.list hs
  have hrefs : ∀ x ∈ xs, ∃ t, x = V.ref t := fun x m => by
    obtain ⟨t, e, _⟩ := hx x m
    exact ⟨t, e⟩
  obtain ⟨exs, eits⟩ := refs_back rits hrefs
  have hp : ∀ v ∈ its, Srt.IsPair s.heap v (k (backV v)).1 (k (backV v)).2 := by
    intro v hv
    obtain ⟨t, rfl⟩ := eits v hv
    have m : V.ref t ∈ xs := by
      rw [exs]
      exact List.mem_map.mpr ⟨_, hv, rfl⟩
    obtain ⟨t', et, ht⟩ := hx _ m
    cases et
    obtain ⟨_, parts, rp, o, ho, hcl, n, hdt⟩ := I.hok _ _ ht
    obtain ⟨u1, u2, rfl, q1, q2⟩ := vals2 rp
    obtain ⟨t1, rfl⟩ := q1
    obtain ⟨t2, rfl⟩ := q2
    exact ⟨t, o, t1, t2, n, rfl, ho, hcl, hdt⟩
  have hlen : its.length ≤ sizeLine := by
    rw [← rits.length]
    exact hz
  refine SrtR.sorted_ordK (b := true) (ltv := fun u v => SrtO.lexB (k (backV u)) (k (backV v))) (fun _ => rfl) (PyProof.Rows.args_sorted_rev _ _) (fun _ => PyProof.Rows.args_list_sort_rev _ _) (SrtO.swo_lex fun u => k (backV u)) hl.isList hlen ?_ ?_
  · intro l2 h' a' ha' keep
    refine SrtO.pairs_sortableO (s := { s with heap := h' }) (by omega) (fun v m => (hp v m).keeps fun b o e _ => (keep b o e).2) ?_
    intro o e c
    have e2 : some o = some (seqObj "list" its.toArray 0) := e.symm.trans ha'
    cases e2
    exact absurd (Value.type.inj c) (by decide)
  · intro out so st
    have pm : out.Perm its := st.perm.trans (List.reverse_perm _)
    have refs : ∀ u ∈ out.reverse, ∃ b, u = Value.ref b := fun u m => eits u (pm.mem_iff.mp (List.mem_reverse.mp m))
    obtain ⟨ep, hnew⟩ := PyProof.Rows.sortedAll_at s.heap its out.toArray.reverse
    have pm2 : (out.map backV).Perm xs := by
      rw [exs]
      exact pm.map backV
    have l3 : (out.map backV).reverse.length ≤ sizeLine := by
      rw [List.length_reverse, pm2.length_eq]
      exact hz
    have ea : out.reverse.toArray = out.toArray.reverse := Array.ext' (by rw [Array.toList_reverse])
    have er : (out.map backV).reverse = out.reverse.map backV := by rw [List.map_reverse]
    refine ⟨.ref _, upd H (s.heap.objs.size + 1) (.lst (out.map backV).reverse), ?_, rfl, q _ _ (SrtO.srtd_map so) pm2 (I.hok.fresh (Nat.le_succ _))⟩
    refine I.laid (t' := s.toks) (fun _ _ => PyProof.Rows.sortedAll_old) (Nat.le_succ _) ⟨l3, out.reverse, ep, ?_, ?_⟩
    · rw [er]
      exact vals_back refs
    · rw [ea]
      exact hnew
end
end MB

namespace MB
open PySem PySem.Spec PyProof.Rows L2
def topS (i : Nat) : Stmt := PySem.Challenge.pw_meanblend_s06_property_range.main.body.getD i (.Pass ⟨0, 0, 0, 0⟩)
abbrev s_property_range : Stmt := topS 6
abbrev N_property_range : List Str := ["quantity", "components", "totals"]
theorem sc_property_range : FnScope N_property_range ["quantity", "components"] (defScope s_property_range) := ⟨rfl, rfl, rfl, by decide +kernel, rfl, by decide +kernel, by decide +kernel⟩
abbrev s_components_within_limits : Stmt := topS 7
abbrev N_components_within_limits : List Str := ["components", "place", "number"]
theorem sc_components_within_limits : FnScope N_components_within_limits ["components"] (defScope s_components_within_limits) := ⟨rfl, rfl, rfl, by decide +kernel, rfl, by decide +kernel, by decide +kernel⟩
abbrev s_within : Stmt := topS 8
abbrev N_within : List Str := ["number", "most"]
theorem sc_within : FnScope N_within ["number", "most"] (defScope s_within) := ⟨rfl, rfl, rfl, by decide +kernel, rfl, by decide +kernel, by decide +kernel⟩
abbrev s_extreme_totals : Stmt := topS 9
abbrev N_extreme_totals : List Str := ["quantity", "components", "parts", "most", "own_property"]
theorem sc_extreme_totals : FnScope N_extreme_totals ["quantity", "components"] (defScope s_extreme_totals) := ⟨rfl, rfl, rfl, by decide +kernel, rfl, by decide +kernel, by decide +kernel⟩
abbrev s_total_of_first : Stmt := topS 10
abbrev N_total_of_first : List Str := ["quantity", "parts", "total", "missing", "own_property", "most", "taken"]
theorem sc_total_of_first : FnScope N_total_of_first ["quantity", "parts"] (defScope s_total_of_first) := ⟨rfl, rfl, rfl, by decide +kernel, rfl, by decide +kernel, by decide +kernel⟩
structure Txt (K : PySem.W.Frag) (mg : Str → Option Value) : Type where
  a_property_range : Addr
  d_property_range : FuncData
  F_property_range : Fun K "property_range" "property_range" s_property_range a_property_range d_property_range
  b_property_range : Binds K d_property_range ["quantity", "components"] []
  g_property_range : mg "property_range" = some (.ref a_property_range)
  a_components_within_limits : Addr
  d_components_within_limits : FuncData
  F_components_within_limits : Fun K "components_within_limits" "components_within_limits" s_components_within_limits a_components_within_limits d_components_within_limits
  b_components_within_limits : Binds K d_components_within_limits ["components"] []
  g_components_within_limits : mg "components_within_limits" = some (.ref a_components_within_limits)
  a_within : Addr
  d_within : FuncData
  F_within : Fun K "within" "within" s_within a_within d_within
  b_within : Binds K d_within ["number", "most"] []
  g_within : mg "within" = some (.ref a_within)
  a_extreme_totals : Addr
  d_extreme_totals : FuncData
  F_extreme_totals : Fun K "extreme_totals" "extreme_totals" s_extreme_totals a_extreme_totals d_extreme_totals
  b_extreme_totals : Binds K d_extreme_totals ["quantity", "components"] []
  g_extreme_totals : mg "extreme_totals" = some (.ref a_extreme_totals)
  a_total_of_first : Addr
  d_total_of_first : FuncData
  F_total_of_first : Fun K "total_of_first" "total_of_first" s_total_of_first a_total_of_first d_total_of_first
  b_total_of_first : Binds K d_total_of_first ["quantity", "parts"] []
  g_total_of_first : mg "total_of_first" = some (.ref a_total_of_first)
  z_all : mg "all" = none
  z_enumerate : mg "enumerate" = none
  z_len : mg "len" = none
  z_min : mg "min" = none
  z_sorted : mg "sorted" = none
  z_sum : mg "sum" = none
  z_zip : mg "zip" = none
  t_MOST_COMPONENTS : Tok
  c_MOST_COMPONENTS : mg "MOST_COMPONENTS" = some (.int 4 t_MOST_COMPONENTS)
  q_MOST_OF_COMPONENT : Addr
  c_MOST_OF_COMPONENT : mg "MOST_OF_COMPONENT" = some (.ref q_MOST_OF_COMPONENT)
  v_MOST_OF_COMPONENT : ∀ H : Hp, SqT K H q_MOST_OF_COMPONENT [.int 50, .int 99, .int 99]
  t_MOST_QUANTITY : Tok
  c_MOST_QUANTITY : mg "MOST_QUANTITY" = some (.int 99 t_MOST_QUANTITY)
  t_NOT_FEASIBLE : Tok
  c_NOT_FEASIBLE : mg "NOT_FEASIBLE" = some (.int 33 t_NOT_FEASIBLE)
  t_OUTSIDE_LIMITS : Tok
  c_OUTSIDE_LIMITS : mg "OUTSIDE_LIMITS" = some (.int 22 t_OUTSIDE_LIMITS)
section
variable {P : Program} {w : World} {K : PySem.W.Frag} {mg : Str → Option Value} {base : Heap}
/-! ### within -/
def sp_within (K : PySem.W.Frag) : Sp := fun vs H Q _ => ∃ n m : Int, vs = [.int n, .int m] ∧ Q (.bl (within n m)) H
theorem ok_within (T : Txt K mg) : FnOk P w K mg base CX0 1 T.a_within T.d_within ["number", "most"] (sp_within K) := by
  refine T.F_within.ok sc_within (fun vs H Q E h => ?_) (fun cdv A outer s H vs Q E hr h => ?_)
  · obtain ⟨n, m, rfl, _⟩ := h
    rfl
  · obtain ⟨n, m, rfl, q⟩ := h
    have hu := hu_of hr
    refine ⟨_, (pss_one (ps_ret (pe_chain op_le op_le pe_int (pv 0) (pv 1)))), ?_⟩
    refine ⟨_, rfl, 0, n, rfl, rfl, _, rfl, ite2 (fun h => ?_) (fun h => ?_)⟩
    · refine ⟨_, rfl, n, m, rfl, rfl, ?_⟩
      have e : within n m = decide (n ≤ m) := by
        unfold within
        rw [h, Bool.true_and]
      rw [e] at q
      exact q
    · have e : within n m = false := by
        unfold within
        rw [eq_false_of_ne_true h, Bool.false_and]
      rw [e] at q
      exact q
/-! ### whole numbers that are not huge; what stands in lists of them -/
def Bd (n : Int) : Prop := -(2 ^ 64) < n ∧ n < 2 ^ 64
theorem int_at {ns : List Int} {i : Nat} {n : Int} {x : V} (h : ns[i]? = some n) (f : (ns.map V.int)[i]? = some x) : x = .int n := by
  rw [List.getElem?_map, h] at f
  exact (Option.some.inj f).symm
theorem zip_at {xs ys : List Int} {f : Int → Int → Int} {i : Nat} {z : V} (h : ((List.zipWith f xs ys).map V.int)[i]? = some z) :
    ∃ x y, xs[i]? = some x ∧ ys[i]? = some y ∧ z = .int (f x y) := by
  obtain ⟨n, h1, rfl⟩ := map_at h
  rw [List.getElem?_zipWith] at h1
  split at h1
  · rename_i x y e1 e2
    exact ⟨x, y, e1, e2, by rw [← Option.some.inj h1]⟩
  · cases h1
/-! ### rational numbers in lowest terms -/
def ratI (d : Int) (ns : List Int) : List Int := ns.flatMap fun n => [n / (Nat.gcd n.natAbs d.natAbs : Nat), d / (Nat.gcd n.natAbs d.natAbs : Nat)]
theorem ratI_more {d n : Int} {ns : List Int} : ratI d (ns ++ [n]) = ratI d ns ++ [n / (Nat.gcd n.natAbs d.natAbs : Nat), d / (Nat.gcd n.natAbs d.natAbs : Nat)] := by
  unfold ratI
  rw [List.flatMap_append]
  simp
theorem ratI_len (d : Int) : ∀ ns : List Int, (ratI d ns).length = 2 * ns.length
  | [] => rfl
  | n :: r => by
    have ih := ratI_len d r
    unfold ratI at ih ⊢
    rw [List.flatMap_cons, List.length_append, ih, List.length_cons]
    simp
    omega
/-! ### every third number of a list -/
abbrev pk (j : Int) (ns : List Int) : List Int := pickNums ns (some j) none (some 3)
theorem pickV_map (ns : List Int) (lo hi st : Option Int) : pickV (ns.map V.int) lo hi st = (pickNums ns lo hi st).map V.int := by
  unfold pickV pickNums
  rw [List.length_map, List.map_filterMap]
  congr 1
  funext j
  rw [List.getElem?_map]
theorem zipB_at {xs ys : List Int} {f : Int → Int → Bool} {i : Nat} {z : V} (h : ((List.zipWith f xs ys).map V.bl)[i]? = some z) :
    ∃ x y, xs[i]? = some x ∧ ys[i]? = some y ∧ z = .bl (f x y) := by
  rw [List.getElem?_map, List.getElem?_zipWith] at h
  split at h
  · rename_i x y e1 e2
    exact ⟨x, y, e1, e2, (Option.some.inj h).symm⟩
  · cases h
/-! ### the limits -/
def lim : Nat → Int
  | 0 => 50
  | _ => 99
def oks (ns : List Int) : List Bool := ns.mapIdx fun i x => within x (lim (i % 3))
def compsOk (ns : List Int) : Bool := decide (ns.length % 3 = 0) && (decide (ns.length ≤ 12) && (oks ns).all id)
def sp_components_within_limits (K : PySem.W.Frag) : Sp := fun vs H Q _ => ∃ (c : Addr) (ns : List Int), vs = [.ref c] ∧ LI K H c ns ∧ ns.length ≤ 1000 ∧ ∀ H', Same H H' → Q (.bl (compsOk ns)) H'
theorem lim_at {i : Nat} : ([V.int 50, V.int 99, V.int 99] : List V)[i % 3]? = some (.int (lim (i % 3))) := by
  have h : i % 3 = 0 ∨ i % 3 = 1 ∨ i % 3 = 2 := by omega
  rcases h with h | h | h <;> rw [h] <;> rfl
theorem ok_components_within_limits (T : Txt K mg) : FnOk P w K mg base CX0 2 T.a_components_within_limits T.d_components_within_limits ["components"] (sp_components_within_limits K) := by
  have G_within : FnOk P w K mg base CX0 1 T.a_within T.d_within ["number", "most"] (sp_within K) := ok_within T
  refine T.F_components_within_limits.ok sc_components_within_limits (fun vs H Q E h => ?_) (fun cdv A outer s H vs Q E hr h => ?_)
  · obtain ⟨c, ns, rfl, _⟩ := h
    rfl
  · obtain ⟨c, ns, rfl, hc, hl, k⟩ := h
    have hu := hu_of hr
    refine ⟨_, (pss_cons (ps_if (PW.pt (pw_or (pt_cmpR op_ne (pe_op op_modN (pe_callB call_len_seq (by rfl) T.z_len PySem.boot_len (pa_cons (pv 0) pa_nil)) pe_int) pe_int (nomark _)) (pw_or1 (pt_cmpR op_gt (pe_callB call_len_seq (by rfl) T.z_len PySem.boot_len (pa_cons (pv 0) pa_nil)) (pe_op op_mul pe_int (pe_glob (v := V.int 4) rfl T.c_MOST_COMPONENTS ⟨_, rfl⟩)) (nomark _))))) (pss_one (ps_ret pe_bl)) pss_nil)
      (pss_one (ps_ret (pe_callB (cr_all rfl) (by rfl) T.z_all (by decide +kernel) (pa_cons (pe_lc (own := [("place", 1), ("number", 2)]) (g := (gTup K 2 (gCons (gName 1) (gCons (gName 2) gNil)))) (tt := tYes) rfl sc_components_within_limits.nd (pi_enum (by rfl) T.z_enumerate (pa_cons (pv 0) pa_nil)) (blkOk_by (own := [("place", 1), ("number", 2)]) (N := N_components_within_limits) (sc := defScope s_components_within_limits) (by decide +kernel)) (fun _ _ _ _ _ => (pg_tup rfl (pgs_cons (pg_name (i := 1) sc_components_within_limits.nd rfl (Or.inl rfl)) (pgs_cons (pg_name (i := 2) sc_components_within_limits.nd rfl (Or.inl rfl)) pgs_nil)))) (fun _ _ _ _ _ => pts_nil) (fun _ _ _ _ _ => (pe_call G_within (hr.mono (by decide)) rfl T.g_within T.F_within.kp T.b_within .nil pass0 (pa_cons (pv 2) (pa_cons (pe_ix (show IxR _ (rIxT K) from ix_tup) (pe_glob (v := V.ref T.q_MOST_OF_COMPONENT) rfl T.c_MOST_OF_COMPONENT rfl) (pe_op op_modN (pv 1) pe_int) (fun _ _ => rfl)) pa_nil))))) pa_nil))))), ?_⟩
    have fm : ((ns.map V.int).length : Int).fmod 3 = ((ns.length % 3 : Nat) : Int) := by
      rw [List.length_map, Int.fmod_eq_emod_of_nonneg _ (by decide)]
      rfl
    refine ⟨_, rfl, c, ns.map V.int, rfl, .inl hc, _, _, rfl, rfl, (by show (3 : Int) ≠ 0; decide), rfl, _, rfl, ?_⟩
    by_cases h3 : ns.length % 3 = 0
    · have e0 : (!decide (V.int (((ns.map V.int).length : Int).fmod 3) = V.int 0)) = false := by
        rw [fm, h3]
        rfl
      refine if_false_of e0 ?_
      refine ⟨_, rfl, c, ns.map V.int, rfl, .inl hc, _, _, rfl, rfl, .inl (by decide), _, _, rfl, rfl, _, rfl, ?_⟩
      by_cases h12 : ns.length ≤ 12
      · have e1 : decide ((3 : Int) * 4 < ((ns.map V.int).length : Int)) = false := by
          rw [List.length_map]
          exact decide_eq_false (by omega)
        refine if_false_of e1 ?_
        refine ⟨_, rfl, c, _, rfl, hc, fun D hD => ?_⟩
        refine lc_map walk_enum hD ?_ (fun H1 sm => Same.seq sm hc) ((oks ns).map V.bl) (by simp [oks]) ?_ ?_
        · rw [List.length_map]
          omega
        · intro i x H1 H2 z R Z hz sm y hR
          obtain ⟨t, x2, y2, rfl, nt, rfl, f1, f2⟩ := y
          have g1 : x2 = .int (i : Nat) := (Option.some.inj f1).symm
          obtain ⟨n, e1, g2⟩ := map_at f2
          subst g1 g2
          have ez : z = .bl (within n (lim (i % 3))) := by
            unfold oks at hz
            rw [List.getElem?_map, List.getElem?_mapIdx, e1] at hz
            exact (Option.some.inj hz).symm
          subst ez
          have fi : ((i : Nat) : Int).fmod 3 = ((i % 3 : Nat) : Int) := by
            rw [Int.fmod_eq_emod_of_nonneg _ (by decide)]
            rfl
          refine ⟨t, _, rfl, .inl (.inl upd_same), rfl, _, _, rfl, _, _, rfl, rfl, rfl, iteT ?_⟩
          refine ⟨_, rfl, _, rfl, _, _, rfl, rfl, (by show (3 : Int) ≠ 0; decide), T.q_MOST_OF_COMPONENT, _, _, _, rfl, rfl, T.v_MOST_OF_COMPONENT _, at_of fi lim_at, n, lim (i % 3), rfl, ?_⟩
          exact hR _ (same_upd nt)
        · intro H1 sm hD1
          refine ⟨D, _, rfl, .inl (.inl hD1), ?_⟩
          have e : compsOk ns = (oks ns).all id := by
            unfold compsOk
            rw [decide_eq_true h3, decide_eq_true h12, Bool.true_and, Bool.true_and]
          rw [e] at k
          exact k H1 sm
      · have e1 : decide ((3 : Int) * 4 < ((ns.map V.int).length : Int)) = true := by
          rw [List.length_map]
          exact decide_eq_true (by omega)
        refine if_true_of e1 ?_
        have e : compsOk ns = false := by
          unfold compsOk
          rw [decide_eq_false h12, Bool.false_and, Bool.and_false]
        rw [e] at k
        exact k H (Same.refl H)
    · have e0 : (!decide (V.int (((ns.map V.int).length : Int).fmod 3) = V.int 0)) = true := by
        rw [fm, decide_eq_false (fun z => h3 (by have := V.int.inj z; omega))]
        rfl
      refine if_true_of e0 ?_
      have e : compsOk ns = false := by
        unfold compsOk
        rw [decide_eq_false h3, Bool.false_and]
      rw [e] at k
      exact k H (Same.refl H)
/-! ### the limits of a whole request -/
def reqOk (q lo hi : Int) (ns : List Int) : Bool := within q 99 && (within lo 99 && (within hi 99 && (decide (lo ≤ hi) && compsOk ns)))
/-! ### about limits -/
theorem within_iff {x m : Int} : within x m = true ↔ 0 ≤ x ∧ x ≤ m := by
  unfold within
  rw [Bool.and_eq_true, decide_eq_true_eq, decide_eq_true_eq]
theorem all_within {bs : List Int} {m : Int} (h : (bs.map fun x => within x m).all id = true) : ∀ x ∈ bs, 0 ≤ x ∧ x ≤ m := fun x hx => by
  rw [List.all_map, List.all_eq_true] at h
  exact within_iff.mp (h x hx)
theorem bd_of {x : Int} (h0 : -1000000000 ≤ x) (h1 : x ≤ 1000000000) : Bd x := by
  unfold Bd
  omega
theorem pickNums_mem {ns : List Int} {lo hi st : Option Int} {x : Int} (h : x ∈ pickNums ns lo hi st) : x ∈ ns := by
  unfold pickNums at h
  obtain ⟨j, _, e⟩ := List.mem_filterMap.mp h
  exact List.mem_of_getElem? e
theorem lim_le (i : Nat) : lim i ≤ 99 := by
  unfold lim
  split <;> decide
theorem comps_bd {ns : List Int} (h : compsOk ns = true) : ∀ x ∈ ns, 0 ≤ x ∧ x ≤ 99 := fun x hx => by
  unfold compsOk at h
  rw [Bool.and_eq_true, Bool.and_eq_true] at h
  have h3 := h.2.2
  rw [List.all_eq_true] at h3
  obtain ⟨i, hi⟩ := List.mem_iff_getElem?.mp hx
  have hm : within x (lim (i % 3)) ∈ oks ns := by
    refine List.mem_of_getElem? (i := i) ?_
    unfold oks
    rw [List.getElem?_mapIdx, hi]
    rfl
  have := within_iff.mp (h3 _ hm)
  have := lim_le (i % 3)
  omega
theorem reqOk_parts {q lo hi : Int} {ns : List Int} (h : reqOk q lo hi ns = true) : (0 ≤ q ∧ q ≤ 99) ∧ (0 ≤ lo ∧ lo ≤ 99) ∧ (0 ≤ hi ∧ hi ≤ 99) ∧ lo ≤ hi ∧ compsOk ns = true := by
  unfold reqOk at h
  rw [Bool.and_eq_true, Bool.and_eq_true, Bool.and_eq_true, Bool.and_eq_true, decide_eq_true_eq] at h
  exact ⟨within_iff.mp h.1, within_iff.mp h.2.1, within_iff.mp h.2.2.1, h.2.2.2.1, h.2.2.2.2⟩
theorem wsum_nonneg : ∀ {xs ys : List Int}, (∀ x ∈ xs, 0 ≤ x) → (∀ y ∈ ys, 0 ≤ y) → 0 ≤ wsum xs ys
  | [], _, _, _ => by simp [wsum]
  | _ :: _, [], _, _ => by simp [wsum]
  | x :: xs, y :: ys, hx, hy => by
    have ih := wsum_nonneg (xs := xs) (ys := ys) (fun z hz => hx z (List.mem_cons_of_mem _ hz)) fun z hz => hy z (List.mem_cons_of_mem _ hz)
    have h := Int.mul_nonneg (hx x List.mem_cons_self) (hy y List.mem_cons_self)
    unfold wsum at ih ⊢
    rw [List.zipWith_cons_cons, List.sum_cons]
    omega
/-! ### the request, read -/
theorem pk_of {ns : List Int} {j : Int} {n : Nat} {js : List Nat} {r : List Int} (hn : ns.length = n) (h : sliceRange (sliceBounds (some j) none (some 3) n).1 (sliceBounds (some j) none (some 3) n).2.1 (sliceBounds (some j) none (some 3) n).2.2 = js)
   (e : js.filterMap (ns[·]?) = r) : pickNums ns (some j) none (some 3) = r := by
  unfold pickNums
  rw [hn, h, e]
def compsOf : List Int → List Ks595.Component
  | a :: b :: c :: r => ⟨a.toNat, b.toNat, c.toNat⟩ :: compsOf r
  | _ => []
theorem shape : ∀ {ns : List Int}, ns.length % 3 = 0 → ns.length ≤ 12 → ns = [] ∨ (∃ a b c, ns = [a, b, c]) ∨ (∃ a b c d e f, ns = [a, b, c, d, e, f]) ∨
    (∃ a b c d e f g h i, ns = [a, b, c, d, e, f, g, h, i]) ∨ (∃ a b c d e f g h i j k l, ns = [a, b, c, d, e, f, g, h, i, j, k, l])
  | [], _, _ => .inl rfl
  | [_], h, _ => by simp at h
  | [_, _], h, _ => by simp at h
  | [a, b, c], _, _ => .inr (.inl ⟨a, b, c, rfl⟩)
  | [_, _, _, _], h, _ => by simp at h
  | [_, _, _, _, _], h, _ => by simp at h
  | [a, b, c, d, e, f], _, _ => .inr (.inr (.inl ⟨a, b, c, d, e, f, rfl⟩))
  | [_, _, _, _, _, _, _], h, _ => by simp at h
  | [_, _, _, _, _, _, _, _], h, _ => by simp at h
  | [a, b, c, d, e, f, g, h, i], _, _ => .inr (.inr (.inr (.inl ⟨a, b, c, d, e, f, g, h, i, rfl⟩)))
  | [_, _, _, _, _, _, _, _, _, _], h, _ => by simp at h
  | [_, _, _, _, _, _, _, _, _, _, _], h, _ => by simp at h
  | [a, b, c, d, e, f, g, h, i, j, k, l], _, _ => .inr (.inr (.inr (.inr ⟨a, b, c, d, e, f, g, h, i, j, k, l, rfl⟩)))
  | _ :: _ :: _ :: _ :: _ :: _ :: _ :: _ :: _ :: _ :: _ :: _ :: _ :: r, _, h => by
    simp only [List.length_cons] at h
    omega
theorem pk_comps {ns : List Int} (h3 : ns.length % 3 = 0) (h12 : ns.length ≤ 12) (h0 : ∀ x ∈ ns, 0 ≤ x) :
    pk 0 ns = (compsOf ns).map (fun c => (c.amount : Int)) ∧ pk 1 ns = (compsOf ns).map (fun c => (c.cost : Int)) ∧ pk 2 ns = (compsOf ns).map (fun c => (c.property : Int)) ∧ ns.length = 3 * (compsOf ns).length := by
  rcases shape h3 h12 with rfl | ⟨a, b, c, rfl⟩ | ⟨a, b, c, d, e, f, rfl⟩ | ⟨a, b, c, d, e, f, g, h, i, rfl⟩ | ⟨a, b, c, d, e, f, g, h, i, j, k, l, rfl⟩
  · exact ⟨rfl, rfl, rfl, rfl⟩
  · simp only [List.mem_cons, List.not_mem_nil, or_false, forall_eq_or_imp, forall_eq] at h0
    refine ⟨pk_of (n := 3) (js := [0]) rfl (by decide +kernel) ?_, pk_of (n := 3) (js := [1]) rfl (by decide +kernel) ?_, pk_of (n := 3) (js := [2]) rfl (by decide +kernel) ?_, rfl⟩ <;>
      (simp [compsOf]; omega)
  · simp only [List.mem_cons, List.not_mem_nil, or_false, forall_eq_or_imp, forall_eq] at h0
    refine ⟨pk_of (n := 6) (js := [0, 3]) rfl (by decide +kernel) ?_, pk_of (n := 6) (js := [1, 4]) rfl (by decide +kernel) ?_, pk_of (n := 6) (js := [2, 5]) rfl (by decide +kernel) ?_, rfl⟩ <;>
      (simp [compsOf]; omega)
  · simp only [List.mem_cons, List.not_mem_nil, or_false, forall_eq_or_imp, forall_eq] at h0
    refine ⟨pk_of (n := 9) (js := [0, 3, 6]) rfl (by decide +kernel) ?_, pk_of (n := 9) (js := [1, 4, 7]) rfl (by decide +kernel) ?_, pk_of (n := 9) (js := [2, 5, 8]) rfl (by decide +kernel) ?_, rfl⟩ <;>
      (simp [compsOf]; omega)
  · simp only [List.mem_cons, List.not_mem_nil, or_false, forall_eq_or_imp, forall_eq] at h0
    refine ⟨pk_of (n := 12) (js := [0, 3, 6, 9]) rfl (by decide +kernel) ?_, pk_of (n := 12) (js := [1, 4, 7, 10]) rfl (by decide +kernel) ?_, pk_of (n := 12) (js := [2, 5, 8, 11]) rfl (by decide +kernel) ?_, rfl⟩ <;>
      (simp [compsOf]; omega)
/-- the limits of the components, from the k-th component on -/
def oksFrom (k : Nat) (ns : List Int) : List Bool := ns.mapIdx fun i x => within x (lim ((k + i) % 3))
theorem oksFrom_zero (ns : List Int) : oksFrom 0 ns = oks ns := by
  unfold oksFrom oks
  congr 1
  funext i x
  rw [Nat.zero_add]
theorem oksFrom_cons (k : Nat) (x : Int) (r : List Int) : oksFrom k (x :: r) = within x (lim (k % 3)) :: oksFrom (k + 1) r := by
  unfold oksFrom
  rw [List.mapIdx_cons]
  congr 1
  congr 1
  funext i y
  rw [show k + (i + 1) = k + 1 + i by omega]
theorem within_nat {x m : Int} (h : 0 ≤ x) : within x m = decide (x ≤ m) := by
  unfold within
  rw [decide_eq_true h, Bool.true_and]
theorem parse_comps : ∀ (ns : List Int) (k : Nat), k % 3 = 0 → (∀ x ∈ ns, 0 ≤ x) →
    Ks595.parseComponents (ns.map Int.toNat) = if ns.length % 3 = 0 ∧ (oksFrom k ns).all id = true then some (compsOf ns) else none
  | [], k, _, _ => by
    rw [if_pos ⟨rfl, rfl⟩]
    rfl
  | [x], k, _, _ => by
    rw [if_neg (fun z => by have := z.1; simp at this)]
    rfl
  | [x, y], k, _, _ => by
    rw [if_neg (fun z => by have := z.1; simp at this)]
    rfl
  | a :: b :: c :: r, k, hk, h0 => by
    have ih := parse_comps r (k + 3) (by omega) fun x hx => h0 x (by simp [hx])
    have ha : 0 ≤ a := h0 a (by simp)
    have hb : 0 ≤ b := h0 b (by simp)
    have hc : 0 ≤ c := h0 c (by simp)
    have hl : (a :: b :: c :: r).length % 3 = r.length % 3 := by
      simp only [List.length_cons]
      omega
    have e0 : lim (k % 3) = 50 := by rw [hk]; rfl
    have e1 : lim ((k + 1) % 3) = 99 := by rw [show (k + 1) % 3 = 1 by omega]; rfl
    have e2 : lim ((k + 1 + 1) % 3) = 99 := by rw [show (k + 1 + 1) % 3 = 2 by omega]; rfl
    rw [oksFrom_cons, oksFrom_cons, oksFrom_cons, e0, e1, e2, hl]
    show (if 50 < a.toNat ∨ 99 < b.toNat ∨ 99 < c.toNat then none else (Ks595.parseComponents (r.map Int.toNat)).map fun components => ⟨a.toNat, b.toNat, c.toNat⟩ :: components) = _
    rw [ih, within_nat ha, within_nat hb, within_nat hc]
    by_cases hbad : 50 < a.toNat ∨ 99 < b.toNat ∨ 99 < c.toNat
    · rw [if_pos hbad, if_neg]
      intro z
      have z2 := z.2
      simp only [List.all_cons, id, Bool.and_eq_true, decide_eq_true_eq] at z2
      omega
    · rw [if_neg hbad]
      have w1 : decide (a ≤ 50) = true := decide_eq_true (by omega)
      have w2 : decide (b ≤ 99) = true := decide_eq_true (by omega)
      have w3 : decide (c ≤ 99) = true := decide_eq_true (by omega)
      rw [w1, w2, w3]
      simp only [List.all_cons, id, Bool.true_and]
      rw [show k + 1 + 1 + 1 = k + 3 by omega]
      by_cases hg : r.length % 3 = 0 ∧ (oksFrom (k + 3) r).all id = true
      · rw [if_pos hg, if_pos hg]
        rfl
      · rw [if_neg hg, if_neg hg]
        rfl
def prob (q lo hi : Int) (ns : List Int) : Ks595.Problem := ⟨compsOf ns, q.toNat, lo.toNat, hi.toNat⟩
theorem compsOf_len : ∀ ns : List Int, (compsOf ns).length = ns.length / 3
  | [] => rfl
  | [_] => by simp [compsOf]
  | [_, _] => by simp [compsOf]
  | a :: b :: c :: r => by
    show (compsOf r).length + 1 = _
    rw [compsOf_len r]
    simp only [List.length_cons]
    omega
theorem parse_prob {q lo hi : Int} {ns : List Int} (hq : 0 ≤ q) (hlo : 0 ≤ lo) (hhi : 0 ≤ hi) (h0 : ∀ x ∈ ns, 0 ≤ x) :
    Ks595.parseProblem q.toNat lo.toNat hi.toNat (ns.map Int.toNat) = if reqOk q lo hi ns = true then some (prob q lo hi ns) else none := by
  unfold Ks595.parseProblem
  rw [parse_comps ns 0 rfl h0, oksFrom_zero]
  unfold reqOk compsOk
  rw [within_nat hq, within_nat hlo, within_nat hhi]
  simp only [Bool.and_eq_true, decide_eq_true_eq]
  by_cases hg : ns.length % 3 = 0 ∧ (oks ns).all id = true
  · rw [if_pos hg]
    show (if Ks595.maxComponents < (compsOf ns).length ∨ 99 < q.toNat ∨ hi.toNat < lo.toNat ∨ 99 < hi.toNat then none else some (prob q lo hi ns)) = _
    rw [compsOf_len]
    unfold Ks595.maxComponents
    by_cases hbad : 4 < ns.length / 3 ∨ 99 < q.toNat ∨ hi.toNat < lo.toNat ∨ 99 < hi.toNat
    · rw [if_pos hbad, if_neg]
      intro z
      omega
    · rw [if_neg hbad, if_pos]
      refine ⟨by omega, by omega, by omega, by omega, hg.1, by omega, hg.2⟩
  · rw [if_neg hg, if_neg]
    intro z
    exact hg ⟨z.2.2.2.2.1, z.2.2.2.2.2.2⟩
theorem prob_parts {q lo hi : Int} {ns : List Int} (h : reqOk q lo hi ns = true) :
    avs (prob q lo hi ns) = pk 0 ns ∧ csts (prob q lo hi ns) = pk 1 ns ∧ prs (prob q lo hi ns) = pk 2 ns ∧ ns.length = 3 * (prob q lo hi ns).components.length ∧
    ((prob q lo hi ns).quantity : Int) = q ∧ ((prob q lo hi ns).low : Int) = lo ∧ ((prob q lo hi ns).high : Int) = hi := by
  obtain ⟨⟨q0, q1⟩, ⟨l0, l1⟩, ⟨i0, i1⟩, li, hcok⟩ := reqOk_parts h
  have hns := comps_bd hcok
  unfold compsOk at hcok
  rw [Bool.and_eq_true, Bool.and_eq_true, decide_eq_true_eq, decide_eq_true_eq] at hcok
  obtain ⟨e0, e1, e2, e3⟩ := pk_comps hcok.1 hcok.2.1 fun x hx => (hns x hx).1
  refine ⟨e0.symm, e1.symm, e2.symm, e3, ?_, ?_, ?_⟩
  · show ((q.toNat : Nat) : Int) = q
    omega
  · show ((lo.toNat : Nat) : Int) = lo
    omega
  · show ((hi.toNat : Nat) : Int) = hi
    omega
theorem pairs_ratI {d : Nat} (hd : d ≠ 0) : ∀ ns : List Int, Ks595.pairs (ns.map fun n => Ks595.Rational.make n d) = ratI (d : Int) ns
  | [] => rfl
  | n :: r => by
    have ih := pairs_ratI hd r
    unfold Ks595.pairs ratI at ih ⊢
    rw [List.map_cons, List.flatMap_cons, List.flatMap_cons, ih]
    have e : Ks595.Rational.make n d = ⟨n / (Nat.gcd n.natAbs d : Nat), d / Nat.gcd n.natAbs d⟩ := if_neg hd
    rw [e, Int.natAbs_natCast]
    rfl
theorem pk_parts {ns : List Int} (h : compsOk ns = true) : (pk 0 ns).length ≤ 4 ∧ (pk 1 ns).length = (pk 0 ns).length ∧ (pk 2 ns).length = (pk 0 ns).length := by
  have hns := comps_bd h
  unfold compsOk at h
  rw [Bool.and_eq_true, Bool.and_eq_true, decide_eq_true_eq, decide_eq_true_eq] at h
  obtain ⟨e0, e1, e2, e3⟩ := pk_comps h.1 h.2.1 fun x hx => (hns x hx).1
  rw [e0, e1, e2, List.length_map, List.length_map, List.length_map]
  omega
/-! ### filling up in an order: pairs of a property and an amount -/
theorem sum_perm {l m : List Int} (h : l.Perm m) : l.sum = m.sum := by
  induction h with
  | nil => rfl
  | cons x _ ih => rw [List.sum_cons, List.sum_cons, ih]
  | swap x y l =>
    simp only [List.sum_cons]
    omega
  | trans _ _ a b => exact a.trans b
/-- what is taken of an amount -/
def takenI (a m : Int) : Int := if m < a then m else a
def fillI : List (Int × Int) → Int → Int
  | [], _ => 0
  | x :: r, m => x.1 * takenI x.2 m + fillI r (m - takenI x.2 m)
def totA (L : List (Int × Int)) : Int := (L.map fun x => x.2).sum
def totP (L : List (Int × Int)) : Int := (L.map fun x => x.1 * x.2).sum
def Asc (L : List (Int × Int)) : Prop := L.Pairwise fun x y => x.1 ≤ y.1
def NonN (L : List (Int × Int)) : Prop := ∀ x ∈ L, 0 ≤ x.2
def gapI (w p : Int) : Int := if p < w then w - p else 0
/-- what the amounts are worth below the price w -/
def gapD (w : Int) (L : List (Int × Int)) : Int := (L.map fun x => x.2 * gapI w x.1).sum
theorem totA_cons (x : Int × Int) (r : List (Int × Int)) : totA (x :: r) = x.2 + totA r := rfl
theorem totP_cons (x : Int × Int) (r : List (Int × Int)) : totP (x :: r) = x.1 * x.2 + totP r := rfl
theorem gapD_cons (w : Int) (x : Int × Int) (r : List (Int × Int)) : gapD w (x :: r) = x.2 * gapI w x.1 + gapD w r := rfl
theorem totA_app (A B : List (Int × Int)) : totA (A ++ B) = totA A + totA B := by
  unfold totA
  rw [List.map_append, List.sum_append]
theorem totP_app (A B : List (Int × Int)) : totP (A ++ B) = totP A + totP B := by
  unfold totP
  rw [List.map_append, List.sum_append]
theorem NonN.tail {x : Int × Int} {r : List (Int × Int)} (h : NonN (x :: r)) : 0 ≤ x.2 ∧ NonN r := ⟨h x List.mem_cons_self, fun y hy => h y (List.mem_cons_of_mem _ hy)⟩
theorem totA_nn : ∀ {L : List (Int × Int)}, NonN L → 0 ≤ totA L
  | [], _ => Int.le_refl _
  | x :: r, h => by
    obtain ⟨h1, h2⟩ := h.tail
    have := totA_nn h2
    rw [totA_cons]
    omega
theorem fill_zero : ∀ {L : List (Int × Int)}, NonN L → fillI L 0 = 0
  | [], _ => rfl
  | x :: r, h => by
    obtain ⟨h1, h2⟩ := h.tail
    have e : takenI x.2 0 = 0 := by
      unfold takenI
      split <;> omega
    unfold fillI
    rw [e, Int.mul_zero, Int.sub_zero, fill_zero h2]
    rfl
theorem taken_all {a m : Int} (h : a ≤ m) : takenI a m = a := if_neg (by omega)
theorem taken_part {a m : Int} (h : m < a) : takenI a m = m := if_pos h
theorem fill_full {x : Int × Int} {r : List (Int × Int)} {m : Int} (h : x.2 ≤ m) : fillI (x :: r) m = x.1 * x.2 + fillI r (m - x.2) := by
  show x.1 * takenI x.2 m + fillI r (m - takenI x.2 m) = _
  rw [taken_all h]
theorem fill_part {x : Int × Int} {r : List (Int × Int)} {m : Int} (h : m ≤ x.2) (hr : NonN r) : fillI (x :: r) m = x.1 * m := by
  show x.1 * takenI x.2 m + fillI r (m - takenI x.2 m) = _
  have e : takenI x.2 m = m := by
    unfold takenI
    split <;> omega
  rw [e, Int.sub_self, fill_zero hr, Int.add_zero]
theorem gapI_nn (w p : Int) : 0 ≤ gapI w p := by
  unfold gapI
  split <;> omega
theorem gapI_ge (w p : Int) : w - p ≤ gapI w p := by
  unfold gapI
  split <;> omega
/-- no way to fill up is worth less than the price tells -/
theorem fill_weak : ∀ {L : List (Int × Int)} {m : Int} (w : Int), NonN L → 0 ≤ m → m ≤ totA L → w * m - gapD w L ≤ fillI L m
  | [], m, w, _, h0, h1 => by
    have : m = 0 := by
      have : totA [] = 0 := rfl
      omega
    rw [this, Int.mul_zero]
    exact Int.le_refl _
  | x :: r, m, w, h, h0, h1 => by
    obtain ⟨a0, hr⟩ := h.tail
    rw [totA_cons] at h1
    rw [gapD_cons]
    have g0 := gapI_nn w x.1
    have g1 := gapI_ge w x.1
    by_cases c : m < x.2
    · have rn := totA_nn hr
      have ih := fill_weak (m := 0) w hr (Int.le_refl _) rn
      rw [fill_part (by omega) hr]
      rw [fill_zero hr, Int.mul_zero] at ih
      have k1 : m * (w - x.1) ≤ m * gapI w x.1 := Int.mul_le_mul_of_nonneg_left g1 h0
      have k2 : m * gapI w x.1 ≤ x.2 * gapI w x.1 := Int.mul_le_mul_of_nonneg_right (by omega) g0
      have e : m * (w - x.1) = w * m - x.1 * m := by rw [Int.mul_sub, Int.mul_comm m w, Int.mul_comm m x.1]
      omega
    · have ih := fill_weak (m := m - x.2) w hr (by omega) (by omega)
      rw [fill_full (by omega)]
      have k1 : x.2 * (w - x.1) ≤ x.2 * gapI w x.1 := Int.mul_le_mul_of_nonneg_left g1 a0
      have e : x.2 * (w - x.1) = w * x.2 - x.1 * x.2 := by rw [Int.mul_sub, Int.mul_comm x.2 w, Int.mul_comm x.2 x.1]
      have e2 : w * (m - x.2) = w * m - w * x.2 := Int.mul_sub _ _ _
      omega
theorem gap_none {w : Int} : ∀ {L : List (Int × Int)}, (∀ x ∈ L, w ≤ x.1) → gapD w L = 0
  | [], _ => rfl
  | x :: r, h => by
    have e : gapI w x.1 = 0 := if_neg (by have := h x List.mem_cons_self; omega)
    rw [gapD_cons, e, Int.mul_zero, gap_none fun y hy => h y (List.mem_cons_of_mem _ hy)]
    rfl
/-- in the order of the properties it is worth just that, at some price -/
theorem fill_strong : ∀ {L : List (Int × Int)} {m : Int}, NonN L → Asc L → 0 ≤ m → m ≤ totA L → ∃ w : Int, (L = [] ∨ ∃ x ∈ L, w = x.1) ∧ fillI L m = w * m - gapD w L
  | [], m, _, _, h0, h1 => by
    have : m = 0 := by
      have : totA [] = 0 := rfl
      omega
    exact ⟨0, .inl rfl, by rw [this]; rfl⟩
  | x :: r, m, h, ha, h0, h1 => by
    obtain ⟨a0, hr⟩ := h.tail
    obtain ⟨c1, c2⟩ := List.pairwise_cons.mp ha
    rw [totA_cons] at h1
    have own : gapI x.1 x.1 = 0 := if_neg (by omega)
    by_cases c : m ≤ x.2
    · refine ⟨x.1, .inr ⟨x, List.mem_cons_self, rfl⟩, ?_⟩
      rw [fill_part c hr, gapD_cons, own, gap_none c1]
      omega
    · obtain ⟨w, hw, e⟩ := fill_strong (m := m - x.2) hr c2 (by omega) (by omega)
      rcases hw with rfl | ⟨y, hy, rfl⟩
      · exfalso
        have : totA [] = 0 := rfl
        omega
      · have hxy := c1 y hy
        refine ⟨y.1, .inr ⟨y, List.mem_cons_of_mem _ hy, rfl⟩, ?_⟩
        have g : gapI y.1 x.1 = y.1 - x.1 := by
          unfold gapI
          split <;> omega
        rw [fill_full (by omega), e, gapD_cons, g, Int.mul_sub x.2, Int.mul_sub y.1, Int.mul_comm x.2 y.1, Int.mul_comm x.2 x.1]
        omega
theorem gapD_perm {w : Int} {L M : List (Int × Int)} (h : L.Perm M) : gapD w L = gapD w M := sum_perm (h.map _)
theorem totA_perm {L M : List (Int × Int)} (h : L.Perm M) : totA L = totA M := sum_perm (h.map _)
theorem nonN_perm {L M : List (Int × Int)} (h : L.Perm M) (n : NonN L) : NonN M := fun x hx => n x (h.mem_iff.mpr hx)
/-- the order of equal properties is all one -/
theorem fill_uniq {L M : List (Int × Int)} {m : Int} (h : L.Perm M) (hn : NonN L) (aL : Asc L) (aM : Asc M) (h0 : 0 ≤ m) (h1 : m ≤ totA L) : fillI L m = fillI M m := by
  have nM := nonN_perm h hn
  have tM := totA_perm h
  obtain ⟨w, _, e⟩ := fill_strong hn aL h0 h1
  obtain ⟨u, _, f⟩ := fill_strong nM aM h0 (by omega)
  have k1 := fill_weak w nM h0 (by omega)
  have k2 := fill_weak u hn h0 h1
  have g1 := gapD_perm (w := w) h
  have g2 := gapD_perm (w := u) h
  omega
/-- with the properties below 0 -/
def negL (L : List (Int × Int)) : List (Int × Int) := L.map fun x => (-x.1, x.2)
theorem fill_neg : ∀ (L : List (Int × Int)) (m : Int), fillI (negL L) m = -fillI L m
  | [], _ => rfl
  | x :: r, m => by
    show -x.1 * takenI x.2 m + fillI (negL r) (m - takenI x.2 m) = -(x.1 * takenI x.2 m + fillI r (m - takenI x.2 m))
    rw [fill_neg r, Int.neg_mul]
    omega
theorem neg_totA (L : List (Int × Int)) : totA (negL L) = totA L := by
  unfold totA negL
  rw [List.map_map]
  rfl
theorem neg_nonN {L : List (Int × Int)} (h : NonN L) : NonN (negL L) := fun x hx => by
  obtain ⟨y, hy, rfl⟩ := List.mem_map.mp hx
  exact h y hy
theorem neg_perm {L M : List (Int × Int)} (h : L.Perm M) : (negL L).Perm (negL M) := h.map _
theorem neg_asc {L : List (Int × Int)} (h : Asc L) : Asc (negL L.reverse) := by
  unfold Asc negL
  rw [List.pairwise_map, List.pairwise_reverse]
  exact h.imp fun {a b} q => by
    show -b.1 ≤ -a.1
    omega
theorem nonN_rev {L : List (Int × Int)} (h : NonN L) : NonN L.reverse := fun x hx => h x (List.mem_reverse.mp hx)
theorem totA_rev (L : List (Int × Int)) : totA L.reverse = totA L := totA_perm (List.reverse_perm L)
theorem fill_uniq_rev {L M : List (Int × Int)} {m : Int} (h : L.Perm M) (hn : NonN L) (aL : Asc L) (aM : Asc M) (h0 : 0 ≤ m) (h1 : m ≤ totA L) : fillI L.reverse m = fillI M.reverse m := by
  have e := fill_uniq (m := m) (neg_perm (((List.reverse_perm L).trans h).trans (List.reverse_perm M).symm)) (neg_nonN (nonN_rev hn)) (neg_asc aL) (neg_asc aM) h0 (by rw [neg_totA, totA_rev]; exact h1)
  rw [fill_neg, fill_neg] at e
  omega
/-! ### in the order of the properties, by a sort of its own -/
def putI (x : Int × Int) : List (Int × Int) → List (Int × Int)
  | [] => [x]
  | y :: r => if x.1 ≤ y.1 then x :: y :: r else y :: putI x r
def ascI : List (Int × Int) → List (Int × Int)
  | [] => []
  | x :: r => putI x (ascI r)
theorem putI_perm (x : Int × Int) : ∀ L : List (Int × Int), (putI x L).Perm (x :: L)
  | [] => List.Perm.refl _
  | y :: r => by
    unfold putI
    split
    · exact List.Perm.refl _
    · exact ((putI_perm x r).cons y).trans (List.Perm.swap x y r)
theorem ascI_perm : ∀ L : List (Int × Int), (ascI L).Perm L
  | [] => List.Perm.refl _
  | x :: r => (putI_perm x (ascI r)).trans ((ascI_perm r).cons x)
theorem putI_asc (x : Int × Int) : ∀ {L : List (Int × Int)}, Asc L → Asc (putI x L)
  | [], _ => List.pairwise_singleton _ _
  | y :: r, h => by
    obtain ⟨h1, h2⟩ := List.pairwise_cons.mp h
    unfold putI
    split
    · rename_i c
      refine List.pairwise_cons.mpr ⟨fun z hz => ?_, h⟩
      rcases List.mem_cons.mp hz with rfl | hz
      · exact c
      · have := h1 z hz
        show x.1 ≤ z.1
        omega
    · rename_i c
      refine List.pairwise_cons.mpr ⟨fun z hz => ?_, putI_asc x h2⟩
      rcases List.mem_cons.mp ((putI_perm x r).mem_iff.mp hz) with rfl | hz
      · show y.1 ≤ z.1
        omega
      · exact h1 z hz
theorem ascI_asc : ∀ L : List (Int × Int), Asc (ascI L)
  | [] => List.Pairwise.nil
  | x :: r => putI_asc x (ascI_asc r)
/-- the smallest and the greatest property total -/
def lowT (L : List (Int × Int)) (m : Int) : Int := fillI (ascI L) m
def highT (L : List (Int × Int)) (m : Int) : Int := fillI (ascI L).reverse m
theorem low_is {S L : List (Int × Int)} {m : Int} (h : S.Perm L) (hn : NonN L) (a : Asc S) (h0 : 0 ≤ m) (h1 : m ≤ totA L) : fillI S m = lowT L m :=
  (fill_uniq ((ascI_perm L).trans h.symm) (nonN_perm (ascI_perm L).symm hn) (ascI_asc L) a h0 (by rw [totA_perm (ascI_perm L)]; exact h1)).symm
theorem high_is {S L : List (Int × Int)} {m : Int} (h : S.Perm L) (hn : NonN L) (a : Asc S) (h0 : 0 ≤ m) (h1 : m ≤ totA L) : fillI S.reverse m = highT L m :=
  (fill_uniq_rev ((ascI_perm L).trans h.symm) (nonN_perm (ascI_perm L).symm hn) (ascI_asc L) a h0 (by rw [totA_perm (ascI_perm L)]; exact h1)).symm
/-! ### total_of_first -/
/-- each of ys a reference to a pair, k telling which -/
def PairsAt (H : Hp) (ys : List V) (k : V → Int × Int) : Prop := ∀ y ∈ ys, ∃ t, y = V.ref t ∧ H t = some (.tup [.int (k y).1, .int (k y).2])
theorem PairsAt.stay {H H' : Hp} {ys : List V} {k : V → Int × Int} (h : PairsAt H ys k) (s : Same H H') : PairsAt H' ys k := fun y hy => by
  obtain ⟨t, e, ht⟩ := h y hy
  exact ⟨t, e, s _ _ ht⟩
theorem PairsAt.sub {H : Hp} {ys zs : List V} {k : V → Int × Int} (h : PairsAt H ys k) (s : ∀ y ∈ zs, y ∈ ys) : PairsAt H zs k := fun y hy => h y (s y hy)
def sp_total_of_first (K : PySem.W.Frag) : Sp := fun vs H Q _ => ∃ (q : Int) (a : Addr) (ys : List V) (k : V → Int × Int), vs = [.int q, .ref a] ∧ H a = some (.lst ys) ∧ PairsAt H ys k ∧ ys.length ≤ 1000 ∧ (∀ y ∈ ys, Bd (k y).1) ∧
  ∀ H', Same H H' → Q (.int (fillI (ys.map k) q)) H'
theorem ok_total_of_first (T : Txt K mg) : FnOk P w K mg base CX0 1 T.a_total_of_first T.d_total_of_first ["quantity", "parts"] (sp_total_of_first K) := by
  refine T.F_total_of_first.ok sc_total_of_first (fun vs H Q E h => ?_) (fun cdv A outer s H vs Q E hr h => ?_)
  · obtain ⟨q, a, ys, k, rfl, _⟩ := h
    rfl
  · obtain ⟨q, a, ys, k, rfl, ha, hp, hl, hb, kk⟩ := h
    have hu := hu_of hr
    refine ⟨_, (pss_cons (ps_set (i := 2) sc_total_of_first.nd rfl (Or.inl rfl) pe_int)
      (pss_cons (ps_set (i := 3) sc_total_of_first.nd rfl (Or.inl rfl) (pv 0))
      (pss_cons (ps_for PassesOwn.never rfl (pi_list (pv 1)) (pg_tup rfl (pgs_cons (pg_name (i := 4) sc_total_of_first.nd rfl (Or.inl rfl)) (pgs_cons (pg_name (i := 5) sc_total_of_first.nd rfl (Or.inl rfl)) pgs_nil))) (pss_cons (ps_set (i := 6) sc_total_of_first.nd rfl (Or.inl rfl) (pe_callB (call_min2 rfl) (by rfl) T.z_min (by decide +kernel) (pa_cons (pv 5) (pa_cons (pv 3) pa_nil))))
      (pss_cons (ps_set (i := 2) sc_total_of_first.nd rfl (Or.inl rfl) (pe_op op_add (pv 2) (pe_op op_mul (pv 4) (pv 6))))
      (pss_one (ps_set (i := 3) sc_total_of_first.nd rfl (Or.inl rfl) (pe_op op_sub (pv 3) (pv 6)))))))
      (pss_one (ps_ret (pv 2)))))), ?_⟩
    -- total = 0; missing = quantity
    refine ⟨_, rfl, ?_⟩
    -- for own_property, most in parts
    refine ⟨_, rfl, a, rfl, ⟨_, .inl (.inl ha)⟩, ?_⟩
    refine for_it (walk_list (xs := ys)) (fun i σ H4 => i ≤ ys.length ∧ Same H H4 ∧ ∃ (tot mis : Int) (y4 y5 y6 : Option V), σ = [some (.int q), some (.ref a), some (.int tot), some (.int mis), y4, y5, y6] ∧
      tot + fillI ((ys.drop i).map k) mis = fillI (ys.map k) q) ?_ ?_ ?_ ?_
    · refine ⟨Nat.zero_le _, Same.refl _, 0, q, none, none, none, rfl, ?_⟩
      rw [List.drop_zero, Int.zero_add]
    · intro i σ H4 _ p4
      exact .inl (.inl (p4.2.1 _ _ ha))
    · intro i x σ H4 H5 hi p4 y
      obtain ⟨_, s4, tot, mis, y4, y5, y6, rfl, e⟩ := p4
      obtain ⟨rfl, ex⟩ := y
      have xm : x ∈ ys := List.mem_of_getElem? ex
      obtain ⟨t, rfl, ht⟩ := hp x xm
      have ht4 := s4 _ _ ht
      have ed : ys.drop i = V.ref t :: ys.drop (i + 1) := by
        rw [List.drop_eq_getElem_cons hi]
        rw [List.getElem?_eq_getElem hi] at ex
        rw [Option.some.inj ex]
      have bx := hb _ xm
      refine ⟨t, _, rfl, .inl (.inl ht4), rfl, _, _, rfl, _, _, rfl, rfl, ?_⟩
      -- taken = min(most, missing)
      refine ⟨_, rfl, _, rfl, (k (V.ref t)).2, mis, rfl, ?_⟩
      -- total = total + own_property * taken
      refine ⟨_, rfl, _, rfl, _, rfl, _, _, rfl, rfl, .inl bx, _, _, rfl, rfl, ?_⟩
      -- missing = missing - taken
      refine ⟨_, rfl, _, rfl, _, _, rfl, rfl, ?_⟩
      refine ⟨hi, s4, _, _, _, _, _, rfl, ?_⟩
      rw [← e, ed]
      have fs : fillI ((V.ref t :: ys.drop (i + 1)).map k) mis = (k (V.ref t)).1 * takenI (k (V.ref t)).2 mis + fillI ((ys.drop (i + 1)).map k) (mis - takenI (k (V.ref t)).2 mis) := rfl
      rw [fs]
      exact Int.add_assoc _ _ _
    · intro σ H4 p4
      obtain ⟨_, s4, tot, mis, y4, y5, y6, rfl, e⟩ := p4
      rw [List.drop_length] at e
      have e : tot = fillI (ys.map k) q := by
        rw [← e]
        exact (Int.add_zero _).symm
      subst e
      exact ⟨_, rfl, kk H4 s4⟩
/-! ### extreme_totals -/
/-- property and amount of each component -/
def partsOf (ns : List Int) : List (Int × Int) := List.zipWith (fun a p => (p, a)) (pk 0 ns) (pk 2 ns)
def extM (q : Int) (ns : List Int) : Option (Int × Int) := if (pk 0 ns).sum < q then none else some (lowT (partsOf ns) q, highT (partsOf ns) q)
/-- None, or a list of two numbers -/
def TotAt (H : Hp) (v : V) (o : Option (Int × Int)) : Prop := (o = none ∧ v = .non) ∨ ∃ x t, o = some x ∧ v = .ref t ∧ H t = some (.lst [.int x.1, .int x.2])
/-- the pair that a reference leads to -/
def pairIn (H : Hp) : V → Int × Int
  | .ref t => match H t with
    | some (.tup [.int p, .int a]) => (p, a)
    | _ => (0, 0)
  | _ => (0, 0)
theorem pairIn_of {H : Hp} {t : Addr} {p a : Int} (h : H t = some (.tup [.int p, .int a])) : pairIn H (.ref t) = (p, a) := by
  show (match H t with
    | some (.tup [.int p, .int a]) => (p, a)
    | _ => (0, 0)) = _
  rw [h]
theorem zip_sum : ∀ {av pr : List Int}, pr.length = av.length → totA (List.zipWith (fun a p => (p, a)) av pr) = av.sum
  | [], [], _ => rfl
  | [], _ :: _, h => by simp at h
  | _ :: _, [], h => by simp at h
  | a :: av, p :: pr, h => by
    rw [List.zipWith_cons_cons, totA_cons, zip_sum (by simpa using h), List.sum_cons]
theorem zip_nonN {av pr : List Int} (h : ∀ x ∈ av, 0 ≤ x) : NonN (List.zipWith (fun a p => (p, a)) av pr) := fun x hx => by
  obtain ⟨i, hi⟩ := List.mem_iff_getElem?.mp hx
  rw [List.getElem?_zipWith] at hi
  split at hi
  · rename_i a p e1 e2
    rw [← Option.some.inj hi]
    exact h a (List.mem_of_getElem? e1)
  · cases hi
theorem srtd_asc {k : V → Int × Int} {zs : List V} (h : SrtO.Srtd (ltP k) zs) : Asc (zs.map k) := by
  unfold Asc
  rw [List.pairwise_map]
  refine h.imp fun {a b} q => ?_
  have := SrtO.lexB_no.mp q
  omega
def sp_extreme_totals (K : PySem.W.Frag) : Sp := fun vs H Q _ => ∃ (q : Int) (c : Addr) (ns : List Int), vs = [.int q, .ref c] ∧ LI K H c ns ∧ compsOk ns = true ∧ 0 ≤ q ∧ ∀ H' v, Same H H' → TotAt H' v (extM q ns) → Q v H'
theorem ok_extreme_totals (T : Txt K mg) : FnOk P w K mg base CX0 2 T.a_extreme_totals T.d_extreme_totals ["quantity", "components"] (sp_extreme_totals K) := by
  have G_total_of_first : FnOk P w K mg base CX0 1 T.a_total_of_first T.d_total_of_first ["quantity", "parts"] (sp_total_of_first K) := ok_total_of_first T
  refine T.F_extreme_totals.ok sc_extreme_totals (fun vs H Q E h => ?_) (fun cdv A outer s H vs Q E hr h => ?_)
  · obtain ⟨q, c, ns, rfl, _⟩ := h
    rfl
  · obtain ⟨q, c, ns, rfl, hc, hcok, hq, kk⟩ := h
    have hu := hu_of hr
    refine ⟨_, (pss_cons (ps_if (pt_cmpR op_lt (pe_callB (cr_sum rfl) (by rfl) T.z_sum (by decide +kernel) (pa_cons (pe_slice3 (pv 1) (po_some pe_int) po_none (po_some pe_int)) pa_nil)) (pv 0) (nomark _)) (pss_one (ps_ret pe_non)) pss_nil)
      (pss_cons (ps_set (i := 2) sc_extreme_totals.nd rfl (Or.inl rfl) (pe_callB cr_sortedPO (by rfl) T.z_sorted (by decide +kernel) (pa_cons (pe_lc (own := [("most", 3), ("own_property", 4)]) (g := (gTup K 2 (gCons (gName 3) (gCons (gName 4) gNil)))) (tt := tYes) rfl sc_extreme_totals.nd (pi_zip (by rfl) T.z_zip (pa_cons (pe_slice3 (pv 1) (po_some pe_int) po_none (po_some pe_int)) (pa_cons (pe_slice3 (pv 1) (po_some pe_int) po_none (po_some pe_int)) pa_nil))) (blkOk_by (own := [("most", 3), ("own_property", 4)]) (N := N_extreme_totals) (sc := defScope s_extreme_totals) (by decide +kernel)) (fun _ _ _ _ _ => (pg_tup rfl (pgs_cons (pg_name (i := 3) sc_extreme_totals.nd rfl (Or.inl rfl)) (pgs_cons (pg_name (i := 4) sc_extreme_totals.nd rfl (Or.inl rfl)) pgs_nil)))) (fun _ _ _ _ _ => pts_nil) (fun _ _ _ _ _ => (pe_tup (pa_cons (pv 4) (pa_cons (pv 3) pa_nil))))) pa_nil)))
      (pss_one (ps_ret (pe_lst (pa_cons (pe_call G_total_of_first (hr.mono (by decide)) rfl T.g_total_of_first T.F_total_of_first.kp T.b_total_of_first .nil pass0 (pa_cons (pv 0) (pa_cons (pv 2) pa_nil))) (pa_cons (pe_call G_total_of_first (hr.mono (by decide)) rfl T.g_total_of_first T.F_total_of_first.kp T.b_total_of_first .nil pass0 (pa_cons (pv 0) (pa_cons (pe_callBK cr_sortedBack (by rfl) T.z_sorted (by decide +kernel) (pa_cons (pv 2) pa_nil) (pk_cons pe_bl pk_nil)) pa_nil))) pa_nil))))))), ?_⟩
    have hns := comps_bd hcok
    obtain ⟨pl0, pl1, pl2⟩ := pk_parts hcok
    unfold extM partsOf at kk
    obtain ⟨av, hav⟩ : ∃ z, z = pk 0 ns := ⟨_, rfl⟩
    obtain ⟨pr, hpr⟩ : ∃ z, z = pk 2 ns := ⟨_, rfl⟩
    have ab : ∀ x ∈ av, 0 ≤ x ∧ x ≤ 99 := fun x hx => hns x (pickNums_mem (hav ▸ hx))
    have pb : ∀ x ∈ pr, 0 ≤ x ∧ x ≤ 99 := fun x hx => hns x (pickNums_mem (hpr ▸ hx))
    rw [← hav, ← hpr] at kk
    rw [← hav] at pl0 pl2
    rw [← hpr] at pl2
    -- if sum(components[0::3]) < quantity
    refine ⟨_, rfl, 0, rfl, 3, rfl, c, _, rfl, hc, by decide, fun p0 np0 => ?_⟩
    rw [pickV_map, show pickNums ns (some 0) none (some 3) = av from hav.symm]
    have s1 := same_upd (o := .lst (av.map V.int)) np0
    refine ⟨p0, av, rfl, .inl (.inl upd_same), ?_⟩
    generalize upd H p0 (.lst (av.map V.int)) = H1 at *
    refine ⟨_, rfl, _, _, rfl, rfl, _, rfl, ite2 (fun hlt => ?_) (fun hlt => ?_)⟩
    · have hlt := of_decide_eq_true hlt
      rw [if_pos hlt] at kk
      exact kk H1 .non s1 (.inl ⟨rfl, rfl⟩)
    · have hge : q ≤ av.sum := by
        have := of_decide_eq_false (eq_false_of_ne_true hlt)
        omega
      rw [if_neg (by omega)] at kk
      -- parts = sorted([(own_property, most) for most, own_property in zip(components[0::3], components[2::3])])
      refine ⟨_, rfl, 0, rfl, 3, rfl, c, _, rfl, Same.seq s1 hc, by decide, fun p1 np1 => ?_⟩
      rw [pickV_map, show pickNums ns (some 0) none (some 3) = av from hav.symm]
      have s2 := same_upd (o := .lst (av.map V.int)) np1
      have hp1 : upd H1 p1 (.lst (av.map V.int)) p1 = some (.lst (av.map V.int)) := upd_same
      generalize upd H1 p1 (.lst (av.map V.int)) = H2 at *
      refine ⟨_, rfl, 2, rfl, 3, rfl, c, _, rfl, Same.seq (Same.trans s1 s2) hc, by decide, fun p2 np2 => ?_⟩
      rw [pickV_map, show pickNums ns (some 2) none (some 3) = pr from hpr.symm]
      have s3 := same_upd (o := .lst (pr.map V.int)) np2
      have hp2 : upd H2 p2 (.lst (pr.map V.int)) p2 = some (.lst (pr.map V.int)) := upd_same
      have hp1' := s3 _ _ hp1
      generalize upd H2 p2 (.lst (pr.map V.int)) = H3 at *
      have s03 : Same H H3 := Same.trans s1 (Same.trans s2 s3)
      refine ⟨p1, p2, _, _, rfl, .inl (.inl hp1'), .inl (.inl hp2), fun D hD => ?_⟩
      refine lc_rel (walk_zip (xs := av.map V.int) (ys := pr.map V.int) (n := av.length) (by rw [List.length_map, List.length_map, pl2, Nat.min_self])) hD (by omega) (fun H4 s4 => ⟨.inl (.inl (s4 _ _ hp1')), .inl (.inl (s4 _ _ hp2))⟩)
        (fun i y H4 => ∃ t a p, y = .ref t ∧ t ≠ D ∧ av[i]? = some a ∧ pr[i]? = some p ∧ H4 t = some (.tup [.int p, .int a])) ?_ ?_ ?_
      · rintro i y H4 H5 sb ⟨t, a, p, rfl, nt, e1, e2, ht⟩
        exact ⟨t, a, p, rfl, nt, e1, e2, sb _ _ nt ht⟩
      · intro i x H4 H5 R Z hi s4 ⟨acc, hacc⟩ y hR
        obtain ⟨t, x2, y2, rfl, nt, rfl, f1, f2⟩ := y
        obtain ⟨a, e1, g1⟩ := map_at f1
        obtain ⟨p, e2, g2⟩ := map_at f2
        subst g1 g2
        have st := same_upd (o := .tup [V.int a, V.int p]) nt
        refine ⟨t, _, rfl, .inl (.inl upd_same), rfl, _, _, rfl, _, _, rfl, rfl, rfl, iteT ?_⟩
        have hacc' := st _ _ hacc
        generalize upd H4 t (.tup [V.int a, V.int p]) = H6 at *
        refine ⟨_, rfl, _, rfl, (by show 2 ≤ sizeLine; decide), fun u nu => ?_⟩
        exact hR _ _ (Same.trans st (same_upd nu)) ⟨u, a, p, rfl, (ne_of_none hacc' nu).symm, e1, e2, upd_same⟩
      intro H4 ys s4 hD4 hys rel
      have ey : ys.map (pairIn H4) = List.zipWith (fun a p => (p, a)) av pr := by
        refine List.ext_getElem (by rw [List.length_map, List.length_zipWith, hys, pl2, Nat.min_self]) fun i h1 h2 => ?_
        rw [List.length_map] at h1
        obtain ⟨t, a, p, e, _, e1, e2, ht⟩ := rel i _ (List.getElem?_eq_getElem h1)
        rw [List.getElem_map, List.getElem_zipWith, e, pairIn_of ht]
        rw [List.getElem?_eq_getElem (by omega)] at e1 e2
        rw [Option.some.inj e1, Option.some.inj e2]
      have hpy : PairsAt H4 ys (pairIn H4) := fun y hy => by
        obtain ⟨i, hi⟩ := List.mem_iff_getElem?.mp hy
        obtain ⟨t, a, p, e, _, e1, e2, ht⟩ := rel i _ hi
        rw [e, pairIn_of ht]
        exact ⟨t, rfl, ht⟩
      have nn : NonN (List.zipWith (fun a p => (p, a)) av pr) := zip_nonN fun x hx => (ab x hx).1
      have tt : totA (List.zipWith (fun a p => (p, a)) av pr) = av.sum := zip_sum pl2
      have by' : ∀ y ∈ ys, Bd (pairIn H4 y).1 := fun y hy => by
        have hm : pairIn H4 y ∈ ys.map (pairIn H4) := List.mem_map_of_mem hy
        rw [ey] at hm
        obtain ⟨i, hi⟩ := List.mem_iff_getElem?.mp hm
        rw [List.getElem?_zipWith] at hi
        split at hi
        · rename_i a p e1 e2
          rw [← Option.some.inj hi]
          have := pb p (List.mem_of_getElem? e2)
          exact bd_of (by show -1000000000 ≤ p; omega) (by show p ≤ 1000000000; omega)
        · cases hi
      have s04 : Same H H4 := Same.trans s03 s4
      generalize pairIn H4 = k at *
      refine ⟨D, ys, k, rfl, .inl (.inl hD4), hpy, fun zs p3 so st np3 => ?_⟩
      have t3 := same_upd (o := .lst zs) np3
      have hp3 : upd H4 p3 (.lst zs) p3 = some (.lst zs) := upd_same
      have hpz : PairsAt _ zs k := (hpy.stay t3).sub fun y hy => st.perm.mem_iff.mp hy
      generalize upd H4 p3 (.lst zs) = H5 at *
      have zl : zs.length ≤ 1000 := by
        rw [st.perm.length_eq, hys]
        omega
      have pz : (zs.map k).Perm (List.zipWith (fun a p => (p, a)) av pr) := by
        rw [← ey]
        exact st.perm.map k
      -- total_of_first(quantity, parts)
      refine ⟨_, rfl, _, rfl, q, p3, zs, k, rfl, hp3, hpz, zl, fun y hy => by' y (st.perm.mem_iff.mp hy), fun H6 s6 => ?_⟩
      rw [low_is pz nn (srtd_asc so) hq (by omega)]
      -- total_of_first(quantity, sorted(parts, reverse=True))
      refine ⟨_, rfl, _, rfl, p3, zs, k, rfl, rfl, .inl (.inl (s6 _ _ hp3)), hpz.stay s6, fun us p4 so2 st2 np4 => ?_⟩
      have t4 := same_upd (o := .lst us.reverse) np4
      have pu : ∀ y ∈ us.reverse, y ∈ zs := fun y hy => st2.mem_iff.mp (List.mem_reverse.mp hy)
      refine ⟨q, p4, us.reverse, k, rfl, upd_same, ((hpz.stay s6).stay t4).sub pu, by rw [List.length_reverse, st2.length_eq]; exact zl, fun y hy => by' y (st.perm.mem_iff.mp (pu y hy)), fun H7 s7 => ?_⟩
      rw [List.map_reverse, high_is ((st2.map k).trans pz) nn (srtd_asc so2) hq (by omega)]
      refine ⟨(by show 2 ≤ sizeLine; decide), fun r nr => ?_⟩
      refine kk _ _ (Same.trans (Same.trans s04 t3) (Same.trans s6 (Same.trans t4 (Same.trans s7 (same_upd nr))))) (.inr ⟨_, r, rfl, rfl, upd_same⟩)
/-! ### property_range -/
def rangeM (q : Int) (ns : List Int) : List Int :=
  if within q 99 = true then (if compsOk ns = true then (match extM q ns with
    | none => [-33]
    | some x => [x.1, x.2]) else [-22]) else [-22]
def sp_property_range (K : PySem.W.Frag) : Sp := fun vs H Q _ => ∃ (q : Int) (c : Addr) (ns : List Int), vs = [.int q, .ref c] ∧ LI K H c ns ∧ ns.length ≤ 1000 ∧
  ∀ H' r, H' r = some (.lst ((rangeM q ns).map V.int)) → Q (.ref r) H'
theorem ok_property_range (T : Txt K mg) : FnOk P w K mg base CX0 3 T.a_property_range T.d_property_range ["quantity", "components"] (sp_property_range K) := by
  have G_within : FnOk P w K mg base CX0 1 T.a_within T.d_within ["number", "most"] (sp_within K) := ok_within T
  have G_components_within_limits : FnOk P w K mg base CX0 2 T.a_components_within_limits T.d_components_within_limits ["components"] (sp_components_within_limits K) := ok_components_within_limits T
  have G_extreme_totals : FnOk P w K mg base CX0 2 T.a_extreme_totals T.d_extreme_totals ["quantity", "components"] (sp_extreme_totals K) := ok_extreme_totals T
  refine T.F_property_range.ok sc_property_range (fun vs H Q E h => ?_) (fun cdv A outer s H vs Q E hr h => ?_)
  · obtain ⟨q, c, ns, rfl, _⟩ := h
    rfl
  · obtain ⟨q, c, ns, rfl, hc, hl, k⟩ := h
    have hu := hu_of hr
    refine ⟨_, (pss_cons (ps_if (PW.pt (pw_or (pt_not (pt_val (pe_call G_within (hr.mono (by decide)) rfl T.g_within T.F_within.kp T.b_within .nil pass0 (pa_cons (pv 0) (pa_cons (pe_glob (v := V.int 99) rfl T.c_MOST_QUANTITY ⟨_, rfl⟩) pa_nil))))) (pw_or1 (pt_not (pt_val (pe_call G_components_within_limits (hr.mono (by decide)) rfl T.g_components_within_limits T.F_components_within_limits.kp T.b_components_within_limits .nil pass0 (pa_cons (pv 1) pa_nil))))))) (pss_one (ps_ret (pe_lst (pa_cons (pe_un un_neg (pe_glob (v := V.int 22) rfl T.c_OUTSIDE_LIMITS ⟨_, rfl⟩)) pa_nil)))) pss_nil)
      (pss_cons (ps_set (i := 2) sc_property_range.nd rfl (Or.inl rfl) (pe_call G_extreme_totals (hr.mono (by decide)) rfl T.g_extreme_totals T.F_extreme_totals.kp T.b_extreme_totals .nil pass0 (pa_cons (pv 0) (pa_cons (pv 1) pa_nil))))
      (pss_cons (ps_if (pt_cmpR op_isN (pv 2) pe_non (nomark _)) (pss_one (ps_ret (pe_lst (pa_cons (pe_un un_neg (pe_glob (v := V.int 33) rfl T.c_NOT_FEASIBLE ⟨_, rfl⟩)) pa_nil)))) pss_nil)
      (pss_one (ps_ret (pv 2)))))), ?_⟩
    unfold rangeM at k
    refine ⟨_, rfl, q, 99, rfl, _, rfl, ?_⟩
    cases h1 : within q 99 with
    | false =>
      rw [h1, if_neg Bool.false_ne_true] at k
      refine iteT ?_
      refine ⟨_, rfl, (by show 1 ≤ sizeLine; decide), fun r nr => ?_⟩
      exact k _ r upd_same
    | true =>
      rw [if_pos h1] at k
      refine iteF ?_
      refine ⟨_, rfl, c, ns, rfl, hc, hl, fun H1 s1 => ⟨_, rfl, ?_⟩⟩
      cases h2 : compsOk ns with
      | false =>
        rw [h2, if_neg Bool.false_ne_true] at k
        refine iteT ?_
        refine ⟨_, rfl, (by show 1 ≤ sizeLine; decide), fun r nr => ?_⟩
        exact k _ r upd_same
      | true =>
        rw [if_pos h2] at k
        refine iteF ?_
        -- totals = extreme_totals(quantity, components)
        refine ⟨_, rfl, _, rfl, q, c, ns, rfl, Same.seq s1 hc, h2, (within_iff.mp h1).1, fun H2 v s2 ht => ?_⟩
        -- if totals is None
        refine ⟨_, rfl, rfl, _, rfl, ?_⟩
        rcases ht with ⟨e, rfl⟩ | ⟨x, t, e, rfl, ht⟩
        · rw [e] at k
          refine if_true_of (decide_eq_true rfl) ?_
          refine ⟨_, rfl, (by show 1 ≤ sizeLine; decide), fun r nr => ?_⟩
          exact k _ r upd_same
        · rw [e] at k
          refine if_false_of (decide_eq_false (fun z => nomatch z)) ?_
          exact ⟨_, rfl, k _ t ht⟩
section
open Ks595 (Problem Component componentAt fillInOrder insertByProperty orderByProperty totalAmount)
/-! ### the order of the specification -/
/-- property and amount of a component by its index -/
def pairAt (p : Problem) (i : Nat) : Int × Int := (((componentAt p i).property : Int), ((componentAt p i).amount : Int))
theorem fill_spec (p : Problem) : ∀ (l : List Nat) (m : Nat), ((fillInOrder p l m : Nat) : Int) = fillI (l.map (pairAt p)) m
  | [], _ => rfl
  | i :: r, m => by
    have e : takenI ((componentAt p i).amount : Int) (m : Int) = ((min m (componentAt p i).amount : Nat) : Int) := by
      unfold takenI
      split <;> omega
    have e2 : (m : Int) - ((min m (componentAt p i).amount : Nat) : Int) = ((m - min m (componentAt p i).amount : Nat) : Int) := by omega
    show ((min m (componentAt p i).amount * (componentAt p i).property + fillInOrder p r (m - min m (componentAt p i).amount) : Nat) : Int) =
      ((componentAt p i).property : Int) * takenI ((componentAt p i).amount : Int) (m : Int) + fillI (r.map (pairAt p)) ((m : Int) - takenI ((componentAt p i).amount : Int) (m : Int))
    rw [e, e2, ← fill_spec p r, Int.natCast_add, Int.natCast_mul, Int.mul_comm]
theorem ins_perm (p : Problem) (i : Nat) : ∀ l : List Nat, (insertByProperty p i l).Perm (i :: l)
  | [] => List.Perm.refl _
  | j :: r => by
    unfold insertByProperty
    split
    · exact List.Perm.refl _
    · exact ((ins_perm p i r).cons j).trans (List.Perm.swap i j r)
theorem foldr_perm (p : Problem) : ∀ l : List Nat, (l.foldr (insertByProperty p) []).Perm l
  | [] => List.Perm.refl _
  | i :: r => (ins_perm p i _).trans ((foldr_perm p r).cons i)
/-- by the property, from the smallest on -/
def ByProp (p : Problem) (l : List Nat) : Prop := l.Pairwise fun i j => (componentAt p i).property ≤ (componentAt p j).property
theorem ins_asc (p : Problem) (i : Nat) : ∀ {l : List Nat}, ByProp p l → ByProp p (insertByProperty p i l)
  | [], _ => List.pairwise_singleton _ _
  | j :: r, h => by
    obtain ⟨h1, h2⟩ := List.pairwise_cons.mp h
    unfold insertByProperty
    split
    · rename_i c
      refine List.pairwise_cons.mpr ⟨fun z hz => ?_, h⟩
      rcases List.mem_cons.mp hz with rfl | hz
      · exact c
      · exact Nat.le_trans c (h1 z hz)
    · rename_i c
      refine List.pairwise_cons.mpr ⟨fun z hz => ?_, ins_asc p i h2⟩
      rcases List.mem_cons.mp ((ins_perm p i r).mem_iff.mp hz) with rfl | hz
      · omega
      · exact h1 z hz
theorem foldr_asc (p : Problem) : ∀ l : List Nat, ByProp p (l.foldr (insertByProperty p) [])
  | [] => List.Pairwise.nil
  | i :: r => ins_asc p i (foldr_asc p r)
theorem order_asc (p : Problem) : Asc ((orderByProperty p).map (pairAt p)) := by
  unfold Asc
  rw [List.pairwise_map]
  refine (foldr_asc p (List.range p.components.length)).imp fun {a b} q => ?_
  show ((componentAt p a).property : Int) ≤ ((componentAt p b).property : Int)
  omega
theorem range_pairs (p : Problem) : (List.range p.components.length).map (pairAt p) = List.zipWith (fun a b => (b, a)) (avs p) (prs p) := by
  refine List.ext_getElem (by rw [List.length_map, List.length_range, List.length_zipWith, avs_len, prs_len, Nat.min_self]) fun i h1 h2 => ?_
  rw [List.length_map, List.length_range] at h1
  rw [List.getElem_map, List.getElem_range, List.getElem_zipWith]
  have e : componentAt p i = p.components[i] := by
    unfold componentAt
    rw [List.getD_eq_getElem?_getD, List.getElem?_eq_getElem h1]
    rfl
  unfold pairAt avs prs
  rw [List.getElem_map, List.getElem_map, e]
theorem order_perm (p : Problem) : ((orderByProperty p).map (pairAt p)).Perm (List.zipWith (fun a b => (b, a)) (avs p) (prs p)) := by
  rw [← range_pairs]
  exact (foldr_perm p _).map _
theorem cast_sum {α : Type} (f : α → Nat) : ∀ l : List α, (((l.map f).sum : Nat) : Int) = (l.map fun x => (f x : Int)).sum
  | [] => rfl
  | x :: r => by
    rw [List.map_cons, List.sum_cons, List.map_cons, List.sum_cons, Int.natCast_add, cast_sum f r]
theorem total_spec (p : Problem) : ((totalAmount p : Nat) : Int) = (avs p).sum := cast_sum _ _
theorem avs_nn (p : Problem) : ∀ x ∈ avs p, 0 ≤ x := fun x hx => by
  obtain ⟨c, _, rfl⟩ := List.mem_map.mp hx
  omega
theorem low_spec {p : Problem} {m : Nat} (h : m ≤ totalAmount p) : ((fillInOrder p (orderByProperty p) m : Nat) : Int) = lowT (List.zipWith (fun a b => (b, a)) (avs p) (prs p)) m := by
  have t := total_spec p
  rw [fill_spec]
  exact low_is (order_perm p) (zip_nonN (avs_nn p)) (order_asc p) (by omega) (by rw [zip_sum (by rw [prs_len, avs_len])]; omega)
theorem high_spec {p : Problem} {m : Nat} (h : m ≤ totalAmount p) : ((fillInOrder p (orderByProperty p).reverse m : Nat) : Int) = highT (List.zipWith (fun a b => (b, a)) (avs p) (prs p)) m := by
  have t := total_spec p
  rw [fill_spec, List.map_reverse]
  exact high_is (order_perm p) (zip_nonN (avs_nn p)) (order_asc p) (by omega) (by rw [zip_sum (by rw [prs_len, avs_len])]; omega)
end
section
open Ks595 (Problem Component componentAt fillInOrder insertByProperty orderByProperty totalAmount)
theorem range_ok (q : Int) (ns : List Int) : reqOk q 0 0 ns = (within q 99 && compsOk ns) := by
  unfold reqOk
  rw [show within 0 99 = true from rfl, show decide ((0 : Int) ≤ 0) = true from rfl, Bool.true_and, Bool.true_and, Bool.true_and]
theorem range_spec {q : Int} {ns : List Int} (hq : 0 ≤ q) (h0 : ∀ x ∈ ns, 0 ≤ x) : PyKs595.property_range q ns = rangeM q ns := by
  have e0 : PyKs595.property_range q ns = Ks595Neutral.integers (Ks595.withProblem q.toNat (0 : Int).toNat (0 : Int).toNat (ns.map Int.toNat) fun p => if totalAmount p < q.toNat then Ks595.number (-33)
    else { value := fillInOrder p (orderByProperty p) q.toNat, rest := [(fillInOrder p (orderByProperty p).reverse q.toNat : Int)] }) := rfl
  rw [e0]
  unfold Ks595.withProblem rangeM
  rw [parse_prob hq (Int.le_refl 0) (Int.le_refl 0) h0]
  by_cases h : reqOk q 0 0 ns = true
  · rw [if_pos h]
    obtain ⟨ea, ec, ep, el, eq, elo, ehi⟩ := prob_parts h
    generalize prob q 0 0 ns = p at *
    rw [range_ok, Bool.and_eq_true] at h
    rw [if_pos h.1, if_pos h.2]
    unfold extM partsOf
    rw [← ea, ← ep]
    have t := total_spec p
    have eq2 : ((q.toNat : Nat) : Int) = q := by omega
    dsimp only
    by_cases c : totalAmount p < q.toNat
    · rw [if_pos c, if_pos (by omega)]
      rfl
    · rw [if_neg c, if_neg (by omega)]
      have l := low_spec (p := p) (m := q.toNat) (by omega)
      have g := high_spec (p := p) (m := q.toNat) (by omega)
      rw [eq2] at l g
      show [((fillInOrder p (orderByProperty p) q.toNat : Nat) : Int), ((fillInOrder p (orderByProperty p).reverse q.toNat : Nat) : Int)] = _
      rw [l, g]
  · rw [if_neg h]
    rw [range_ok, Bool.and_eq_true] at h
    by_cases c : within q 99 = true
    · rw [if_pos c, if_neg (fun z => h ⟨c, z⟩)]
      rfl
    · rw [if_neg c]
      rfl
end
end
theorem all_mk {P : Program} {w : World} {K : PySem.W.Frag} {h : Heap} {mg : Str → Option Value} {fa : Addr} (X : K.In h) (G : h.Ns mainGlobals mg) (hfa : mg "property_range" = some (.ref fa))
    {f0 : Addr} {od0 an0 : Option Addr} {sl0 : Array (Option Value)} {oc0 kV0 dc0 pm0 cd0 ct0 : Value}
    (a0 : PySem.W.nsIn K mainGlobals "property_range" = some (some (.ref f0))) (l0 : K.lookup f0 = some ⟨oc0, od0, .func (PySem.W.fnOf "property_range" "property_range" (defArgs s_property_range) (defBody s_property_range) (defScope s_property_range) .none kV0 dc0 pm0 an0 cd0 ct0), sl0⟩) (c0 : PySem.W.codeIn K cd0 "property_range" = true) (k0 : PySem.W.keepIn K (.ref f0) = true)
    {f1 : Addr} {od1 an1 : Option Addr} {sl1 : Array (Option Value)} {oc1 kV1 dc1 pm1 cd1 ct1 : Value}
    (a1 : PySem.W.nsIn K mainGlobals "components_within_limits" = some (some (.ref f1))) (l1 : K.lookup f1 = some ⟨oc1, od1, .func (PySem.W.fnOf "components_within_limits" "components_within_limits" (defArgs s_components_within_limits) (defBody s_components_within_limits) (defScope s_components_within_limits) .none kV1 dc1 pm1 an1 cd1 ct1), sl1⟩) (c1 : PySem.W.codeIn K cd1 "components_within_limits" = true) (k1 : PySem.W.keepIn K (.ref f1) = true)
    {f2 : Addr} {od2 an2 : Option Addr} {sl2 : Array (Option Value)} {oc2 kV2 dc2 pm2 cd2 ct2 : Value}
    (a2 : PySem.W.nsIn K mainGlobals "within" = some (some (.ref f2))) (l2 : K.lookup f2 = some ⟨oc2, od2, .func (PySem.W.fnOf "within" "within" (defArgs s_within) (defBody s_within) (defScope s_within) .none kV2 dc2 pm2 an2 cd2 ct2), sl2⟩) (c2 : PySem.W.codeIn K cd2 "within" = true) (k2 : PySem.W.keepIn K (.ref f2) = true)
    {f3 : Addr} {od3 an3 : Option Addr} {sl3 : Array (Option Value)} {oc3 kV3 dc3 pm3 cd3 ct3 : Value}
    (a3 : PySem.W.nsIn K mainGlobals "extreme_totals" = some (some (.ref f3))) (l3 : K.lookup f3 = some ⟨oc3, od3, .func (PySem.W.fnOf "extreme_totals" "extreme_totals" (defArgs s_extreme_totals) (defBody s_extreme_totals) (defScope s_extreme_totals) .none kV3 dc3 pm3 an3 cd3 ct3), sl3⟩) (c3 : PySem.W.codeIn K cd3 "extreme_totals" = true) (k3 : PySem.W.keepIn K (.ref f3) = true)
    {f4 : Addr} {od4 an4 : Option Addr} {sl4 : Array (Option Value)} {oc4 kV4 dc4 pm4 cd4 ct4 : Value}
    (a4 : PySem.W.nsIn K mainGlobals "total_of_first" = some (some (.ref f4))) (l4 : K.lookup f4 = some ⟨oc4, od4, .func (PySem.W.fnOf "total_of_first" "total_of_first" (defArgs s_total_of_first) (defBody s_total_of_first) (defScope s_total_of_first) .none kV4 dc4 pm4 an4 cd4 ct4), sl4⟩) (c4 : PySem.W.codeIn K cd4 "total_of_first" = true) (k4 : PySem.W.keepIn K (.ref f4) = true)
    (z_all : PySem.W.nsIn K mainGlobals "all" = some none)
    (z_enumerate : PySem.W.nsIn K mainGlobals "enumerate" = some none)
    (z_len : PySem.W.nsIn K mainGlobals "len" = some none)
    (z_min : PySem.W.nsIn K mainGlobals "min" = some none)
    (z_sorted : PySem.W.nsIn K mainGlobals "sorted" = some none)
    (z_sum : PySem.W.nsIn K mainGlobals "sum" = some none)
    (z_zip : PySem.W.nsIn K mainGlobals "zip" = some none)
    {t_MOST_COMPONENTS : Tok} (c_MOST_COMPONENTS : PySem.W.nsIn K mainGlobals "MOST_COMPONENTS" = some (some (.int 4 t_MOST_COMPONENTS)))
    {q_MOST_OF_COMPONENT : Addr} {t_MOST_OF_COMPONENT0 t_MOST_OF_COMPONENT1 t_MOST_OF_COMPONENT2 : Tok} {o_MOST_OF_COMPONENT : Option Addr} {y_MOST_OF_COMPONENT : Nat} {w_MOST_OF_COMPONENT : Array (Option Value)}
    (c_MOST_OF_COMPONENT : PySem.W.nsIn K mainGlobals "MOST_OF_COMPONENT" = some (some (.ref q_MOST_OF_COMPONENT))) (l_MOST_OF_COMPONENT : K.lookup q_MOST_OF_COMPONENT = some ⟨.type "tuple", o_MOST_OF_COMPONENT, .seq #[.int 50 t_MOST_OF_COMPONENT0, .int 99 t_MOST_OF_COMPONENT1, .int 99 t_MOST_OF_COMPONENT2] y_MOST_OF_COMPONENT, w_MOST_OF_COMPONENT⟩)
    {t_MOST_QUANTITY : Tok} (c_MOST_QUANTITY : PySem.W.nsIn K mainGlobals "MOST_QUANTITY" = some (some (.int 99 t_MOST_QUANTITY)))
    {t_NOT_FEASIBLE : Tok} (c_NOT_FEASIBLE : PySem.W.nsIn K mainGlobals "NOT_FEASIBLE" = some (some (.int 33 t_NOT_FEASIBLE)))
    {t_OUTSIDE_LIMITS : Tok} (c_OUTSIDE_LIMITS : PySem.W.nsIn K mainGlobals "OUTSIDE_LIMITS" = some (some (.int 22 t_OUTSIDE_LIMITS)))
    : ∃ fd : FuncData, (∀ (s : Shared) (us : List Value), us.length = (["quantity", "components"] : List Str).length → BindsTo s fd ⟨us, []⟩ ((["quantity", "components"] : List Str).zip us)) ∧ ∀ base : Heap, K.In base → base.Ns mainGlobals mg → FnOk P w K mg base CX0 3 fa fd ["quantity", "components"] (sp_property_range K) := by
  have e := hfa.symm.trans (PySem.W.mg_of X G a0)
  cases e
  have F0 := fun_mk (st := s_property_range) l0 c0 k0
  have b0 := F0.binds (ps := ["quantity", "components"]) fun _ _ _ _ _ _ us hl => match us, hl with | [_, _], _ => rfl
  have F1 := fun_mk (st := s_components_within_limits) l1 c1 k1
  have b1 := F1.binds (ps := ["components"]) fun _ _ _ _ _ _ us hl => match us, hl with | [_], _ => rfl
  have F2 := fun_mk (st := s_within) l2 c2 k2
  have b2 := F2.binds (ps := ["number", "most"]) fun _ _ _ _ _ _ us hl => match us, hl with | [_, _], _ => rfl
  have F3 := fun_mk (st := s_extreme_totals) l3 c3 k3
  have b3 := F3.binds (ps := ["quantity", "components"]) fun _ _ _ _ _ _ us hl => match us, hl with | [_, _], _ => rfl
  have F4 := fun_mk (st := s_total_of_first) l4 c4 k4
  have b4 := F4.binds (ps := ["quantity", "parts"]) fun _ _ _ _ _ _ us hl => match us, hl with | [_, _], _ => rfl
  exact ⟨_, fun s us hu => match us, hu with | [_, _], _ => .of_eq rfl, fun base _ _ => ok_property_range (⟨_, _, F0, b0, PySem.W.mg_of X G a0, _, _, F1, b1, PySem.W.mg_of X G a1, _, _, F2, b2, PySem.W.mg_of X G a2, _, _, F3, b3, PySem.W.mg_of X G a3, _, _, F4, b4, PySem.W.mg_of X G a4, PySem.W.mg_none_of X G z_all, PySem.W.mg_none_of X G z_enumerate, PySem.W.mg_none_of X G z_len, PySem.W.mg_none_of X G z_min, PySem.W.mg_none_of X G z_sorted, PySem.W.mg_none_of X G z_sum, PySem.W.mg_none_of X G z_zip, _, PySem.W.mg_of X G c_MOST_COMPONENTS, _, PySem.W.mg_of X G c_MOST_OF_COMPONENT, fun H => .inr ⟨_, _, _, l_MOST_OF_COMPONENT, rfl, rfl, (by show 3 ≤ sizeLine; decide), (.cons ⟨_, rfl⟩ (.cons ⟨_, rfl⟩ (.cons ⟨_, rfl⟩ .nil)))⟩, _, PySem.W.mg_of X G c_MOST_QUANTITY, _, PySem.W.mg_of X G c_NOT_FEASIBLE, _, PySem.W.mg_of X G c_OUTSIDE_LIMITS⟩ : Txt K mg)⟩
theorem int_dw {K : PySem.W.Frag} {H : Hp} {v : V} {n : Int} (h : Dw K H v (PySem.W.WData.int n)) : v = .int n := by
  cases h
  rfl
theorem list_dw {K : PySem.W.Frag} {H : Hp} {v : V} {ns : List Int} (h : Dw K H v (PySem.W.WData.list (ns.map PySem.W.WData.int))) : ∃ a, v = .ref a ∧ LI K H a ns := by
  cases h with
  | lst hs ha =>
    have e := L2.ints_dw ns _ ha
    subst e
    exact ⟨_, rfl, hs⟩
end MB
open PySem PySem.W PyProof.Rows
set_option maxRecDepth 100000 in
set_option maxHeartbeats 8000000 in
theorem PySem.Challenge.cw_meanblend_s06_property_range_holds : PySem.Challenge.rw_meanblend_s06_property_range.Holds := by
  w_on; k_headS; (case hw => exact ⟨[.int 0, .list []], by decide +kernel, by decide +kernel⟩)
  k_fillS
  refine L2.walk_specK (r := PySem.Challenge.rw_meanblend_s06_property_range) (k := 3) (CX := L2.CX0) (ps := ["quantity", "components"]) (sp := MB.sp_property_range) (by decide +kernel) rfl rfl ⟨rfl, by decide, by decide⟩ (fun w h Y => PySem.W.kIn_of Y) ?F ?S (fun _ _ _ _ z => z)
  case F =>
    intro w mg fa h Y KX G hmg
    refine' MB.all_mk KX G hmg ?a0 ?l0 ?c0 ?k0 ?a1 ?l1 ?c1 ?k1 ?a2 ?l2 ?c2 ?k2 ?a3 ?l3 ?c3 ?k3 ?a4 ?l4 ?c4 ?k4 ?z_all ?z_enumerate ?z_len ?z_min ?z_sorted ?z_sum ?z_zip ?c_MOST_COMPONENTS ?c_MOST_OF_COMPONENT ?l_MOST_OF_COMPONENT ?c_MOST_QUANTITY ?c_NOT_FEASIBLE ?c_OUTSIDE_LIMITS
    (case a0 => k_is)
    (case l0 => k_is)
    (case c0 => k_is)
    (case k0 => k_is)
    (case a1 => k_is)
    (case l1 => k_is)
    (case c1 => k_is)
    (case k1 => k_is)
    (case a2 => k_is)
    (case l2 => k_is)
    (case c2 => k_is)
    (case k2 => k_is)
    (case a3 => k_is)
    (case l3 => k_is)
    (case c3 => k_is)
    (case k3 => k_is)
    (case a4 => k_is)
    (case l4 => k_is)
    (case c4 => k_is)
    (case k4 => k_is)
    (case z_all => k_is)
    (case z_enumerate => k_is)
    (case z_len => k_is)
    (case z_min => k_is)
    (case z_sorted => k_is)
    (case z_sum => k_is)
    (case z_zip => k_is)
    (case c_MOST_COMPONENTS => k_is)
    (case c_MOST_OF_COMPONENT => k_is)
    (case l_MOST_OF_COMPONENT => k_is)
    (case c_MOST_QUANTITY => k_is)
    (case c_NOT_FEASIBLE => k_is)
    (case c_OUTSIDE_LIMITS => k_is)
  case S =>
    intro K H xs a hO hwi hask hx
    obtain ⟨q, ns, u⟩ := a
    cases hx with
    | cons h1 hx =>
      cases hx with
      | cons h2 hx =>
        cases hx
        have e1 := MB.int_dw h1
        obtain ⟨a2, e2, l2⟩ := MB.list_dw (ns := ns) h2
        subst e1 e2
        have hw : (Codec.inInt 0 4294967295 q && ((Codec.inLen 0 15 ns && ns.all (Codec.inInt 0 4294967295)) && true)) = true := hwi
        simp only [Bool.and_eq_true] at hw
        obtain ⟨w1, ⟨w5, w6⟩, _⟩ := hw
        have n5 : ns.length ≤ 15 := (Codec.inNat_iff.mp w5).2
        have p6 : ∀ x ∈ ns, 0 ≤ x := fun x hx => (Codec.inInt_iff.mp (List.all_eq_true.mp w6 x hx)).1
        refine ⟨q, a2, ns, rfl, l2, by omega, fun H' r hr => ?_⟩
        rw [← MB.range_spec (Codec.inInt_iff.mp w1).1 p6] at hr
        exact .lst (L2.SqL.of hr) (L2.dw_ints _)
