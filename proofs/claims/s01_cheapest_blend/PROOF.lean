import PyProof.Rows.All
import Wide.All
import OpenK.AllK
import Wide.FinOn
import PyProof.EqAt
import PyProof.EqKinds
import PyProof.TupleCall
import KE.LtSeq
import Open.SpecLaws
import KE.OsGo
import HandS.Base
import HandS.Call
import HandS.List
import HandS.Comp
import HandS.Iter
import HandS.Words
import HandS.WordsList
import HandS.Walk
import HandS.SortRule
import HandS.SortKw
import HandS.ForMost
import HandS.ForSpec
import HandS.Flow
import PySem.Challenge.RW_meanblend_s01_cheapest_blend
set_option Elab.async false
set_option linter.all false
set_option maxRecDepth 100000
set_option maxHeartbeats 8000000
namespace MB
open Ks595

/-! ### rational numbers of the specification, each over some denominator above 0 -/
theorem make_pos {n : Int} {d : Nat} (h : d ≠ 0) : Rational.make n d = ⟨(mkRat n d).num, (mkRat n d).den⟩ := by
  unfold Rational.make
  rw [if_neg h, ← Rat.normalize_eq_mkRat h, Rat.normalize_eq]
theorem make_eq {a b : Int} {d e : Nat} (hd : d ≠ 0) (he : e ≠ 0) : Rational.make a d = Rational.make b e ↔ a * (e : Int) = b * (d : Int) := by
  rw [make_pos hd, make_pos he, ← Rat.mkRat_eq_iff hd he]
  constructor
  · intro h
    have h1 := congrArg Rational.num h
    have h2 := congrArg Rational.den h
    exact Rat.ext h1 h2
  · intro h
    rw [h]
theorem make_den_pos {n : Int} {d : Nat} (h : d ≠ 0) : (Rational.make n d).den ≠ 0 := by
  rw [make_pos h]
  exact (mkRat n d).den_nz
/-- numerator and denominator of the lowest terms, against the ones given -/
theorem make_cross {n : Int} {d : Nat} (h : d ≠ 0) : (Rational.make n d).num * (d : Int) = n * ((Rational.make n d).den : Int) := by
  have h1 : mkRat (mkRat n d).num (mkRat n d).den = mkRat n d := Rat.mkRat_self _
  have h2 := (Rat.mkRat_eq_iff (mkRat n d).den_nz h).mp h1
  rw [make_pos h]
  exact h2
theorem make_self {n : Int} {d : Nat} (h : d ≠ 0) : Rational.make (Rational.make n d).num (Rational.make n d).den = Rational.make n d := by
  have e := make_cross (n := n) h
  exact (make_eq (make_den_pos h) h).mpr e
theorem make_mul {n : Int} {d k : Nat} (hd : d ≠ 0) (hk : k ≠ 0) : Rational.make (n * k) (d * k) = Rational.make n d := by
  refine (make_eq (Nat.mul_ne_zero hd hk) hd).mpr ?_
  rw [Int.natCast_mul]
  grind
theorem zero_is {d : Nat} (h : d ≠ 0) : Rational.zero = Rational.make 0 d := by
  have e : Rational.make 0 d = Rational.make 0 1 := (make_eq h (by decide)).mpr (by omega)
  rw [e]
  rfl
theorem ofInt_is (v : Int) : Rational.ofInt v = Rational.make v 1 := by
  unfold Rational.ofInt Rational.make
  rw [if_neg (by decide)]
  simp
theorem ofNat_is (v : Nat) : Rational.ofNat v = Rational.make v 1 := ofInt_is v
theorem ofInt_den {v : Int} {d : Nat} (h : d ≠ 0) : Rational.ofInt v = Rational.make (v * d) d := by
  rw [ofInt_is]
  refine (make_eq (by decide) h).mpr ?_
  simp
theorem ofNat_den {v d : Nat} (h : d ≠ 0) : Rational.ofNat v = Rational.make (v * d) d := ofInt_den h
theorem add_make {a b : Int} {d e : Nat} (hd : d ≠ 0) (he : e ≠ 0) : Rational.add (Rational.make a d) (Rational.make b e) = Rational.make (a * e + b * d) (d * e) := by
  have h1 := make_cross (n := a) hd
  have h2 := make_cross (n := b) he
  unfold Rational.add
  refine (make_eq (Nat.mul_ne_zero (make_den_pos hd) (make_den_pos he)) (Nat.mul_ne_zero hd he)).mpr ?_
  rw [Int.natCast_mul, Int.natCast_mul]
  generalize (Rational.make a d).num = p at *
  generalize ((Rational.make a d).den : Int) = q at *
  generalize (Rational.make b e).num = r at *
  generalize ((Rational.make b e).den : Int) = s at *
  grind
theorem mul_make {a b : Int} {d e : Nat} (hd : d ≠ 0) (he : e ≠ 0) : Rational.mul (Rational.make a d) (Rational.make b e) = Rational.make (a * b) (d * e) := by
  have h1 := make_cross (n := a) hd
  have h2 := make_cross (n := b) he
  unfold Rational.mul
  refine (make_eq (Nat.mul_ne_zero (make_den_pos hd) (make_den_pos he)) (Nat.mul_ne_zero hd he)).mpr ?_
  rw [Int.natCast_mul, Int.natCast_mul]
  generalize (Rational.make a d).num = p at *
  generalize ((Rational.make a d).den : Int) = q at *
  generalize (Rational.make b e).num = r at *
  generalize ((Rational.make b e).den : Int) = s at *
  grind
theorem neg_make {a : Int} {d : Nat} (hd : d ≠ 0) : Rational.neg (Rational.make a d) = Rational.make (-a) d := by
  rw [make_pos hd, make_pos hd]
  unfold Rational.neg
  have e : mkRat (-a) d = - mkRat a d := Rat.neg_mkRat a d ▸ rfl
  rw [e]
  rfl
theorem add_same {a b : Int} {d : Nat} (hd : d ≠ 0) : Rational.add (Rational.make a d) (Rational.make b d) = Rational.make (a + b) d := by
  rw [add_make hd hd]
  refine (make_eq (Nat.mul_ne_zero hd hd) hd).mpr ?_
  rw [Int.natCast_mul]
  grind
theorem sub_same {a b : Int} {d : Nat} (hd : d ≠ 0) : Rational.sub (Rational.make a d) (Rational.make b d) = Rational.make (a - b) d := by
  unfold Rational.sub
  rw [neg_make hd, add_same hd]
  rfl
theorem cross_eq {an q p ad bn s r bd : Int} (h1 : an * q = p * ad) (h2 : bn * s = r * bd) :
    (an * bd) * (q * s) = (p * s) * (ad * bd) ∧ (bn * ad) * (q * s) = (r * q) * (ad * bd) := by
  constructor
  · grind
  · grind
theorem le_cross {a b : Rational} {p r : Int} {q s : Nat} (ha : Rational.make p q = a) (hb : Rational.make r s = b) (hq : q ≠ 0) (hs : s ≠ 0) :
    (a.num * (b.den : Int) ≤ b.num * (a.den : Int)) ↔ (p * (s : Int) ≤ r * (q : Int)) := by
  have h1 := make_cross (n := p) hq
  have h2 := make_cross (n := r) hs
  have h3 := make_den_pos (n := p) hq
  have h4 := make_den_pos (n := r) hs
  rw [ha] at h1 h3
  rw [hb] at h2 h4
  have q0 : (0 : Int) < q := by omega
  have s0 : (0 : Int) < s := by omega
  have a0 : (0 : Int) < a.den := by omega
  have b0 : (0 : Int) < b.den := by omega
  have qs : (0 : Int) < (q : Int) * s := Int.mul_pos q0 s0
  have ab : (0 : Int) < (a.den : Int) * b.den := Int.mul_pos a0 b0
  obtain ⟨c1, c2⟩ := cross_eq h1 h2
  constructor
  · intro h
    have z : (a.num * (b.den : Int)) * ((q : Int) * s) ≤ (b.num * (a.den : Int)) * ((q : Int) * s) := Int.mul_le_mul_of_nonneg_right h (Int.le_of_lt qs)
    have z2 : (p * (s : Int)) * ((a.den : Int) * b.den) ≤ (r * (q : Int)) * ((a.den : Int) * b.den) := by
      rw [← c1, ← c2]
      exact z
    exact Int.le_of_mul_le_mul_right z2 ab
  · intro h
    have z : (p * (s : Int)) * ((a.den : Int) * b.den) ≤ (r * (q : Int)) * ((a.den : Int) * b.den) := Int.mul_le_mul_of_nonneg_right h (Int.le_of_lt ab)
    have z2 : (a.num * (b.den : Int)) * ((q : Int) * s) ≤ (b.num * (a.den : Int)) * ((q : Int) * s) := by
      rw [c1, c2]
      exact z
    exact Int.le_of_mul_le_mul_right z2 qs
theorem le_make {a b : Int} {d e : Nat} (hd : d ≠ 0) (he : e ≠ 0) : Rational.le (Rational.make a d) (Rational.make b e) = decide (a * (e : Int) ≤ b * (d : Int)) := by
  unfold Rational.le
  exact decide_eq_decide.mpr (le_cross rfl rfl hd he)
theorem lt_make {a b : Int} {d e : Nat} (hd : d ≠ 0) (he : e ≠ 0) : Rational.lt (Rational.make a d) (Rational.make b e) = decide (a * (e : Int) < b * (d : Int)) := by
  unfold Rational.lt
  refine decide_eq_decide.mpr ?_
  have h := le_cross (a := Rational.make b e) (b := Rational.make a d) rfl rfl he hd
  omega
theorem le_same {a b : Int} {d : Nat} (hd : d ≠ 0) : Rational.le (Rational.make a d) (Rational.make b d) = decide (a ≤ b) := by
  rw [le_make hd hd]
  have d0 : (0 : Int) < d := by omega
  exact decide_eq_decide.mpr ⟨fun h => Int.le_of_mul_le_mul_right h d0, fun h => Int.mul_le_mul_of_nonneg_right h (Int.le_of_lt d0)⟩
theorem eq_same {a b : Int} {d : Nat} (hd : d ≠ 0) : Rational.make a d = Rational.make b d ↔ a = b := by
  rw [make_eq hd hd]
  have d0 : (d : Int) ≠ 0 := by omega
  exact ⟨fun h => Int.eq_of_mul_eq_mul_right d0 h, fun h => by rw [h]⟩
theorem div_make {a b : Int} {d e : Nat} (hd : d ≠ 0) (he : e ≠ 0) (hb : b ≠ 0) :
    Rational.div (Rational.make a d) (Rational.make b e) = if 0 < b then Rational.make (a * e) (d * b.natAbs) else Rational.make (-(a * e)) (d * b.natAbs) := by
  have h2 := make_cross (n := b) he
  have h3 := make_den_pos (n := b) he
  have hn0 : (Rational.make b e).num ≠ 0 := by
    intro z
    rw [z, Int.zero_mul] at h2
    have : b * ((Rational.make b e).den : Int) ≠ 0 := Int.mul_ne_zero hb (by omega)
    omega
  have e0 : (0 : Int) < e := by omega
  have r0 : (0 : Int) < ((Rational.make b e).den : Int) := by omega
  have sgn : 0 < (Rational.make b e).num ↔ 0 < b := by
    constructor
    · intro z
      have z1 : 0 < (Rational.make b e).num * (e : Int) := Int.mul_pos z e0
      rw [h2] at z1
      exact Int.pos_of_mul_pos_left z1 r0 |> fun h => h
    · intro z
      have z1 : 0 < b * ((Rational.make b e).den : Int) := Int.mul_pos z r0
      rw [← h2] at z1
      exact Int.pos_of_mul_pos_left z1 e0 |> fun h => h
  have hb' : b.natAbs ≠ 0 := by omega
  have hn' : (Rational.make b e).num.natAbs ≠ 0 := by omega
  unfold Rational.div Rational.inverse
  rw [if_neg hn0]
  by_cases hp : 0 < b
  · have hp2 := sgn.mpr hp
    rw [if_neg (by omega), if_pos hp, mul_make hd hn']
    refine (make_eq (Nat.mul_ne_zero hd hn') (Nat.mul_ne_zero hd hb')).mpr ?_
    rw [Int.natCast_mul, Int.natCast_mul]
    have e1 : ((Rational.make b e).num.natAbs : Int) = (Rational.make b e).num := by omega
    have e2 : (b.natAbs : Int) = b := by omega
    rw [e1, e2]
    generalize (Rational.make b e).num = r at *
    generalize ((Rational.make b e).den : Int) = s at *
    grind
  · have hp2 : ¬ 0 < (Rational.make b e).num := fun z => hp (sgn.mp z)
    rw [if_pos (by omega), if_neg hp, mul_make hd hn']
    refine (make_eq (Nat.mul_ne_zero hd hn') (Nat.mul_ne_zero hd hb')).mpr ?_
    rw [Int.natCast_mul, Int.natCast_mul]
    have e1 : ((Rational.make b e).num.natAbs : Int) = -(Rational.make b e).num := by omega
    have e2 : (b.natAbs : Int) = -b := by omega
    rw [e1, e2]
    generalize (Rational.make b e).num = r at *
    generalize ((Rational.make b e).den : Int) = s at *
    grind
end MB

namespace MB
open Ks595

/-! ### blends over a common denominator -/
abbrev toR (d : Nat) (b : List Int) : List Rational := b.map fun x => Rational.make x d
def wsum (xs ys : List Int) : Int := (List.zipWith (fun x y => x * y) xs ys).sum
def within (x m : Int) : Bool := decide (0 ≤ x) && decide (x ≤ m)
def feas (q lo hi den : Int) (av pr b : List Int) : Bool :=
  (List.zipWith (fun x m => within x (den * m)) b av).all id && (decide (b.sum = den * q) && (decide (den * lo * q ≤ wsum b pr) && decide (wsum b pr ≤ den * hi * q)))

theorem foldl_add {d : Nat} (hd : d ≠ 0) : ∀ (l : List Int) (a : Int), (toR d l).foldl Rational.add (Rational.make a d) = Rational.make (a + l.sum) d
  | [], a => by simp
  | x :: r, a => by
    show (toR d r).foldl Rational.add (Rational.add (Rational.make a d) (Rational.make x d)) = _
    rw [add_same hd, foldl_add hd r, List.sum_cons, Int.add_assoc]
theorem sum_toR {d : Nat} (hd : d ≠ 0) (l : List Int) : Rational.sum (toR d l) = Rational.make l.sum d := by
  unfold Rational.sum
  rw [zero_is hd, foldl_add hd, Int.zero_add]
theorem mul_ofNat {x : Int} {d c : Nat} (hd : d ≠ 0) : Rational.mul (Rational.make x d) (Rational.ofNat c) = Rational.make (x * c) d := by
  rw [ofNat_is, mul_make hd (by decide), Nat.mul_one]

def avs (p : Problem) : List Int := p.components.map fun c => (c.amount : Int)
def csts (p : Problem) : List Int := p.components.map fun c => (c.cost : Int)
def prs (p : Problem) : List Int := p.components.map fun c => (c.property : Int)
theorem avs_len (p : Problem) : (avs p).length = p.components.length := List.length_map _
theorem csts_len (p : Problem) : (csts p).length = p.components.length := List.length_map _
theorem prs_len (p : Problem) : (prs p).length = p.components.length := List.length_map _

theorem weigh {p : Problem} {d : Nat} (hd : d ≠ 0) {b : List Int} (hb : b.length = p.components.length) (f : Component → Nat) :
    Rational.sum ((List.range p.components.length).map fun i => (toR d b).getD i Rational.zero * Rational.ofNat (f (componentAt p i))) = Rational.make (wsum b (p.components.map fun c => (f c : Int))) d := by
  have e : ((List.range p.components.length).map fun i => (toR d b).getD i Rational.zero * Rational.ofNat (f (componentAt p i))) = toR d (List.zipWith (fun x y => x * y) b (p.components.map fun c => (f c : Int))) := by
    refine List.ext_getElem (by simp [hb]) fun i h1 h2 => ?_
    have hi : i < p.components.length := by simpa using h1
    have hi2 : i < b.length := by omega
    simp only [List.getElem_map, List.getElem_range, List.getElem_zipWith]
    have g1 : (toR d b).getD i Rational.zero = Rational.make b[i] d := by
      rw [List.getD_eq_getElem?_getD, List.getElem?_map, List.getElem?_eq_getElem hi2]
      rfl
    have g2 : componentAt p i = p.components[i] := by
      unfold componentAt
      rw [List.getD_eq_getElem?_getD, List.getElem?_eq_getElem hi]
      rfl
    rw [g1, g2]
    exact mul_ofNat hd
  rw [e, sum_toR hd]
  rfl
theorem cost_toR {p : Problem} {d : Nat} (hd : d ≠ 0) {b : List Int} (hb : b.length = p.components.length) : costOf p (toR d b) = Rational.make (wsum b (csts p)) d := weigh hd hb Component.cost
theorem prop_toR {p : Problem} {d : Nat} (hd : d ≠ 0) {b : List Int} (hb : b.length = p.components.length) : propertyTotal p (toR d b) = Rational.make (wsum b (prs p)) d := weigh hd hb Component.property

theorem beq_iff (a b : Rational) : (a == b) = decide (a = b) := by
  by_cases h : a = b
  · rw [decide_eq_true h, h]
    exact beq_self_eq_true b
  · rw [decide_eq_false h]
    exact beq_eq_false_iff_ne.mpr h
theorem all_range {α β : Type} {n : Nat} {f : Nat → Bool} {g : α → β → Bool} {xs : List α} {ys : List β} (hx : xs.length = n) (hy : ys.length = n) (h : ∀ i (h1 : i < xs.length) (h2 : i < ys.length), f i = g xs[i] ys[i]) :
    (List.range n).all f = (List.zipWith g xs ys).all id := by
  have e : (List.range n).map f = List.zipWith g xs ys := by
    refine List.ext_getElem (by simp [hx, hy]) fun i h1 h2 => ?_
    simp only [List.getElem_map, List.getElem_range, List.getElem_zipWith]
    have hi : i < n := by simpa using h1
    exact h i (by omega) (by omega)
  rw [← e, List.all_map]
  rfl
theorem le_ofNat {x : Int} {d c : Nat} (hd : d ≠ 0) : Rational.le (Rational.make x d) (Rational.ofNat c) = decide (x ≤ d * c) := by
  rw [ofNat_den hd, le_same hd, Int.mul_comm]
theorem ofNat_le {x : Int} {d c : Nat} (hd : d ≠ 0) : Rational.le (Rational.ofNat c) (Rational.make x d) = decide ((d * c : Int) ≤ x) := by
  rw [ofNat_den hd, le_same hd, Int.mul_comm]
theorem feas_toR {p : Problem} {d : Nat} (hd : d ≠ 0) {b : List Int} (hb : b.length = p.components.length) :
    isFeasible p (toR d b) = feas p.quantity p.low p.high d (avs p) (prs p) b := by
  unfold isFeasible
  rw [show ((toR d b).length == p.components.length) = true by simp [hb], prop_toR hd hb, sum_toR hd, ofNat_le hd, le_ofNat hd]
  rw [all_range (xs := b) (ys := avs p) (g := fun x m => within x ((d : Int) * m)) hb (avs_len p)]
  · unfold feas
    rw [Bool.true_and, Bool.and_assoc, Bool.and_assoc]
    congr 1
    congr 1
    · rw [beq_iff, ofNat_den hd]
      refine decide_eq_decide.mpr ?_
      rw [eq_same hd, Int.mul_comm]
    · congr 1
      · refine decide_eq_decide.mpr ?_
        rw [Int.natCast_mul, Int.mul_assoc]
      · refine decide_eq_decide.mpr ?_
        rw [Int.natCast_mul, Int.mul_assoc]
  · intro i h1 h2
    have g1 : (toR d b).getD i Rational.zero = Rational.make b[i] d := by
      rw [List.getD_eq_getElem?_getD, List.getElem?_map, List.getElem?_eq_getElem h1]
      rfl
    have hi : i < p.components.length := by omega
    have g2 : componentAt p i = p.components[i] := by
      unfold componentAt
      rw [List.getD_eq_getElem?_getD, List.getElem?_eq_getElem hi]
      rfl
    have g3 : (avs p)[i] = (p.components[i].amount : Int) := List.getElem_map _
    rw [g1, g2, g3, zero_is hd, le_same hd, le_ofNat hd]
    rfl
end MB

namespace MB
open PySem PySem.Spec PyProof.Rows L2
/-! ### two rules of my own: a slice with a step; the order of two lists of whole numbers -/
def pickV (xs : List V) (lo hi st : Option Int) : List V :=
  (sliceRange (sliceBounds lo hi st xs.length).1 (sliceBounds lo hi st xs.length).2.1 (sliceBounds lo hi st xs.length).2.2).filterMap (xs[·]?)
theorem vals_places : ∀ {xs : List V} {us : List Value}, Vals xs us → ∀ js : List Nat, Vals (js.filterMap (xs[·]?)) (js.filterMap (us[·]?))
  | _, _, _, [] => .nil
  | xs, us, h, j :: js => by
    have ih := vals_places h js
    cases hn : xs[j]? with
    | some n =>
      obtain ⟨u, hv, r⟩ := h.get hn
      simp only [List.filterMap_cons, hn, hv]
      exact .cons r ih
    | none =>
      have hv := h.none_of hn
      simp only [List.filterMap_cons, hn, hv]
      exact ih
def pickU (us : List Value) (lo hi st : Option Int) : List Value :=
  (sliceRange (sliceBounds lo hi st us.length).1 (sliceBounds lo hi st us.length).2.1 (sliceBounds lo hi st us.length).2.2).filterMap (us[·]?)
theorem pick_eq (us : List Value) (lo hi st : Option Int) : slicePick us.toArray lo hi st = (pickU us lo hi st).toArray := by
  simp [slicePick, pickU]
theorem vals_pick {xs : List V} {us : List Value} (h : Vals xs us) (lo hi st : Option Int) : Vals (pickV xs lo hi st) (pickU us lo hi st) := by
  unfold pickV pickU
  rw [h.length]
  exact vals_places h _
def tSl3 (K : PySem.W.Frag) (te : TE) (tl th ts : TO) : TE := fun σ H Q => te σ H fun x H1 => tl σ H1 fun l H2 => th σ H2 fun u H3 => ts σ H3 fun k H4 =>
  ∃ a xs, x = .ref a ∧ SqL K H4 a xs ∧ k ≠ some 0 ∧ ∀ p, H4 p = none → Q (.ref p) (upd H4 p (.lst (pickV xs l u k)))
section
variable {X : Cx}
theorem pe_slice3 {e : Expr} {lo hi : Option Expr} {st : Expr} {te : TE} {tl th ts : TO} {p2 pos : Pos} (he : PE X e te) (hl : PO X lo tl) (hh : PO X hi th) (hs : PO X (some st) ts) :
    PE X (.Subscript e (.Slice lo hi (some st) p2) pos) (tSl3 X.K te tl th ts) := by
  refine ⟨fun pins s σ H Q I h => ?_⟩
  refine Subscript_ (thn (he.run pins s σ H _ I h) fun v s1 ⟨x, H1, I1, r1, q1⟩ => ?_)
  refine wpAny_Slice (thn (hl.run pins s1 σ H1 _ I1 q1) fun vl s2 ⟨l, H2, I2, pl, q2⟩ => thn (hh.run pins s2 σ H2 _ I2 q2) fun vu s3 ⟨u, H3, I3, pu, q3⟩ => thn (hs.run pins s3 σ H3 _ I3 q3) fun vk s4 ⟨k, H4, I4, pk, q4⟩ => ?_)
  obtain ⟨a, xs, rfl, hx, hk, q⟩ := q4
  cases r1
  have I5 : Inv X pins σ H4 { s4 with heap := s4.heap.push { cls := .type "slice", data := .fields #[vl, vu, vk] } } := I4.kept (t' := s4.toks) fun b ob q => Heap.get?_push_of_some _ q
  obtain ⟨its, r, ht, hz⟩ := I5.list hx
  have hlen := r.length
  show wpAny (model X.prog X.w) X.A (subscriptTail e (.Slice lo hi (some st) p2) (.ref a) (.ref s4.heap.objs.size)) (EP X pins σ Q) X.xe { s4 with heap := s4.heap.push { cls := .type "slice", data := .fields #[vl, vu, vk] } }
  refine tail_any (ops := [.ref a, .ref s4.heap.objs.size]) ht.isList.typeIs (PySem.slot_list_getitem.lookup) ?_ (by with_unfolding_all rfl)
  refine wpAny_getItem_list_slice ht.isList (Heap.IsSliceOf.new _ vl vu vk) pl pu pk hk ?_ (by rw [List.size_toArray]; omega)
  have rr := vals_pick r l u k
  have hle := slicePick_size_le its.toArray l u k
  rw [pick_eq] at hle ⊢
  refine ⟨.ref _, _, I5.laid (t' := s4.toks) (o := .lst (pickV xs l u k)) (fun b ob q => Heap.get?_push_of_some _ q) (Nat.le_refl _) ?_, rfl, q _ (I5.hok.fresh (Nat.le_refl _))⟩
  refine ⟨?_, _, 0, rr, Heap.get?_push_size _ rfl⟩
  have e := rr.length
  rw [List.size_toArray, List.size_toArray] at hle
  omega
def firstLtI (ns ms : List Int) : Bool := HT.lexLt ns ms
theorem firstLt_lex : ∀ (ns ms : List Int) (k : Nat) (f g : Nat → Int), (∀ j, j < ns.length → ns.getD j 0 = f (k + j)) → (∀ j, j < ms.length → ms.getD j 0 = g (k + j)) →
    SeqAt.firstLt (fun j => decide (f j = g j)) (fun j => decide (f j < g j)) (decide (ns.length < ms.length)) ((List.range (min ns.length ms.length)).map (k + ·)) = HT.lexLt ns ms
  | [], [], _, _, _, _, _ => rfl
  | [], _ :: _, _, _, _, _, _ => by
    rw [HT.lexLt_nil_cons]
    simp [SeqAt.firstLt]
  | _ :: _, [], _, _, _, _, _ => by
    rw [HT.lexLt_cons_nil]
    simp [SeqAt.firstLt]
  | x :: xs, y :: ys, k, f, g, hf, hg => by
    have fx : x = f k := by
      have := hf 0 (by simp)
      simpa using this
    have gy : y = g k := by
      have := hg 0 (by simp)
      simpa using this
    rw [HT.lexLt_cons]
    have e : (List.range (min (x :: xs).length (y :: ys).length)).map (k + ·) = k :: (List.range (min xs.length ys.length)).map ((k + 1) + ·) := by
      rw [List.length_cons, List.length_cons, Nat.add_min_add_right, List.range_succ_eq_map, List.map_cons, List.map_map]
      congr 1
      refine List.map_congr_left fun j _ => ?_
      show k + (j + 1) = k + 1 + j
      omega
    rw [e]
    have ih := firstLt_lex xs ys (k + 1) f g (fun j hj => by
      have := hf (j + 1) (by simpa using hj)
      rw [show k + 1 + j = k + (j + 1) by omega]
      simpa using this) (fun j hj => by
      have := hg (j + 1) (by simpa using hj)
      rw [show k + 1 + j = k + (j + 1) by omega]
      simpa using this)
    have hl : decide ((x :: xs).length < (y :: ys).length) = decide (xs.length < ys.length) := decide_eq_decide.mpr (by simp)
    rw [hl]
    by_cases c : x = y
    · rw [if_pos c, SeqAt.firstLt_yes (decide_eq_true (by rw [← fx, ← gy]; exact c))]
      exact ih
    · rw [if_neg c, SeqAt.firstLt_no (decide_eq_false (by rw [← fx, ← gy]; exact c)), ← fx, ← gy]
def rLtL (K : PySem.W.Frag) : R2 := fun x y H Q => ∃ a b ns ms, x = .ref a ∧ y = .ref b ∧ SqL K H a (ns.map V.int) ∧ SqL K H b (ms.map V.int) ∧ Q (.bl (HT.lexLt ns ms)) H
theorem op_ltL (hu : X.A.units < cLine) : OpR X (compareOp .Lt) (rLtL X.K) := by
  intro pins s σ H x y v u Q I rx ry h
  obtain ⟨a, b, ns, ms, rfl, rfl, ha, hb, q⟩ := h
  cases rx
  cases ry
  obtain ⟨its, r1, p1, _⟩ := I.list ha
  obtain ⟨its2, r2, p2, _⟩ := I.list hb
  have i1 : IntsAre its ns := intsAre_of r1
  have i2 : IntsAre its2 ms := intsAre_of r2
  have e1 : its.toArray.size = ns.length := by rw [List.size_toArray]; exact i1.length
  have e2 : its2.toArray.size = ms.length := by rw [List.size_toArray]; exact i2.length
  have at1 : ∀ j (h1 : j < its.toArray.size), ∃ t, its.toArray[j] = .int (ns.getD j 0) t := fun j h1 => PyProof.Rows.IntsAre.int_at i1 _ _ (by simp at h1; simp [h1])
  have at2 : ∀ j (h1 : j < its2.toArray.size), ∃ t, its2.toArray[j] = .int (ms.getD j 0) t := fun j h1 => PyProof.Rows.IntsAre.int_at i2 _ _ (by simp at h1; simp [h1])
  have R := SeqAt.RcLt.lists (A := X.A) (s := s) (e := fun j => decide (ns.getD j 0 = ms.getD j 0)) (r := fun j => decide (ns.getD j 0 < ms.getD j 0)) p1.isList p2.isList hu (fun j h1 h2 => by
    obtain ⟨t, et⟩ := at1 j h1
    obtain ⟨t', et'⟩ := at2 j h2
    rw [et, et']
    have z : (ns.getD j 0 == ms.getD j 0) = decide (ns.getD j 0 = ms.getD j 0) := by
      by_cases q : ns.getD j 0 = ms.getD j 0
      · rw [decide_eq_true q]; exact beq_iff_eq.mpr q
      · rw [decide_eq_false q]; exact beq_eq_false_iff_ne.mpr q
    rw [← z]
    exact SeqAt.EqAt.int_int _ _ _ _) (fun j h1 h2 _ => by
    obtain ⟨t, et⟩ := at1 j h1
    obtain ⟨t', et'⟩ := at2 j h2
    rw [et, et']
    exact fun _ _ _ _ h => PyProof.Rows.lt_int h)
  have e := firstLt_lex ns ms 0 (fun j => ns.getD j 0) (fun j => ms.getD j 0) (fun j _ => by rw [Nat.zero_add]) (fun j _ => by rw [Nat.zero_add])
  have e3 : (List.range (min ns.length ms.length)).map (0 + ·) = List.range (min ns.length ms.length) := by
    conv => rhs; rw [← List.map_id (List.range _)]
    exact List.map_congr_left fun j _ => Nat.zero_add j
  rw [e3] at e
  rw [e1, e2, e] at R
  exact R _ _ _ _ ⟨.bl (HT.lexLt ns ms), H, I, rfl, q⟩
end
end MB

namespace MB
open PySem PySem.Spec PyProof.Rows L2
/-! ### heaps and lists of whole numbers -/
theorem same_upd {H : Hp} {p : Addr} {o : HO} (h : H p = none) : Same H (upd H p o) := fun b x e => by
  rw [upd_ne (ne_of_none e h)]
  exact e
/-- all but p stands -/
def SameBut (p : Addr) (H H' : Hp) : Prop := ∀ b o, b ≠ p → H b = some o → H' b = some o
theorem SameBut.upd {H : Hp} {p : Addr} {o : HO} : SameBut p H (upd H p o) := fun b x n e => by
  rw [upd_ne n]
  exact e
theorem same_but {p : Addr} {H H' : Hp} (h : Same H H') : SameBut p H H' := fun b o _ e => h b o e
theorem SameBut.trans {p : Addr} {H H1 H2 : Hp} (a : SameBut p H H1) (b : SameBut p H1 H2) : SameBut p H H2 := fun c o n e => b c o n (a c o n e)
theorem SameBut.same {p : Addr} {H H' : Hp} (h : SameBut p H H') (n : H p = none) : Same H H' := fun b o e => h b o (ne_of_none e n) e
/-- a list of whole numbers that may be read -/
abbrev LI (K : PySem.W.Frag) (H : Hp) (p : Addr) (ns : List Int) : Prop := SqL K H p (ns.map V.int)
theorem li_of {K : PySem.W.Frag} {H : Hp} {p : Addr} {ns : List Int} (h : H p = some (.lst (ns.map V.int))) : LI K H p ns := .inl (.inl h)
theorem line_of {n : Nat} (h : n ≤ 100000) : n < sizeLine := Nat.lt_of_le_of_lt h (by decide)
theorem line_le {n : Nat} (h : n ≤ 100000) : n ≤ sizeLine := Nat.le_of_lt (line_of h)
theorem map_at {ns : List Int} {i : Nat} {x : V} (h : (ns.map V.int)[i]? = some x) : ∃ n, ns[i]? = some n ∧ x = .int n := by
  rw [List.getElem?_map] at h
  cases q : ns[i]? with
  | none => rw [q] at h; cases h
  | some n => rw [q] at h; exact ⟨n, rfl, (Option.some.inj h).symm⟩
theorem take_more {α : Type} {l : List α} {i : Nat} {x : α} (h : l[i]? = some x) : l.take (i + 1) = l.take i ++ [x] := by
  rw [List.take_add_one, h]
  rfl
theorem if_true_of {c : Bool} {A B : Prop} (hc : c = true) (h : A) : if c = true then A else B := by
  rw [if_pos hc]
  exact h
theorem if_false_of {c : Bool} {A B : Prop} (hc : c = false) (h : B) : if c = true then A else B := by
  rw [hc, if_neg Bool.false_ne_true]
  exact h
/-! ### comprehensions without a test -/
section
variable {J : It} {n : Nat} {G : Hp → Prop} {Y : Nat → Hp → V → Hp → Prop}
theorem lc_rel (w : Walk J n G Y) {g : TG} {te : TE} {vs : List Nat} {σ : L2.St} {H1 : Hp} {D : Addr} {Qd : Hp → Prop} (hD : H1 D = none) (hn : n ≤ 100000) (hG : ∀ H, Same H1 H → G H) (Rel : Nat → V → Hp → Prop)
    (hm : ∀ i y H H', SameBut D H H' → Rel i y H → Rel i y H')
    (hs : ∀ i x H H' (R : V → Hp → Prop) (Z : Hp → Prop), i < n → Same H1 H → (∃ acc, H D = some (.lst acc)) → Y i H x H' → (∀ y H4, Same H H4 → Rel i y H4 → R y H4) →
      g x (wipe σ vs) H' fun σ2 H2 => wipe σ2 vs = wipe σ vs ∧ if true = true then te σ2 H2 R else Z H2)
    (hd : ∀ H ys, Same H1 H → H D = some (.lst ys) → ys.length = n → (∀ i y, ys[i]? = some y → Rel i y H) → Qd H) :
    ∃ W : Nat → Nat → Hp → Prop, (∃ m, W 0 m (upd H1 D (.lst []))) ∧ ∀ i m H, W i m H →
      (J.stop i H ∧ Qd H) ∨ (J.go i H ∧ ∃ Nx : Hp → Prop, (∀ H', Nx H' → ∃ m', m' < m ∧ W (i + 1) m' H') ∧ ∀ x H', J.yld i H x H' → g x (wipe σ vs) H' fun σ2 H2 => wipe σ2 vs = wipe σ vs ∧ tYes σ2 H2 fun b H3 =>
        if b = true then te σ2 H3 fun y H4 => ∃ acc, H4 D = some (.lst acc) ∧ acc.length < sizeLine ∧ Nx (upd H4 D (.lst (acc ++ [y]))) else Nx H3) := by
  refine lc_it w (tt := tYes) (te := te) (fun i H => i ≤ n ∧ Same H1 H ∧ ∃ ys, H D = some (.lst ys) ∧ ys.length = i ∧ ∀ j y, ys[j]? = some y → Rel j y H) ?_ ?_ ?_ ?_
  · exact ⟨Nat.zero_le _, same_upd hD, [], upd_same, rfl, fun j y e => by simp at e⟩
  · intro i H _ p
    exact hG H p.2.1
  · intro i x H H' hi p y
    obtain ⟨_, sm, ys, hys, hl, hr⟩ := p
    refine hs i x H H' _ (fun H => i + 1 ≤ n ∧ Same H1 H ∧ ∃ ys, H D = some (.lst ys) ∧ ys.length = i + 1 ∧ ∀ j y, ys[j]? = some y → Rel j y H) hi sm ⟨ys, hys⟩ y ?_
    intro z H4 s4 rz
    refine ⟨ys, s4 _ _ hys, line_of (by omega), hi, ?_, ys ++ [z], upd_same, by simp [hl], ?_⟩
    · exact SameBut.same (SameBut.trans (same_but (Same.trans sm s4)) SameBut.upd) hD
    · intro j y' e
      by_cases hj : j < ys.length
      · rw [List.getElem?_append_left hj] at e
        exact hm j y' H _ (SameBut.trans (same_but s4) SameBut.upd) (hr j y' e)
      · have hj2 : j = i := by
          have h1 : j < (ys ++ [z]).length := (List.getElem?_eq_some_iff.mp e).1
          rw [List.length_append, List.length_singleton] at h1
          omega
        subst hj2
        rw [List.getElem?_append_right (by omega), hl, Nat.sub_self] at e
        have e2 : z = y' := Option.some.inj e
        subst e2
        exact hm _ _ H4 _ SameBut.upd rz
  · intro H p
    obtain ⟨_, sm, ys, hys, hl, hr⟩ := p
    exact hd H ys sm hys hl hr
theorem lc_map (w : Walk J n G Y) {g : TG} {te : TE} {vs : List Nat} {σ : L2.St} {H1 : Hp} {D : Addr} {Qd : Hp → Prop} (hD : H1 D = none) (hn : n ≤ 100000) (hG : ∀ H, Same H1 H → G H) (out : List V) (ho : out.length = n)
    (hs : ∀ i x H H' (z : V) (R : V → Hp → Prop) (Z : Hp → Prop), out[i]? = some z → Same H1 H → Y i H x H' → (∀ H4, Same H H4 → R z H4) →
      g x (wipe σ vs) H' fun σ2 H2 => wipe σ2 vs = wipe σ vs ∧ if true = true then te σ2 H2 R else Z H2)
    (hd : ∀ H, Same H1 H → H D = some (.lst out) → Qd H) :
    ∃ W : Nat → Nat → Hp → Prop, (∃ m, W 0 m (upd H1 D (.lst []))) ∧ ∀ i m H, W i m H →
      (J.stop i H ∧ Qd H) ∨ (J.go i H ∧ ∃ Nx : Hp → Prop, (∀ H', Nx H' → ∃ m', m' < m ∧ W (i + 1) m' H') ∧ ∀ x H', J.yld i H x H' → g x (wipe σ vs) H' fun σ2 H2 => wipe σ2 vs = wipe σ vs ∧ tYes σ2 H2 fun b H3 =>
        if b = true then te σ2 H3 fun y H4 => ∃ acc, H4 D = some (.lst acc) ∧ acc.length < sizeLine ∧ Nx (upd H4 D (.lst (acc ++ [y]))) else Nx H3) := by
  refine lc_rel w hD hn hG (fun i y _ => out[i]? = some y) (fun _ _ _ _ _ h => h) ?_ ?_
  · intro i x H H' R Z hi sm _ y hR
    have e : out[i]? = some out[i] := List.getElem?_eq_getElem (by omega)
    exact hs i x H H' _ R Z e sm y (fun H4 s4 => hR _ H4 s4 e)
  · intro H ys sm hys hl hr
    have e : ys = out := by
      refine List.ext_getElem (by omega) fun i h1 h2 => ?_
      have := hr i _ (List.getElem?_eq_getElem h1)
      rw [List.getElem?_eq_getElem h2] at this
      exact (Option.some.inj this).symm
    subst e
    exact hd H sm hys
end
end MB

namespace MB
open PySem PySem.Spec PyProof.Rows L2
/-! ### two more rules of my own: a chain of three comparisons; sorted(xs, reverse=True) of pairs -/
def tChain3 (r1 r2 r3 : R2) (ta tb tc td : TE) : TE := fun σ H Q => ta σ H fun x Ha => tb σ Ha fun y Hb => r1 x y Hb fun v Hc => ∃ k, v = .bl k ∧
  (if k = true then (tc σ Hc fun z Hd => r2 y z Hd fun v2 He => ∃ k2, v2 = .bl k2 ∧ (if k2 = true then (td σ He fun u Hf => r3 z u Hf Q) else Q (.bl false) He)) else Q (.bl false) Hc)
section
variable {X : Cx}
theorem pe_chain3 {a b c d : Expr} {ta tb tc td : TE} {o1 o2 o3 : CmpOp} {r1 r2 r3 : R2} {pos : Pos} (h1 : OpR X (compareOp o1) r1) (h2 : OpR X (compareOp o2) r2) (h3 : OpR X (compareOp o3) r3)
    (ha : PE X a ta) (hb : PE X b tb) (hc : PE X c tc) (hd : PE X d td) (hm : lastMarks [o1, o2, o3] [b, c, d] = false := by with_unfolding_all rfl) :
    PE X (.Compare a [o1, o2, o3] [b, c, d] pos) (tChain3 r1 r2 r3 ta tb tc td) := by
  refine ⟨fun pins s σ H Q I h => Compare_chain (thn (ha.run pins s σ H _ I h) ?_) hm⟩
  rintro va sa ⟨x, Ha, Ia, ra, qa⟩
  refine chain_link (thn (hb.run pins sa σ Ha _ Ia qa) ?_)
  rintro vb sb ⟨y, Hb, Ib, rb, qb⟩
  refine thn (h1 pins sb σ Hb x y va vb _ Ib ra rb qb) ?_
  rintro vt st ⟨v, Hc, Ic, rt, k, rfl, qc⟩
  cases rt
  refine wpAny_truthy_bool ?_
  cases k with
  | false => exact ite_ff ⟨.bl false, Hc, Ic, rfl, qc⟩
  | true =>
    refine ite_tt (chain_link (thn (hc.run pins st σ Hc _ Ic qc) ?_))
    rintro vc sc ⟨z, Hd, Id, rc, qd⟩
    refine thn (h2 pins sc σ Hd y z vb vc _ Id rb rc qd) ?_
    rintro vt2 st2 ⟨v2, He, Ie, rt2, k2, rfl, qe⟩
    cases rt2
    refine wpAny_truthy_bool ?_
    cases k2 with
    | false => exact ite_ff ⟨.bl false, He, Ie, rfl, qe⟩
    | true =>
      refine ite_tt (chain_last (thn (hd.run pins st2 σ He _ Ie qe) ?_))
      rintro vd sd ⟨u, Hf, If, rd, qf⟩
      exact h3 pins sd σ Hf z u vc vd Q If rc rd qf
/-- sorted(xs, reverse=True), xs a list of pairs of whole numbers: a new list, the sorted ones from the last to the first -/
def rSortedBack (K : PySem.W.Frag) : List V → List V → Hp → VK → Prop := fun vs zs H Q => ∃ (a : Addr) (xs : List V) (k : V → Int × Int), vs = [.ref a] ∧ zs = [.bl true] ∧ SqL K H a xs ∧
  (∀ x ∈ xs, ∃ t, x = .ref t ∧ H t = some (.tup [.int (k x).1, .int (k x).2])) ∧
  ∀ ys p, SrtO.Srtd (ltP k) ys → ys.Perm xs → H p = none → Q (.ref p) (upd H p (.lst ys.reverse))
theorem cr_sortedBack : CallRK X (.builtin "sorted") [Str.ofString "reverse"] (rSortedBack X.K) := by
  rintro pins s σ H vs zs us ws Q I rv rz ⟨a, xs, k, rfl, rfl, hs, hx, q⟩
  obtain rfl := Vals.ref1 rv
  obtain ⟨w1, rfl, rw1⟩ := vals1 rz
  obtain rfl : w1 = Value.bool true := rw1
  obtain ⟨its, rits, hl, hz⟩ := I.list hs
  have hrefs : ∀ x ∈ xs, ∃ t, x = V.ref t := fun x m => by
    obtain ⟨t, e, _⟩ := hx x m
    exact ⟨t, e⟩
  obtain ⟨exs, eits⟩ := refs_back rits hrefs
  have hp : ∀ v ∈ its, Srt.IsPair s.heap v (k (backV v)).1 (k (backV v)).2 := by
    intro v hv
    obtain ⟨t, rfl⟩ := eits v hv
    have m : V.ref t ∈ xs := by
      rw [exs]
      exact List.mem_map.mpr ⟨_, hv, rfl⟩
    obtain ⟨t', et, ht⟩ := hx _ m
    cases et
    obtain ⟨_, parts, rp, o, ho, hcl, n, hdt⟩ := I.hok _ _ ht
    obtain ⟨u1, u2, rfl, q1, q2⟩ := vals2 rp
    obtain ⟨t1, rfl⟩ := q1
    obtain ⟨t2, rfl⟩ := q2
    exact ⟨t, o, t1, t2, n, rfl, ho, hcl, hdt⟩
  have hlen : its.length ≤ sizeLine := by
    rw [← rits.length]
    exact hz
  refine SrtR.sorted_ordK (b := true) (ltv := fun u v => SrtO.lexB (k (backV u)) (k (backV v))) (fun _ => rfl) (PyProof.Rows.args_sorted_rev _ _) (fun _ => PyProof.Rows.args_list_sort_rev _ _) (SrtO.swo_lex fun u => k (backV u)) hl.isList hlen ?_ ?_
  · intro l2 h' a' ha' keep
    refine SrtO.pairs_sortableO (s := { s with heap := h' }) (by omega) (fun v m => (hp v m).keeps fun b o e _ => (keep b o e).2) ?_
    intro o e c
    have e2 : some o = some (seqObj "list" its.toArray 0) := e.symm.trans ha'
    cases e2
    exact absurd (Value.type.inj c) (by decide)
  · intro out so st
    have pm : out.Perm its := st.perm.trans (List.reverse_perm _)
    have refs : ∀ u ∈ out.reverse, ∃ b, u = Value.ref b := fun u m => eits u (pm.mem_iff.mp (List.mem_reverse.mp m))
    obtain ⟨ep, hnew⟩ := PyProof.Rows.sortedAll_at s.heap its out.toArray.reverse
    have pm2 : (out.map backV).Perm xs := by
      rw [exs]
      exact pm.map backV
    have l3 : (out.map backV).reverse.length ≤ sizeLine := by
      rw [List.length_reverse, pm2.length_eq]
      exact hz
    have ea : out.reverse.toArray = out.toArray.reverse := Array.ext' (by rw [Array.toList_reverse])
    have er : (out.map backV).reverse = out.reverse.map backV := by rw [List.map_reverse]
    refine ⟨.ref _, upd H (s.heap.objs.size + 1) (.lst (out.map backV).reverse), ?_, rfl, q _ _ (SrtO.srtd_map so) pm2 (I.hok.fresh (Nat.le_succ _))⟩
    refine I.laid (t' := s.toks) (fun _ _ => PyProof.Rows.sortedAll_old) (Nat.le_succ _) ⟨l3, out.reverse, ep, ?_, ?_⟩
    · rw [er]
      exact vals_back refs
    · rw [ea]
      exact hnew
end
end MB

namespace MB
open PySem PySem.Spec PyProof.Rows L2
def topS (i : Nat) : Stmt := PySem.Challenge.pw_meanblend_s01_cheapest_blend.main.body.getD i (.Pass ⟨0, 0, 0, 0⟩)
abbrev s_cheapest_blend : Stmt := topS 7
abbrev N_cheapest_blend : List Str := ["quantity", "low", "high", "components", "best"]
theorem sc_cheapest_blend : FnScope N_cheapest_blend ["quantity", "low", "high", "components"] (defScope s_cheapest_blend) := ⟨rfl, rfl, rfl, by decide +kernel, rfl, by decide +kernel, by decide +kernel⟩
abbrev s_request_within_limits : Stmt := topS 8
abbrev N_request_within_limits : List Str := ["quantity", "low", "high", "components"]
theorem sc_request_within_limits : FnScope N_request_within_limits ["quantity", "low", "high", "components"] (defScope s_request_within_limits) := ⟨rfl, rfl, rfl, by decide +kernel, rfl, by decide +kernel, by decide +kernel⟩
abbrev s_bounds_within_limits : Stmt := topS 9
abbrev N_bounds_within_limits : List Str := ["low", "high"]
theorem sc_bounds_within_limits : FnScope N_bounds_within_limits ["low", "high"] (defScope s_bounds_within_limits) := ⟨rfl, rfl, rfl, by decide +kernel, rfl, by decide +kernel, by decide +kernel⟩
abbrev s_components_within_limits : Stmt := topS 10
abbrev N_components_within_limits : List Str := ["components", "place", "number"]
theorem sc_components_within_limits : FnScope N_components_within_limits ["components"] (defScope s_components_within_limits) := ⟨rfl, rfl, rfl, by decide +kernel, rfl, by decide +kernel, by decide +kernel⟩
abbrev s_within : Stmt := topS 11
abbrev N_within : List Str := ["number", "most"]
theorem sc_within : FnScope N_within ["number", "most"] (defScope s_within) := ⟨rfl, rfl, rfl, by decide +kernel, rfl, by decide +kernel, by decide +kernel⟩
abbrev s_is_feasible : Stmt := topS 12
abbrev N_is_feasible : List Str := ["quantity", "low", "high", "den", "components", "blend", "available", "total", "amount", "most"]
theorem sc_is_feasible : FnScope N_is_feasible ["quantity", "low", "high", "den", "components", "blend"] (defScope s_is_feasible) := ⟨rfl, rfl, rfl, by decide +kernel, rfl, by decide +kernel, by decide +kernel⟩
abbrev s_best_candidate : Stmt := topS 13
abbrev N_best_candidate : List Str := ["quantity", "low", "high", "components", "costs", "best", "den", "blend", "ranked"]
theorem sc_best_candidate : FnScope N_best_candidate ["quantity", "low", "high", "components"] (defScope s_best_candidate) := ⟨rfl, rfl, rfl, by decide +kernel, rfl, by decide +kernel, by decide +kernel⟩
abbrev s_basic_candidates : Stmt := topS 14
abbrev N_basic_candidates : List Str := ["quantity", "low", "high", "components", "properties", "candidates", "corner", "bound"]
theorem sc_basic_candidates : FnScope N_basic_candidates ["quantity", "low", "high", "components"] (defScope s_basic_candidates) := ⟨rfl, rfl, rfl, by decide +kernel, rfl, by decide +kernel, by decide +kernel⟩
abbrev s_corners : Stmt := topS 15
abbrev N_corners : List Str := ["available", "found", "most", "blend"]
theorem sc_corners : FnScope N_corners ["available"] (defScope s_corners) := ⟨rfl, rfl, rfl, by decide +kernel, rfl, by decide +kernel, by decide +kernel⟩
abbrev s_one_made_up : Stmt := topS 16
abbrev N_one_made_up : List Str := ["quantity", "corner", "missing", "candidates", "place", "amount"]
theorem sc_one_made_up : FnScope N_one_made_up ["quantity", "corner"] (defScope s_one_made_up) := ⟨rfl, rfl, rfl, by decide +kernel, rfl, by decide +kernel, by decide +kernel⟩
abbrev s_two_made_up : Stmt := topS 17
abbrev N_two_made_up : List Str := ["quantity", "total", "corner", "properties", "missing", "missing_total", "left_out", "candidates", "first", "second", "den", "blend", "place", "amount"]
theorem sc_two_made_up : FnScope N_two_made_up ["quantity", "total", "corner", "properties"] (defScope s_two_made_up) := ⟨rfl, rfl, rfl, by decide +kernel, rfl, by decide +kernel, by decide +kernel⟩
abbrev s_comes_before : Stmt := topS 18
abbrev N_comes_before : List Str := ["ranked", "other", "number"]
theorem sc_comes_before : FnScope N_comes_before ["ranked", "other"] (defScope s_comes_before) := ⟨rfl, rfl, rfl, by decide +kernel, rfl, by decide +kernel, by decide +kernel⟩
abbrev s_weighted_sum : Stmt := topS 19
abbrev N_weighted_sum : List Str := ["amounts", "weights", "amount", "weight"]
theorem sc_weighted_sum : FnScope N_weighted_sum ["amounts", "weights"] (defScope s_weighted_sum) := ⟨rfl, rfl, rfl, by decide +kernel, rfl, by decide +kernel, by decide +kernel⟩
abbrev s_rational_numbers : Stmt := topS 20
abbrev N_rational_numbers : List Str := ["den", "numbers", "answer", "number", "divisor"]
theorem sc_rational_numbers : FnScope N_rational_numbers ["den", "numbers"] (defScope s_rational_numbers) := ⟨rfl, rfl, rfl, by decide +kernel, rfl, by decide +kernel, by decide +kernel⟩
abbrev s_common_divisor : Stmt := topS 21
abbrev N_common_divisor : List Str := ["first", "second", "rest"]
theorem sc_common_divisor : FnScope N_common_divisor ["first", "second"] (defScope s_common_divisor) := ⟨rfl, rfl, rfl, by decide +kernel, rfl, by decide +kernel, by decide +kernel⟩
structure Txt (K : PySem.W.Frag) (mg : Str → Option Value) : Type where
  a_cheapest_blend : Addr
  d_cheapest_blend : FuncData
  F_cheapest_blend : Fun K "cheapest_blend" "cheapest_blend" s_cheapest_blend a_cheapest_blend d_cheapest_blend
  b_cheapest_blend : Binds K d_cheapest_blend ["quantity", "low", "high", "components"] []
  g_cheapest_blend : mg "cheapest_blend" = some (.ref a_cheapest_blend)
  a_request_within_limits : Addr
  d_request_within_limits : FuncData
  F_request_within_limits : Fun K "request_within_limits" "request_within_limits" s_request_within_limits a_request_within_limits d_request_within_limits
  b_request_within_limits : Binds K d_request_within_limits ["quantity", "low", "high", "components"] []
  g_request_within_limits : mg "request_within_limits" = some (.ref a_request_within_limits)
  a_bounds_within_limits : Addr
  d_bounds_within_limits : FuncData
  F_bounds_within_limits : Fun K "bounds_within_limits" "bounds_within_limits" s_bounds_within_limits a_bounds_within_limits d_bounds_within_limits
  b_bounds_within_limits : Binds K d_bounds_within_limits ["low", "high"] []
  g_bounds_within_limits : mg "bounds_within_limits" = some (.ref a_bounds_within_limits)
  a_components_within_limits : Addr
  d_components_within_limits : FuncData
  F_components_within_limits : Fun K "components_within_limits" "components_within_limits" s_components_within_limits a_components_within_limits d_components_within_limits
  b_components_within_limits : Binds K d_components_within_limits ["components"] []
  g_components_within_limits : mg "components_within_limits" = some (.ref a_components_within_limits)
  a_within : Addr
  d_within : FuncData
  F_within : Fun K "within" "within" s_within a_within d_within
  b_within : Binds K d_within ["number", "most"] []
  g_within : mg "within" = some (.ref a_within)
  a_is_feasible : Addr
  d_is_feasible : FuncData
  F_is_feasible : Fun K "is_feasible" "is_feasible" s_is_feasible a_is_feasible d_is_feasible
  b_is_feasible : Binds K d_is_feasible ["quantity", "low", "high", "den", "components", "blend"] []
  g_is_feasible : mg "is_feasible" = some (.ref a_is_feasible)
  a_best_candidate : Addr
  d_best_candidate : FuncData
  F_best_candidate : Fun K "best_candidate" "best_candidate" s_best_candidate a_best_candidate d_best_candidate
  b_best_candidate : Binds K d_best_candidate ["quantity", "low", "high", "components"] []
  g_best_candidate : mg "best_candidate" = some (.ref a_best_candidate)
  a_basic_candidates : Addr
  d_basic_candidates : FuncData
  F_basic_candidates : Fun K "basic_candidates" "basic_candidates" s_basic_candidates a_basic_candidates d_basic_candidates
  b_basic_candidates : Binds K d_basic_candidates ["quantity", "low", "high", "components"] []
  g_basic_candidates : mg "basic_candidates" = some (.ref a_basic_candidates)
  a_corners : Addr
  d_corners : FuncData
  F_corners : Fun K "corners" "corners" s_corners a_corners d_corners
  b_corners : Binds K d_corners ["available"] []
  g_corners : mg "corners" = some (.ref a_corners)
  a_one_made_up : Addr
  d_one_made_up : FuncData
  F_one_made_up : Fun K "one_made_up" "one_made_up" s_one_made_up a_one_made_up d_one_made_up
  b_one_made_up : Binds K d_one_made_up ["quantity", "corner"] []
  g_one_made_up : mg "one_made_up" = some (.ref a_one_made_up)
  a_two_made_up : Addr
  d_two_made_up : FuncData
  F_two_made_up : Fun K "two_made_up" "two_made_up" s_two_made_up a_two_made_up d_two_made_up
  b_two_made_up : Binds K d_two_made_up ["quantity", "total", "corner", "properties"] []
  g_two_made_up : mg "two_made_up" = some (.ref a_two_made_up)
  a_comes_before : Addr
  d_comes_before : FuncData
  F_comes_before : Fun K "comes_before" "comes_before" s_comes_before a_comes_before d_comes_before
  b_comes_before : Binds K d_comes_before ["ranked", "other"] []
  g_comes_before : mg "comes_before" = some (.ref a_comes_before)
  a_weighted_sum : Addr
  d_weighted_sum : FuncData
  F_weighted_sum : Fun K "weighted_sum" "weighted_sum" s_weighted_sum a_weighted_sum d_weighted_sum
  b_weighted_sum : Binds K d_weighted_sum ["amounts", "weights"] []
  g_weighted_sum : mg "weighted_sum" = some (.ref a_weighted_sum)
  a_rational_numbers : Addr
  d_rational_numbers : FuncData
  F_rational_numbers : Fun K "rational_numbers" "rational_numbers" s_rational_numbers a_rational_numbers d_rational_numbers
  b_rational_numbers : Binds K d_rational_numbers ["den", "numbers"] []
  g_rational_numbers : mg "rational_numbers" = some (.ref a_rational_numbers)
  a_common_divisor : Addr
  d_common_divisor : FuncData
  F_common_divisor : Fun K "common_divisor" "common_divisor" s_common_divisor a_common_divisor d_common_divisor
  b_common_divisor : Binds K d_common_divisor ["first", "second"] []
  g_common_divisor : mg "common_divisor" = some (.ref a_common_divisor)
  z_all : mg "all" = none
  z_enumerate : mg "enumerate" = none
  z_len : mg "len" = none
  z_sum : mg "sum" = none
  z_zip : mg "zip" = none
  t_MOST_BOUND : Tok
  c_MOST_BOUND : mg "MOST_BOUND" = some (.int 99 t_MOST_BOUND)
  t_MOST_COMPONENTS : Tok
  c_MOST_COMPONENTS : mg "MOST_COMPONENTS" = some (.int 4 t_MOST_COMPONENTS)
  q_MOST_OF_COMPONENT : Addr
  c_MOST_OF_COMPONENT : mg "MOST_OF_COMPONENT" = some (.ref q_MOST_OF_COMPONENT)
  v_MOST_OF_COMPONENT : ∀ H : Hp, SqT K H q_MOST_OF_COMPONENT [.int 50, .int 99, .int 99]
  t_MOST_QUANTITY : Tok
  c_MOST_QUANTITY : mg "MOST_QUANTITY" = some (.int 99 t_MOST_QUANTITY)
  t_NOT_FEASIBLE : Tok
  c_NOT_FEASIBLE : mg "NOT_FEASIBLE" = some (.int 33 t_NOT_FEASIBLE)
  t_OUTSIDE_LIMITS : Tok
  c_OUTSIDE_LIMITS : mg "OUTSIDE_LIMITS" = some (.int 22 t_OUTSIDE_LIMITS)
section
variable {P : Program} {w : World} {K : PySem.W.Frag} {mg : Str → Option Value} {base : Heap}
/-! ### within -/
def sp_within (K : PySem.W.Frag) : Sp := fun vs H Q _ => ∃ n m : Int, vs = [.int n, .int m] ∧ Q (.bl (within n m)) H
theorem ok_within (T : Txt K mg) : FnOk P w K mg base CX0 1 T.a_within T.d_within ["number", "most"] (sp_within K) := by
  refine T.F_within.ok sc_within (fun vs H Q E h => ?_) (fun cdv A outer s H vs Q E hr h => ?_)
  · obtain ⟨n, m, rfl, _⟩ := h
    rfl
  · obtain ⟨n, m, rfl, q⟩ := h
    have hu := hu_of hr
    refine ⟨_, (pss_one (ps_ret (pe_chain op_le op_le pe_int (pv 0) (pv 1)))), ?_⟩
    refine ⟨_, rfl, 0, n, rfl, rfl, _, rfl, ite2 (fun h => ?_) (fun h => ?_)⟩
    · refine ⟨_, rfl, n, m, rfl, rfl, ?_⟩
      have e : within n m = decide (n ≤ m) := by
        unfold within
        rw [h, Bool.true_and]
      rw [e] at q
      exact q
    · have e : within n m = false := by
        unfold within
        rw [eq_false_of_ne_true h, Bool.false_and]
      rw [e] at q
      exact q
/-! ### common_divisor -/
def sp_common_divisor (K : PySem.W.Frag) : Sp := fun vs H Q _ => ∃ n m : Nat, vs = [.int n, .int m] ∧ Q (.int (Nat.gcd n m : Nat)) H
theorem ok_common_divisor (T : Txt K mg) : FnOk P w K mg base CX0 1 T.a_common_divisor T.d_common_divisor ["first", "second"] (sp_common_divisor K) := by
  refine T.F_common_divisor.ok sc_common_divisor (fun vs H Q E h => ?_) (fun cdv A outer s H vs Q E hr h => ?_)
  · obtain ⟨n, m, rfl, _⟩ := h
    rfl
  · obtain ⟨n, m, rfl, q⟩ := h
    have hu := hu_of hr
    refine ⟨_, (pss_cons (ps_while PassesOwn.never (pt_cmpR op_ne (pv 1) pe_int (nomark _)) (pss_cons (ps_set (i := 2) sc_common_divisor.nd rfl (Or.inl rfl) (pe_op op_modN (pv 0) (pv 1)))
      (pss_cons (ps_set (i := 0) sc_common_divisor.nd rfl (Or.inl rfl) (pv 1))
      (pss_one (ps_set (i := 1) sc_common_divisor.nd rfl (Or.inl rfl) (pv 2))))))
      (pss_one (ps_ret (pv 0)))), ?_⟩
    refine while_by (fun σ H' => H' = H ∧ ∃ (a b : Nat) (r : Option V), σ = [some (.int a), some (.int b), r] ∧ Nat.gcd a b = Nat.gcd n m)
      (fun (σ : L2.St) (_ : Hp) => match σ[1]? with | some (some (V.int b)) => b.toNat | _ => 0) ⟨rfl, n, m, none, rfl, rfl⟩ ?_ ?_
    · rintro σ H' ⟨rfl, a, b, r, rfl, e⟩
      refine ⟨_, rfl, rfl, _, rfl, ?_⟩
      by_cases hb : b = 0
      · subst hb
        refine iteF ?_
        refine ⟨_, rfl, ?_⟩
        rw [← e, Nat.gcd_zero_right] at q
        exact q
      · have hb2 : (V.int (b : Int) = V.int 0) = False := by
          refine eq_false fun z => hb ?_
          have := V.int.inj z
          omega
        have hb3 : (!decide (V.int (b : Int) = V.int 0)) = true := by
          rw [decide_eq_false (fun z => hb (by have := V.int.inj z; omega))]
          rfl
        rw [hb3]
        refine iteT ?_
        refine ⟨_, rfl, _, rfl, _, _, rfl, rfl, by omega, ?_⟩
        refine ⟨_, rfl, _, rfl, ?_⟩
        have fm : (a : Int).fmod (b : Int) = ((a % b : Nat) : Int) := by
          rw [Int.fmod_eq_emod_of_nonneg _ (by omega)]
          rfl
        refine ⟨⟨rfl, b, a % b, some (.int ((a : Int).fmod b)), ?_, ?_⟩, ?_⟩
        · rw [← fm]
          rfl
        · rw [← e, Nat.gcd_comm b, ← Nat.gcd_rec, Nat.gcd_comm]
        · show ((a : Int).fmod (b : Int)).toNat < ((b : Int)).toNat
          rw [fm]
          have := Nat.mod_lt a (Nat.pos_of_ne_zero hb)
          omega
    · intro σ H' R R' hR h
      obtain ⟨v, hv, h2, k, hk, h3⟩ := h
      exact ⟨v, hv, h2, k, hk, hR _ _ h3⟩
/-! ### whole numbers that are not huge; what stands in lists of them -/
def Bd (n : Int) : Prop := -(2 ^ 64) < n ∧ n < 2 ^ 64
theorem int_at {ns : List Int} {i : Nat} {n : Int} {x : V} (h : ns[i]? = some n) (f : (ns.map V.int)[i]? = some x) : x = .int n := by
  rw [List.getElem?_map, h] at f
  exact (Option.some.inj f).symm
theorem zip_at {xs ys : List Int} {f : Int → Int → Int} {i : Nat} {z : V} (h : ((List.zipWith f xs ys).map V.int)[i]? = some z) :
    ∃ x y, xs[i]? = some x ∧ ys[i]? = some y ∧ z = .int (f x y) := by
  obtain ⟨n, h1, rfl⟩ := map_at h
  rw [List.getElem?_zipWith] at h1
  split at h1
  · rename_i x y e1 e2
    exact ⟨x, y, e1, e2, by rw [← Option.some.inj h1]⟩
  · cases h1
/-! ### rational numbers in lowest terms -/
def ratI (d : Int) (ns : List Int) : List Int := ns.flatMap fun n => [n / (Nat.gcd n.natAbs d.natAbs : Nat), d / (Nat.gcd n.natAbs d.natAbs : Nat)]
theorem ratI_more {d n : Int} {ns : List Int} : ratI d (ns ++ [n]) = ratI d ns ++ [n / (Nat.gcd n.natAbs d.natAbs : Nat), d / (Nat.gcd n.natAbs d.natAbs : Nat)] := by
  unfold ratI
  rw [List.flatMap_append]
  simp
theorem ratI_len (d : Int) : ∀ ns : List Int, (ratI d ns).length = 2 * ns.length
  | [] => rfl
  | n :: r => by
    have ih := ratI_len d r
    unfold ratI at ih ⊢
    rw [List.flatMap_cons, List.length_append, ih, List.length_cons]
    simp
    omega
/-! ### weighted_sum -/
def sp_weighted_sum (K : PySem.W.Frag) : Sp := fun vs H Q _ => ∃ (a b : Addr) (xs ys : List Int), vs = [.ref a, .ref b] ∧ LI K H a xs ∧ LI K H b ys ∧ xs.length ≤ 1000 ∧ (∀ x ∈ xs, Bd x) ∧
  ∀ H', Same H H' → Q (.int (wsum xs ys)) H'
theorem ok_weighted_sum (T : Txt K mg) : FnOk P w K mg base CX0 1 T.a_weighted_sum T.d_weighted_sum ["amounts", "weights"] (sp_weighted_sum K) := by
  refine T.F_weighted_sum.ok sc_weighted_sum (fun vs H Q E h => ?_) (fun cdv A outer s H vs Q E hr h => ?_)
  · obtain ⟨a, b, xs, ys, rfl, _⟩ := h
    rfl
  · obtain ⟨a, b, xs, ys, rfl, ha, hb, hl, hbd, q⟩ := h
    have hu := hu_of hr
    refine ⟨_, (pss_one (ps_ret (pe_callB (cr_sum rfl) (by rfl) T.z_sum (by decide +kernel) (pa_cons (pe_lc (own := [("amount", 2), ("weight", 3)]) (g := (gTup K 2 (gCons (gName 2) (gCons (gName 3) gNil)))) (tt := tYes) rfl sc_weighted_sum.nd (pi_zip (by rfl) T.z_zip (pa_cons (pv 0) (pa_cons (pv 1) pa_nil))) (blkOk_by (own := [("amount", 2), ("weight", 3)]) (N := N_weighted_sum) (sc := defScope s_weighted_sum) (by decide +kernel)) (fun _ _ _ _ _ => (pg_tup rfl (pgs_cons (pg_name (i := 2) sc_weighted_sum.nd rfl (Or.inl rfl)) (pgs_cons (pg_name (i := 3) sc_weighted_sum.nd rfl (Or.inl rfl)) pgs_nil)))) (fun _ _ _ _ _ => pts_nil) (fun _ _ _ _ _ => (pe_op op_mul (pv 2) (pv 3)))) pa_nil)))), ?_⟩
    refine ⟨_, rfl, _, rfl, a, b, _, _, rfl, ha, hb, fun D hD => ?_⟩
    refine lc_map (walk_zip rfl) hD ?_ (fun H1 sm => ⟨Same.seq sm ha, Same.seq sm hb⟩) ((List.zipWith (fun x y => x * y) xs ys).map V.int) (by simp) ?_ ?_
    · rw [List.length_map, List.length_map]
      omega
    · intro i x H1 H2 z R Z hz sm y hR
      obtain ⟨x1, y1, e1, e2, rfl⟩ := zip_at hz
      obtain ⟨t, x2, y2, rfl, nt, rfl, f1, f2⟩ := y
      have g1 : x2 = .int x1 := int_at e1 f1
      have g2 : y2 = .int y1 := int_at e2 f2
      subst g1 g2
      refine ⟨t, _, rfl, .inl (.inl upd_same), rfl, _, _, rfl, _, _, rfl, rfl, rfl, iteT ?_⟩
      refine ⟨_, rfl, _, rfl, _, _, rfl, rfl, .inl (hbd x1 (List.mem_of_getElem? e1)), ?_⟩
      exact hR _ (same_upd nt)
    · intro H1 sm hD1
      refine ⟨D, _, rfl, .inl (.inl hD1), ?_⟩
      exact q H1 sm
/-! ### rational_numbers -/
def sp_rational_numbers (K : PySem.W.Frag) : Sp := fun vs H Q _ => ∃ (d : Int) (a : Addr) (ns : List Int), vs = [.int d, .ref a] ∧ 0 < d ∧ d < 1000000 ∧ LI K H a ns ∧ ns.length ≤ 1000 ∧ (∀ n ∈ ns, 0 ≤ n) ∧
  ∀ H' r, Same H H' → H r = none → H' r = some (.lst ((ratI d ns).map V.int)) → Q (.ref r) H'
theorem ok_rational_numbers (T : Txt K mg) : FnOk P w K mg base CX0 2 T.a_rational_numbers T.d_rational_numbers ["den", "numbers"] (sp_rational_numbers K) := by
  have G_common_divisor : FnOk P w K mg base CX0 1 T.a_common_divisor T.d_common_divisor ["first", "second"] (sp_common_divisor K) := ok_common_divisor T
  refine T.F_rational_numbers.ok sc_rational_numbers (fun vs H Q E h => ?_) (fun cdv A outer s H vs Q E hr h => ?_)
  · obtain ⟨d, a, ns, rfl, _⟩ := h
    rfl
  · obtain ⟨d, a, ns, rfl, hd0, hd1, ha, hl, hpos, q⟩ := h
    have hu := hu_of hr
    refine ⟨_, (pss_cons (ps_set (i := 2) sc_rational_numbers.nd rfl (Or.inl rfl) (pe_lst pa_nil))
      (pss_cons (ps_for PassesOwn.never rfl (pi_list (pv 1)) (pg_name (i := 3) sc_rational_numbers.nd rfl (Or.inl rfl)) (pss_cons (ps_set (i := 4) sc_rational_numbers.nd rfl (Or.inl rfl) (pe_call G_common_divisor (hr.mono (by decide)) rfl T.g_common_divisor T.F_common_divisor.kp T.b_common_divisor .nil pass0 (pa_cons (pv 3) (pa_cons (pv 0) pa_nil))))
      (pss_one (ps_expr (pe_bm PySem.F.plainAttrs_list PySem.F.slot_list_extend PySem.F.type_list_extend mt_extend (pv 2) (pa_cons (pe_lst (pa_cons (pe_op op_fdivN (pv 3) (pv 4)) (pa_cons (pe_op op_fdivN (pv 0) (pv 4)) pa_nil))) pa_nil))))))
      (pss_one (ps_ret (pv 2))))), ?_⟩
    refine ⟨Nat.zero_le _, fun o no => ?_⟩
    refine ⟨_, rfl, a, rfl, ⟨_, Same.seq (same_upd no) ha⟩, ?_⟩
    refine for_it (walk_list (xs := ns.map V.int)) (fun i σ H1 => i ≤ ns.length ∧ Same H H1 ∧ (∃ y3 y4, σ = [some (.int d), some (.ref a), some (.ref o), y3, y4]) ∧ H1 o = some (.lst ((ratI d (ns.take i)).map V.int))) ?_ ?_ ?_ ?_
    · exact ⟨Nat.zero_le _, same_upd no, ⟨none, none, rfl⟩, upd_same⟩
    · intro i σ H1 _ p
      exact Same.seq p.2.1 ha
    · intro i x σ H1 H2 hi p y
      obtain ⟨_, sm, ⟨y3, y4, rfl⟩, ho⟩ := p
      obtain ⟨rfl, e⟩ := y
      obtain ⟨n, e1, rfl⟩ := map_at e
      have n0 : 0 ≤ n := hpos n (List.mem_of_getElem? e1)
      have gpos : 0 < Nat.gcd n.natAbs d.natAbs := Nat.gcd_pos_of_pos_right _ (by omega)
      have gle : Nat.gcd n.natAbs d.natAbs ≤ d.natAbs := Nat.gcd_le_right _ (by omega)
      have en : ((n.natAbs : Nat) : Int) = n := by omega
      have ed : ((d.natAbs : Nat) : Int) = d := by omega
      have f1 : n.fdiv (Nat.gcd n.natAbs d.natAbs : Nat) = n / (Nat.gcd n.natAbs d.natAbs : Nat) := Int.fdiv_eq_ediv_of_nonneg _ (by omega)
      have f2 : d.fdiv (Nat.gcd n.natAbs d.natAbs : Nat) = d / (Nat.gcd n.natAbs d.natAbs : Nat) := Int.fdiv_eq_ediv_of_nonneg _ (by omega)
      refine ⟨_, rfl, _, rfl, n.natAbs, d.natAbs, ?_, ?_⟩
      · rw [en, ed]
        rfl
      refine ⟨_, rfl, .inl ⟨rfl, _, .inl (.inl ho)⟩, ?_⟩
      have hb : (((Nat.gcd n.natAbs d.natAbs : Nat) : Int) ≠ 0) ∧ ((Nat.gcd n.natAbs d.natAbs : Nat) : Int).natAbs < 1073741824 := by omega
      refine ⟨_, rfl, _, rfl, _, _, rfl, rfl, hb, _, rfl, _, rfl, _, _, rfl, rfl, hb, (by show 2 ≤ sizeLine; decide), fun l nl => ?_⟩
      have lo : l ≠ o := fun z => by
        rw [z, ho] at nl
        cases nl
      refine ⟨o, l, _, _, rfl, rfl, (upd_ne lo.symm).trans ho, upd_same, ?_, ?_⟩
      · rw [List.length_map, ratI_len, List.length_take]
        exact line_le (by simp; omega)
      · refine ⟨by rw [List.length_map] at hi; exact hi, ?_, ⟨_, _, rfl⟩, ?_⟩
        · exact SameBut.same (SameBut.trans (same_but (Same.trans sm (same_upd nl))) SameBut.upd) no
        · rw [upd_same, take_more e1, ratI_more, List.map_append, ← f1, ← f2]
          rfl
    · intro σ H1 p
      obtain ⟨_, sm, ⟨y3, y4, rfl⟩, ho⟩ := p
      rw [List.length_map, List.take_length] at ho
      exact ⟨_, rfl, q H1 o sm no ho⟩
/-! ### every third number of a list -/
abbrev pk (j : Int) (ns : List Int) : List Int := pickNums ns (some j) none (some 3)
theorem pickV_map (ns : List Int) (lo hi st : Option Int) : pickV (ns.map V.int) lo hi st = (pickNums ns lo hi st).map V.int := by
  unfold pickV pickNums
  rw [List.length_map, List.map_filterMap]
  congr 1
  funext j
  rw [List.getElem?_map]
theorem zipB_at {xs ys : List Int} {f : Int → Int → Bool} {i : Nat} {z : V} (h : ((List.zipWith f xs ys).map V.bl)[i]? = some z) :
    ∃ x y, xs[i]? = some x ∧ ys[i]? = some y ∧ z = .bl (f x y) := by
  rw [List.getElem?_map, List.getElem?_zipWith] at h
  split at h
  · rename_i x y e1 e2
    exact ⟨x, y, e1, e2, (Option.some.inj h).symm⟩
  · cases h
/-! ### is_feasible -/
def sp_is_feasible (K : PySem.W.Frag) : Sp := fun vs H Q _ => ∃ (q lo hi d : Int) (c b : Addr) (ns bs : List Int), vs = [.int q, .int lo, .int hi, .int d, .ref c, .ref b] ∧ Bd q ∧ Bd d ∧ LI K H c ns ∧ LI K H b bs ∧ bs.length ≤ 1000 ∧ (∀ x ∈ bs, Bd x) ∧
  ∀ H', Same H H' → Q (.bl (feas q lo hi d (pk 0 ns) (pk 2 ns) bs)) H'
theorem ok_is_feasible (T : Txt K mg) : FnOk P w K mg base CX0 2 T.a_is_feasible T.d_is_feasible ["quantity", "low", "high", "den", "components", "blend"] (sp_is_feasible K) := by
  have G_within : FnOk P w K mg base CX0 1 T.a_within T.d_within ["number", "most"] (sp_within K) := ok_within T
  have G_weighted_sum : FnOk P w K mg base CX0 1 T.a_weighted_sum T.d_weighted_sum ["amounts", "weights"] (sp_weighted_sum K) := ok_weighted_sum T
  refine T.F_is_feasible.ok sc_is_feasible (fun vs H Q E h => ?_) (fun cdv A outer s H vs Q E hr h => ?_)
  · obtain ⟨q, lo, hi, d, c, b, ns, bs, rfl, _⟩ := h
    rfl
  · obtain ⟨q, lo, hi, d, c, b, ns, bs, rfl, hq, hd, hc, hb, hl, hbs, k⟩ := h
    have hu := hu_of hr
    refine ⟨_, (pss_cons (ps_set (i := 6) sc_is_feasible.nd rfl (Or.inl rfl) (pe_slice3 (pv 4) (po_some pe_int) po_none (po_some pe_int)))
      (pss_cons (ps_if (pt_not (pt_val (pe_callB (cr_all rfl) (by rfl) T.z_all (by decide +kernel) (pa_cons (pe_lc (own := [("amount", 8), ("most", 9)]) (g := (gTup K 2 (gCons (gName 8) (gCons (gName 9) gNil)))) (tt := tYes) rfl sc_is_feasible.nd (pi_zip (by rfl) T.z_zip (pa_cons (pv 5) (pa_cons (pv 6) pa_nil))) (blkOk_by (own := [("amount", 8), ("most", 9)]) (N := N_is_feasible) (sc := defScope s_is_feasible) (by decide +kernel)) (fun _ _ _ _ _ => (pg_tup rfl (pgs_cons (pg_name (i := 8) sc_is_feasible.nd rfl (Or.inl rfl)) (pgs_cons (pg_name (i := 9) sc_is_feasible.nd rfl (Or.inl rfl)) pgs_nil)))) (fun _ _ _ _ _ => pts_nil) (fun _ _ _ _ _ => (pe_call G_within (hr.mono (by decide)) rfl T.g_within T.F_within.kp T.b_within .nil pass0 (pa_cons (pv 8) (pa_cons (pe_op op_mul (pv 3) (pv 9)) pa_nil))))) pa_nil)))) (pss_one (ps_ret pe_bl)) pss_nil)
      (pss_cons (ps_if (pt_cmpR op_ne (pe_callB (cr_sum rfl) (by rfl) T.z_sum (by decide +kernel) (pa_cons (pv 5) pa_nil)) (pe_op op_mul (pv 3) (pv 0)) (nomark _)) (pss_one (ps_ret pe_bl)) pss_nil)
      (pss_cons (ps_set (i := 7) sc_is_feasible.nd rfl (Or.inl rfl) (pe_call G_weighted_sum (hr.mono (by decide)) rfl T.g_weighted_sum T.F_weighted_sum.kp T.b_weighted_sum .nil pass0 (pa_cons (pv 5) (pa_cons (pe_slice3 (pv 4) (po_some pe_int) po_none (po_some pe_int)) pa_nil))))
      (pss_one (ps_ret (pe_chain op_le op_le (pe_op op_mul (pe_op op_mul (pv 3) (pv 1)) (pv 0)) (pv 7) (pe_op op_mul (pe_op op_mul (pv 3) (pv 2)) (pv 0))))))))), ?_⟩
    -- available = components[0::3]
    refine ⟨_, rfl, 0, rfl, 3, rfl, c, _, rfl, hc, by decide, fun av nav => ?_⟩
    obtain ⟨avl, hav⟩ : ∃ a, a = pk 0 ns := ⟨_, rfl⟩
    rw [pickV_map, show pickNums ns (some 0) none (some 3) = avl from hav.symm]
    rw [← hav] at k
    have sav : Same H (upd H av (.lst (avl.map V.int))) := same_upd nav
    -- all([..])
    refine ⟨_, rfl, _, rfl, b, av, _, _, rfl, Same.seq sav hb, .inl (.inl upd_same), fun D hD => ?_⟩
    refine lc_map (walk_zip rfl) hD ?_ (fun H1 sm => ⟨Same.seq sm (Same.seq sav hb), Same.seq sm (.inl (.inl upd_same))⟩) ((List.zipWith (fun x m => within x (d * m)) bs avl).map V.bl) (by simp) ?_ ?_
    · rw [List.length_map, List.length_map]
      omega
    · intro i x H1 H2 z R Z hz sm y hR
      obtain ⟨x1, y1, e1, e2, rfl⟩ := zipB_at hz
      obtain ⟨t, x2, y2, rfl, nt, rfl, f1, f2⟩ := y
      have g1 : x2 = .int x1 := int_at e1 f1
      have g2 : y2 = .int y1 := int_at e2 f2
      subst g1 g2
      refine ⟨t, _, rfl, .inl (.inl upd_same), rfl, _, _, rfl, _, _, rfl, rfl, rfl, iteT ?_⟩
      refine ⟨_, rfl, _, rfl, _, rfl, _, _, rfl, rfl, .inl hd, x1, d * y1, rfl, ?_⟩
      exact hR _ (same_upd nt)
    intro H1 sm hD1
    have s1 : Same H H1 := Same.trans sav sm
    refine ⟨D, _, rfl, .inl (.inl hD1), _, rfl, ?_⟩
    cases hall : (List.zipWith (fun x m => within x (d * m)) bs avl).all id with
    | false =>
      refine iteT ?_
      have e : feas q lo hi d avl (pk 2 ns) bs = false := by
        unfold feas
        rw [hall, Bool.false_and]
      rw [e] at k
      exact k H1 s1
    | true =>
      refine iteF ?_
      -- if sum(blend) != den * quantity
      refine ⟨_, rfl, b, bs, rfl, Same.seq s1 hb, _, rfl, _, rfl, _, _, rfl, rfl, .inl hd, rfl, _, rfl, ?_⟩
      by_cases hs : bs.sum = d * q
      · have e0 : (!decide (V.int bs.sum = V.int (d * q))) = false := by
          rw [hs, decide_eq_true rfl]
          rfl
        refine if_false_of e0 ?_
        -- total = weighted_sum(blend, components[2::3])
        refine ⟨_, rfl, _, rfl, 2, rfl, 3, rfl, c, _, rfl, Same.seq s1 hc, by decide, fun pr npr => ?_⟩
        obtain ⟨prl, hpr⟩ : ∃ a, a = pk 2 ns := ⟨_, rfl⟩
        rw [pickV_map, show pickNums ns (some 2) none (some 3) = prl from hpr.symm]
        rw [← hpr] at k
        have s2 : Same H1 (upd H1 pr (.lst (prl.map V.int))) := same_upd npr
        refine ⟨b, pr, bs, prl, rfl, Same.seq (Same.trans s1 s2) hb, .inl (.inl upd_same), hl, hbs, fun H3 s3 => ?_⟩
        have s13 : Same H H3 := Same.trans s1 (Same.trans s2 s3)
        -- return ..
        refine ⟨_, rfl, _, rfl, _, _, rfl, rfl, .inl hd, _, rfl, _, _, rfl, rfl, .inr hq, _, rfl, _, _, rfl, rfl, _, rfl, ?_⟩
        have e1 : feas q lo hi d avl prl bs = (decide (d * lo * q ≤ wsum bs prl) && decide (wsum bs prl ≤ d * hi * q)) := by
          unfold feas
          rw [hall, hs, decide_eq_true rfl, Bool.true_and, Bool.true_and]
        rw [e1] at k
        by_cases h1 : d * lo * q ≤ wsum bs prl
        · rw [decide_eq_true h1] at k ⊢
          refine iteT ?_
          refine ⟨_, rfl, _, rfl, _, _, rfl, rfl, .inl hd, _, rfl, _, _, rfl, rfl, .inr hq, _, _, rfl, rfl, ?_⟩
          rw [Bool.true_and] at k
          exact k H3 s13
        · rw [decide_eq_false h1] at k ⊢
          refine iteF ?_
          rw [Bool.false_and] at k
          exact k H3 s13
      · have e0 : (!decide (V.int bs.sum = V.int (d * q))) = true := by
          rw [decide_eq_false (fun z => hs (V.int.inj z))]
          rfl
        refine if_true_of e0 ?_
        have e : feas q lo hi d avl (pk 2 ns) bs = false := by
          unfold feas
          rw [decide_eq_false hs, Bool.false_and, Bool.and_false]
        rw [e] at k
        exact k H1 s1
/-! ### the limits -/
def lim : Nat → Int
  | 0 => 50
  | _ => 99
def oks (ns : List Int) : List Bool := ns.mapIdx fun i x => within x (lim (i % 3))
def compsOk (ns : List Int) : Bool := decide (ns.length % 3 = 0) && (decide (ns.length ≤ 12) && (oks ns).all id)
def sp_components_within_limits (K : PySem.W.Frag) : Sp := fun vs H Q _ => ∃ (c : Addr) (ns : List Int), vs = [.ref c] ∧ LI K H c ns ∧ ns.length ≤ 1000 ∧ ∀ H', Same H H' → Q (.bl (compsOk ns)) H'
theorem lim_at {i : Nat} : ([V.int 50, V.int 99, V.int 99] : List V)[i % 3]? = some (.int (lim (i % 3))) := by
  have h : i % 3 = 0 ∨ i % 3 = 1 ∨ i % 3 = 2 := by omega
  rcases h with h | h | h <;> rw [h] <;> rfl
theorem ok_components_within_limits (T : Txt K mg) : FnOk P w K mg base CX0 2 T.a_components_within_limits T.d_components_within_limits ["components"] (sp_components_within_limits K) := by
  have G_within : FnOk P w K mg base CX0 1 T.a_within T.d_within ["number", "most"] (sp_within K) := ok_within T
  refine T.F_components_within_limits.ok sc_components_within_limits (fun vs H Q E h => ?_) (fun cdv A outer s H vs Q E hr h => ?_)
  · obtain ⟨c, ns, rfl, _⟩ := h
    rfl
  · obtain ⟨c, ns, rfl, hc, hl, k⟩ := h
    have hu := hu_of hr
    refine ⟨_, (pss_cons (ps_if (PW.pt (pw_or (pt_cmpR op_ne (pe_op op_modN (pe_callB call_len_seq (by rfl) T.z_len PySem.boot_len (pa_cons (pv 0) pa_nil)) pe_int) pe_int (nomark _)) (pw_or1 (pt_cmpR op_gt (pe_callB call_len_seq (by rfl) T.z_len PySem.boot_len (pa_cons (pv 0) pa_nil)) (pe_op op_mul pe_int (pe_glob (v := V.int 4) rfl T.c_MOST_COMPONENTS ⟨_, rfl⟩)) (nomark _))))) (pss_one (ps_ret pe_bl)) pss_nil)
      (pss_one (ps_ret (pe_callB (cr_all rfl) (by rfl) T.z_all (by decide +kernel) (pa_cons (pe_lc (own := [("place", 1), ("number", 2)]) (g := (gTup K 2 (gCons (gName 1) (gCons (gName 2) gNil)))) (tt := tYes) rfl sc_components_within_limits.nd (pi_enum (by rfl) T.z_enumerate (pa_cons (pv 0) pa_nil)) (blkOk_by (own := [("place", 1), ("number", 2)]) (N := N_components_within_limits) (sc := defScope s_components_within_limits) (by decide +kernel)) (fun _ _ _ _ _ => (pg_tup rfl (pgs_cons (pg_name (i := 1) sc_components_within_limits.nd rfl (Or.inl rfl)) (pgs_cons (pg_name (i := 2) sc_components_within_limits.nd rfl (Or.inl rfl)) pgs_nil)))) (fun _ _ _ _ _ => pts_nil) (fun _ _ _ _ _ => (pe_call G_within (hr.mono (by decide)) rfl T.g_within T.F_within.kp T.b_within .nil pass0 (pa_cons (pv 2) (pa_cons (pe_ix (show IxR _ (rIxT K) from ix_tup) (pe_glob (v := V.ref T.q_MOST_OF_COMPONENT) rfl T.c_MOST_OF_COMPONENT rfl) (pe_op op_modN (pv 1) pe_int) (fun _ _ => rfl)) pa_nil))))) pa_nil))))), ?_⟩
    have fm : ((ns.map V.int).length : Int).fmod 3 = ((ns.length % 3 : Nat) : Int) := by
      rw [List.length_map, Int.fmod_eq_emod_of_nonneg _ (by decide)]
      rfl
    refine ⟨_, rfl, c, ns.map V.int, rfl, .inl hc, _, _, rfl, rfl, (by show (3 : Int) ≠ 0; decide), rfl, _, rfl, ?_⟩
    by_cases h3 : ns.length % 3 = 0
    · have e0 : (!decide (V.int (((ns.map V.int).length : Int).fmod 3) = V.int 0)) = false := by
        rw [fm, h3]
        rfl
      refine if_false_of e0 ?_
      refine ⟨_, rfl, c, ns.map V.int, rfl, .inl hc, _, _, rfl, rfl, .inl (by decide), _, _, rfl, rfl, _, rfl, ?_⟩
      by_cases h12 : ns.length ≤ 12
      · have e1 : decide ((3 : Int) * 4 < ((ns.map V.int).length : Int)) = false := by
          rw [List.length_map]
          exact decide_eq_false (by omega)
        refine if_false_of e1 ?_
        refine ⟨_, rfl, c, _, rfl, hc, fun D hD => ?_⟩
        refine lc_map walk_enum hD ?_ (fun H1 sm => Same.seq sm hc) ((oks ns).map V.bl) (by simp [oks]) ?_ ?_
        · rw [List.length_map]
          omega
        · intro i x H1 H2 z R Z hz sm y hR
          obtain ⟨t, x2, y2, rfl, nt, rfl, f1, f2⟩ := y
          have g1 : x2 = .int (i : Nat) := (Option.some.inj f1).symm
          obtain ⟨n, e1, g2⟩ := map_at f2
          subst g1 g2
          have ez : z = .bl (within n (lim (i % 3))) := by
            unfold oks at hz
            rw [List.getElem?_map, List.getElem?_mapIdx, e1] at hz
            exact (Option.some.inj hz).symm
          subst ez
          have fi : ((i : Nat) : Int).fmod 3 = ((i % 3 : Nat) : Int) := by
            rw [Int.fmod_eq_emod_of_nonneg _ (by decide)]
            rfl
          refine ⟨t, _, rfl, .inl (.inl upd_same), rfl, _, _, rfl, _, _, rfl, rfl, rfl, iteT ?_⟩
          refine ⟨_, rfl, _, rfl, _, _, rfl, rfl, (by show (3 : Int) ≠ 0; decide), T.q_MOST_OF_COMPONENT, _, _, _, rfl, rfl, T.v_MOST_OF_COMPONENT _, at_of fi lim_at, n, lim (i % 3), rfl, ?_⟩
          exact hR _ (same_upd nt)
        · intro H1 sm hD1
          refine ⟨D, _, rfl, .inl (.inl hD1), ?_⟩
          have e : compsOk ns = (oks ns).all id := by
            unfold compsOk
            rw [decide_eq_true h3, decide_eq_true h12, Bool.true_and, Bool.true_and]
          rw [e] at k
          exact k H1 sm
      · have e1 : decide ((3 : Int) * 4 < ((ns.map V.int).length : Int)) = true := by
          rw [List.length_map]
          exact decide_eq_true (by omega)
        refine if_true_of e1 ?_
        have e : compsOk ns = false := by
          unfold compsOk
          rw [decide_eq_false h12, Bool.false_and, Bool.and_false]
        rw [e] at k
        exact k H (Same.refl H)
    · have e0 : (!decide (V.int (((ns.map V.int).length : Int).fmod 3) = V.int 0)) = true := by
        rw [fm, decide_eq_false (fun z => h3 (by have := V.int.inj z; omega))]
        rfl
      refine if_true_of e0 ?_
      have e : compsOk ns = false := by
        unfold compsOk
        rw [decide_eq_false h3, Bool.false_and]
      rw [e] at k
      exact k H (Same.refl H)
/-! ### the limits of a whole request -/
def reqOk (q lo hi : Int) (ns : List Int) : Bool := within q 99 && (within lo 99 && (within hi 99 && (decide (lo ≤ hi) && compsOk ns)))
/-! ### bounds_within_limits -/
def boundsOk (lo hi : Int) : Bool := decide (0 ≤ lo) && (decide (lo ≤ hi) && decide (hi ≤ 99))
theorem bounds_parts {lo hi : Int} : boundsOk lo hi = true ↔ 0 ≤ lo ∧ lo ≤ hi ∧ hi ≤ 99 := by
  unfold boundsOk
  rw [Bool.and_eq_true, Bool.and_eq_true, decide_eq_true_eq, decide_eq_true_eq, decide_eq_true_eq]
def sp_bounds_within_limits (K : PySem.W.Frag) : Sp := fun vs H Q _ => ∃ lo hi : Int, vs = [.int lo, .int hi] ∧ Q (.bl (boundsOk lo hi)) H
theorem ok_bounds_within_limits (T : Txt K mg) : FnOk P w K mg base CX0 1 T.a_bounds_within_limits T.d_bounds_within_limits ["low", "high"] (sp_bounds_within_limits K) := by
  refine T.F_bounds_within_limits.ok sc_bounds_within_limits (fun vs H Q E h => ?_) (fun cdv A outer s H vs Q E hr h => ?_)
  · obtain ⟨lo, hi, rfl, _⟩ := h
    rfl
  · obtain ⟨lo, hi, rfl, q⟩ := h
    have hu := hu_of hr
    refine ⟨_, (pss_one (ps_ret (pe_chain3 op_le op_le op_le pe_int (pv 0) (pv 1) (pe_glob (v := V.int 99) rfl T.c_MOST_BOUND ⟨_, rfl⟩)))), ?_⟩
    refine ⟨_, rfl, 0, lo, rfl, rfl, _, rfl, ite2 (fun c1 => ?_) (fun c1 => ?_)⟩
    · refine ⟨_, rfl, lo, hi, rfl, rfl, _, rfl, ite2 (fun c2 => ?_) (fun c2 => ?_)⟩
      · refine ⟨hi, 99, rfl, rfl, ?_⟩
        have e : boundsOk lo hi = decide (hi ≤ 99) := by
          unfold boundsOk
          rw [c1, c2, Bool.true_and, Bool.true_and]
        rw [e] at q
        exact q
      · have e : boundsOk lo hi = false := by
          unfold boundsOk
          rw [eq_false_of_ne_true c2, Bool.false_and, Bool.and_false]
        rw [e] at q
        exact q
    · have e : boundsOk lo hi = false := by
        unfold boundsOk
        rw [eq_false_of_ne_true c1, Bool.false_and]
      rw [e] at q
      exact q
/-! ### request_within_limits -/
theorem reqOk_bounds (q lo hi : Int) (ns : List Int) : reqOk q lo hi ns = (within q 99 && (boundsOk lo hi && compsOk ns)) := by
  have e : (within lo 99 && (within hi 99 && (decide (lo ≤ hi) && compsOk ns))) = (boundsOk lo hi && compsOk ns) := by
    cases compsOk ns with
    | false => rw [Bool.and_false, Bool.and_false, Bool.and_false, Bool.and_false]
    | true =>
      rw [Bool.eq_iff_iff]
      simp only [Bool.and_true, Bool.and_eq_true, bounds_parts, within, decide_eq_true_eq]
      omega
  unfold reqOk
  rw [e]
def sp_request_within_limits (K : PySem.W.Frag) : Sp := fun vs H Q _ => ∃ (q lo hi : Int) (c : Addr) (ns : List Int), vs = [.int q, .int lo, .int hi, .ref c] ∧ LI K H c ns ∧ ns.length ≤ 1000 ∧ ∀ H', Same H H' → Q (.bl (reqOk q lo hi ns)) H'
theorem ok_request_within_limits (T : Txt K mg) : FnOk P w K mg base CX0 3 T.a_request_within_limits T.d_request_within_limits ["quantity", "low", "high", "components"] (sp_request_within_limits K) := by
  have G_within : FnOk P w K mg base CX0 1 T.a_within T.d_within ["number", "most"] (sp_within K) := ok_within T
  have G_bounds_within_limits : FnOk P w K mg base CX0 1 T.a_bounds_within_limits T.d_bounds_within_limits ["low", "high"] (sp_bounds_within_limits K) := ok_bounds_within_limits T
  have G_components_within_limits : FnOk P w K mg base CX0 2 T.a_components_within_limits T.d_components_within_limits ["components"] (sp_components_within_limits K) := ok_components_within_limits T
  refine T.F_request_within_limits.ok sc_request_within_limits (fun vs H Q E h => ?_) (fun cdv A outer s H vs Q E hr h => ?_)
  · obtain ⟨q, lo, hi, c, ns, rfl, _⟩ := h
    rfl
  · obtain ⟨q, lo, hi, c, ns, rfl, hc, hl, k⟩ := h
    have hu := hu_of hr
    refine ⟨_, (pss_cons (ps_if (PW.pt (pw_or (pt_not (pt_val (pe_call G_within (hr.mono (by decide)) rfl T.g_within T.F_within.kp T.b_within .nil pass0 (pa_cons (pv 0) (pa_cons (pe_glob (v := V.int 99) rfl T.c_MOST_QUANTITY ⟨_, rfl⟩) pa_nil))))) (pw_or1 (pt_not (pt_val (pe_call G_bounds_within_limits (hr.mono (by decide)) rfl T.g_bounds_within_limits T.F_bounds_within_limits.kp T.b_bounds_within_limits .nil pass0 (pa_cons (pv 1) (pa_cons (pv 2) pa_nil)))))))) (pss_one (ps_ret pe_bl)) pss_nil)
      (pss_one (ps_ret (pe_call G_components_within_limits (hr.mono (by decide)) rfl T.g_components_within_limits T.F_components_within_limits.kp T.b_components_within_limits .nil pass0 (pa_cons (pv 3) pa_nil))))), ?_⟩
    rw [reqOk_bounds] at k
    refine ⟨_, rfl, q, 99, rfl, _, rfl, ?_⟩
    cases h1 : within q 99 with
    | false =>
      rw [h1, Bool.false_and] at k
      exact iteT (k H (Same.refl H))
    | true =>
      rw [h1, Bool.true_and] at k
      refine iteF ?_
      refine ⟨_, rfl, _, rfl, lo, hi, rfl, _, rfl, ?_⟩
      cases h2 : boundsOk lo hi with
      | false =>
        rw [h2, Bool.false_and] at k
        exact iteT (k H (Same.refl H))
      | true =>
        rw [h2, Bool.true_and] at k
        refine iteF ?_
        exact ⟨_, rfl, c, ns, rfl, hc, hl, fun H' sm => k H' sm⟩
/-! ### about limits -/
theorem within_iff {x m : Int} : within x m = true ↔ 0 ≤ x ∧ x ≤ m := by
  unfold within
  rw [Bool.and_eq_true, decide_eq_true_eq, decide_eq_true_eq]
theorem all_within {bs : List Int} {m : Int} (h : (bs.map fun x => within x m).all id = true) : ∀ x ∈ bs, 0 ≤ x ∧ x ≤ m := fun x hx => by
  rw [List.all_map, List.all_eq_true] at h
  exact within_iff.mp (h x hx)
theorem bd_of {x : Int} (h0 : -1000000000 ≤ x) (h1 : x ≤ 1000000000) : Bd x := by
  unfold Bd
  omega
theorem pickNums_mem {ns : List Int} {lo hi st : Option Int} {x : Int} (h : x ∈ pickNums ns lo hi st) : x ∈ ns := by
  unfold pickNums at h
  obtain ⟨j, _, e⟩ := List.mem_filterMap.mp h
  exact List.mem_of_getElem? e
theorem lim_le (i : Nat) : lim i ≤ 99 := by
  unfold lim
  split <;> decide
theorem comps_bd {ns : List Int} (h : compsOk ns = true) : ∀ x ∈ ns, 0 ≤ x ∧ x ≤ 99 := fun x hx => by
  unfold compsOk at h
  rw [Bool.and_eq_true, Bool.and_eq_true] at h
  have h3 := h.2.2
  rw [List.all_eq_true] at h3
  obtain ⟨i, hi⟩ := List.mem_iff_getElem?.mp hx
  have hm : within x (lim (i % 3)) ∈ oks ns := by
    refine List.mem_of_getElem? (i := i) ?_
    unfold oks
    rw [List.getElem?_mapIdx, hi]
    rfl
  have := within_iff.mp (h3 _ hm)
  have := lim_le (i % 3)
  omega
theorem reqOk_parts {q lo hi : Int} {ns : List Int} (h : reqOk q lo hi ns = true) : (0 ≤ q ∧ q ≤ 99) ∧ (0 ≤ lo ∧ lo ≤ 99) ∧ (0 ≤ hi ∧ hi ≤ 99) ∧ lo ≤ hi ∧ compsOk ns = true := by
  unfold reqOk at h
  rw [Bool.and_eq_true, Bool.and_eq_true, Bool.and_eq_true, Bool.and_eq_true, decide_eq_true_eq] at h
  exact ⟨within_iff.mp h.1, within_iff.mp h.2.1, within_iff.mp h.2.2.1, h.2.2.2.1, h.2.2.2.2⟩
theorem wsum_nonneg : ∀ {xs ys : List Int}, (∀ x ∈ xs, 0 ≤ x) → (∀ y ∈ ys, 0 ≤ y) → 0 ≤ wsum xs ys
  | [], _, _, _ => by simp [wsum]
  | _ :: _, [], _, _ => by simp [wsum]
  | x :: xs, y :: ys, hx, hy => by
    have ih := wsum_nonneg (xs := xs) (ys := ys) (fun z hz => hx z (List.mem_cons_of_mem _ hz)) fun z hz => hy z (List.mem_cons_of_mem _ hz)
    have h := Int.mul_nonneg (hx x List.mem_cons_self) (hy y List.mem_cons_self)
    unfold wsum at ih ⊢
    rw [List.zipWith_cons_cons, List.sum_cons]
    omega
/-! ### the request, read -/
theorem pk_of {ns : List Int} {j : Int} {n : Nat} {js : List Nat} {r : List Int} (hn : ns.length = n) (h : sliceRange (sliceBounds (some j) none (some 3) n).1 (sliceBounds (some j) none (some 3) n).2.1 (sliceBounds (some j) none (some 3) n).2.2 = js)
   (e : js.filterMap (ns[·]?) = r) : pickNums ns (some j) none (some 3) = r := by
  unfold pickNums
  rw [hn, h, e]
def compsOf : List Int → List Ks595.Component
  | a :: b :: c :: r => ⟨a.toNat, b.toNat, c.toNat⟩ :: compsOf r
  | _ => []
theorem shape : ∀ {ns : List Int}, ns.length % 3 = 0 → ns.length ≤ 12 → ns = [] ∨ (∃ a b c, ns = [a, b, c]) ∨ (∃ a b c d e f, ns = [a, b, c, d, e, f]) ∨
    (∃ a b c d e f g h i, ns = [a, b, c, d, e, f, g, h, i]) ∨ (∃ a b c d e f g h i j k l, ns = [a, b, c, d, e, f, g, h, i, j, k, l])
  | [], _, _ => .inl rfl
  | [_], h, _ => by simp at h
  | [_, _], h, _ => by simp at h
  | [a, b, c], _, _ => .inr (.inl ⟨a, b, c, rfl⟩)
  | [_, _, _, _], h, _ => by simp at h
  | [_, _, _, _, _], h, _ => by simp at h
  | [a, b, c, d, e, f], _, _ => .inr (.inr (.inl ⟨a, b, c, d, e, f, rfl⟩))
  | [_, _, _, _, _, _, _], h, _ => by simp at h
  | [_, _, _, _, _, _, _, _], h, _ => by simp at h
  | [a, b, c, d, e, f, g, h, i], _, _ => .inr (.inr (.inr (.inl ⟨a, b, c, d, e, f, g, h, i, rfl⟩)))
  | [_, _, _, _, _, _, _, _, _, _], h, _ => by simp at h
  | [_, _, _, _, _, _, _, _, _, _, _], h, _ => by simp at h
  | [a, b, c, d, e, f, g, h, i, j, k, l], _, _ => .inr (.inr (.inr (.inr ⟨a, b, c, d, e, f, g, h, i, j, k, l, rfl⟩)))
  | _ :: _ :: _ :: _ :: _ :: _ :: _ :: _ :: _ :: _ :: _ :: _ :: _ :: r, _, h => by
    simp only [List.length_cons] at h
    omega
theorem pk_comps {ns : List Int} (h3 : ns.length % 3 = 0) (h12 : ns.length ≤ 12) (h0 : ∀ x ∈ ns, 0 ≤ x) :
    pk 0 ns = (compsOf ns).map (fun c => (c.amount : Int)) ∧ pk 1 ns = (compsOf ns).map (fun c => (c.cost : Int)) ∧ pk 2 ns = (compsOf ns).map (fun c => (c.property : Int)) ∧ ns.length = 3 * (compsOf ns).length := by
  rcases shape h3 h12 with rfl | ⟨a, b, c, rfl⟩ | ⟨a, b, c, d, e, f, rfl⟩ | ⟨a, b, c, d, e, f, g, h, i, rfl⟩ | ⟨a, b, c, d, e, f, g, h, i, j, k, l, rfl⟩
  · exact ⟨rfl, rfl, rfl, rfl⟩
  · simp only [List.mem_cons, List.not_mem_nil, or_false, forall_eq_or_imp, forall_eq] at h0
    refine ⟨pk_of (n := 3) (js := [0]) rfl (by decide +kernel) ?_, pk_of (n := 3) (js := [1]) rfl (by decide +kernel) ?_, pk_of (n := 3) (js := [2]) rfl (by decide +kernel) ?_, rfl⟩ <;>
      (simp [compsOf]; omega)
  · simp only [List.mem_cons, List.not_mem_nil, or_false, forall_eq_or_imp, forall_eq] at h0
    refine ⟨pk_of (n := 6) (js := [0, 3]) rfl (by decide +kernel) ?_, pk_of (n := 6) (js := [1, 4]) rfl (by decide +kernel) ?_, pk_of (n := 6) (js := [2, 5]) rfl (by decide +kernel) ?_, rfl⟩ <;>
      (simp [compsOf]; omega)
  · simp only [List.mem_cons, List.not_mem_nil, or_false, forall_eq_or_imp, forall_eq] at h0
    refine ⟨pk_of (n := 9) (js := [0, 3, 6]) rfl (by decide +kernel) ?_, pk_of (n := 9) (js := [1, 4, 7]) rfl (by decide +kernel) ?_, pk_of (n := 9) (js := [2, 5, 8]) rfl (by decide +kernel) ?_, rfl⟩ <;>
      (simp [compsOf]; omega)
  · simp only [List.mem_cons, List.not_mem_nil, or_false, forall_eq_or_imp, forall_eq] at h0
    refine ⟨pk_of (n := 12) (js := [0, 3, 6, 9]) rfl (by decide +kernel) ?_, pk_of (n := 12) (js := [1, 4, 7, 10]) rfl (by decide +kernel) ?_, pk_of (n := 12) (js := [2, 5, 8, 11]) rfl (by decide +kernel) ?_, rfl⟩ <;>
      (simp [compsOf]; omega)
/-- the limits of the components, from the k-th component on -/
def oksFrom (k : Nat) (ns : List Int) : List Bool := ns.mapIdx fun i x => within x (lim ((k + i) % 3))
theorem oksFrom_zero (ns : List Int) : oksFrom 0 ns = oks ns := by
  unfold oksFrom oks
  congr 1
  funext i x
  rw [Nat.zero_add]
theorem oksFrom_cons (k : Nat) (x : Int) (r : List Int) : oksFrom k (x :: r) = within x (lim (k % 3)) :: oksFrom (k + 1) r := by
  unfold oksFrom
  rw [List.mapIdx_cons]
  congr 1
  congr 1
  funext i y
  rw [show k + (i + 1) = k + 1 + i by omega]
theorem within_nat {x m : Int} (h : 0 ≤ x) : within x m = decide (x ≤ m) := by
  unfold within
  rw [decide_eq_true h, Bool.true_and]
theorem parse_comps : ∀ (ns : List Int) (k : Nat), k % 3 = 0 → (∀ x ∈ ns, 0 ≤ x) →
    Ks595.parseComponents (ns.map Int.toNat) = if ns.length % 3 = 0 ∧ (oksFrom k ns).all id = true then some (compsOf ns) else none
  | [], k, _, _ => by
    rw [if_pos ⟨rfl, rfl⟩]
    rfl
  | [x], k, _, _ => by
    rw [if_neg (fun z => by have := z.1; simp at this)]
    rfl
  | [x, y], k, _, _ => by
    rw [if_neg (fun z => by have := z.1; simp at this)]
    rfl
  | a :: b :: c :: r, k, hk, h0 => by
    have ih := parse_comps r (k + 3) (by omega) fun x hx => h0 x (by simp [hx])
    have ha : 0 ≤ a := h0 a (by simp)
    have hb : 0 ≤ b := h0 b (by simp)
    have hc : 0 ≤ c := h0 c (by simp)
    have hl : (a :: b :: c :: r).length % 3 = r.length % 3 := by
      simp only [List.length_cons]
      omega
    have e0 : lim (k % 3) = 50 := by rw [hk]; rfl
    have e1 : lim ((k + 1) % 3) = 99 := by rw [show (k + 1) % 3 = 1 by omega]; rfl
    have e2 : lim ((k + 1 + 1) % 3) = 99 := by rw [show (k + 1 + 1) % 3 = 2 by omega]; rfl
    rw [oksFrom_cons, oksFrom_cons, oksFrom_cons, e0, e1, e2, hl]
    show (if 50 < a.toNat ∨ 99 < b.toNat ∨ 99 < c.toNat then none else (Ks595.parseComponents (r.map Int.toNat)).map fun components => ⟨a.toNat, b.toNat, c.toNat⟩ :: components) = _
    rw [ih, within_nat ha, within_nat hb, within_nat hc]
    by_cases hbad : 50 < a.toNat ∨ 99 < b.toNat ∨ 99 < c.toNat
    · rw [if_pos hbad, if_neg]
      intro z
      have z2 := z.2
      simp only [List.all_cons, id, Bool.and_eq_true, decide_eq_true_eq] at z2
      omega
    · rw [if_neg hbad]
      have w1 : decide (a ≤ 50) = true := decide_eq_true (by omega)
      have w2 : decide (b ≤ 99) = true := decide_eq_true (by omega)
      have w3 : decide (c ≤ 99) = true := decide_eq_true (by omega)
      rw [w1, w2, w3]
      simp only [List.all_cons, id, Bool.true_and]
      rw [show k + 1 + 1 + 1 = k + 3 by omega]
      by_cases hg : r.length % 3 = 0 ∧ (oksFrom (k + 3) r).all id = true
      · rw [if_pos hg, if_pos hg]
        rfl
      · rw [if_neg hg, if_neg hg]
        rfl
def prob (q lo hi : Int) (ns : List Int) : Ks595.Problem := ⟨compsOf ns, q.toNat, lo.toNat, hi.toNat⟩
theorem compsOf_len : ∀ ns : List Int, (compsOf ns).length = ns.length / 3
  | [] => rfl
  | [_] => by simp [compsOf]
  | [_, _] => by simp [compsOf]
  | a :: b :: c :: r => by
    show (compsOf r).length + 1 = _
    rw [compsOf_len r]
    simp only [List.length_cons]
    omega
theorem parse_prob {q lo hi : Int} {ns : List Int} (hq : 0 ≤ q) (hlo : 0 ≤ lo) (hhi : 0 ≤ hi) (h0 : ∀ x ∈ ns, 0 ≤ x) :
    Ks595.parseProblem q.toNat lo.toNat hi.toNat (ns.map Int.toNat) = if reqOk q lo hi ns = true then some (prob q lo hi ns) else none := by
  unfold Ks595.parseProblem
  rw [parse_comps ns 0 rfl h0, oksFrom_zero]
  unfold reqOk compsOk
  rw [within_nat hq, within_nat hlo, within_nat hhi]
  simp only [Bool.and_eq_true, decide_eq_true_eq]
  by_cases hg : ns.length % 3 = 0 ∧ (oks ns).all id = true
  · rw [if_pos hg]
    show (if Ks595.maxComponents < (compsOf ns).length ∨ 99 < q.toNat ∨ hi.toNat < lo.toNat ∨ 99 < hi.toNat then none else some (prob q lo hi ns)) = _
    rw [compsOf_len]
    unfold Ks595.maxComponents
    by_cases hbad : 4 < ns.length / 3 ∨ 99 < q.toNat ∨ hi.toNat < lo.toNat ∨ 99 < hi.toNat
    · rw [if_pos hbad, if_neg]
      intro z
      omega
    · rw [if_neg hbad, if_pos]
      refine ⟨by omega, by omega, by omega, by omega, hg.1, by omega, hg.2⟩
  · rw [if_neg hg, if_neg]
    intro z
    exact hg ⟨z.2.2.2.2.1, z.2.2.2.2.2.2⟩
theorem prob_parts {q lo hi : Int} {ns : List Int} (h : reqOk q lo hi ns = true) :
    avs (prob q lo hi ns) = pk 0 ns ∧ csts (prob q lo hi ns) = pk 1 ns ∧ prs (prob q lo hi ns) = pk 2 ns ∧ ns.length = 3 * (prob q lo hi ns).components.length ∧
    ((prob q lo hi ns).quantity : Int) = q ∧ ((prob q lo hi ns).low : Int) = lo ∧ ((prob q lo hi ns).high : Int) = hi := by
  obtain ⟨⟨q0, q1⟩, ⟨l0, l1⟩, ⟨i0, i1⟩, li, hcok⟩ := reqOk_parts h
  have hns := comps_bd hcok
  unfold compsOk at hcok
  rw [Bool.and_eq_true, Bool.and_eq_true, decide_eq_true_eq, decide_eq_true_eq] at hcok
  obtain ⟨e0, e1, e2, e3⟩ := pk_comps hcok.1 hcok.2.1 fun x hx => (hns x hx).1
  refine ⟨e0.symm, e1.symm, e2.symm, e3, ?_, ?_, ?_⟩
  · show ((q.toNat : Nat) : Int) = q
    omega
  · show ((lo.toNat : Nat) : Int) = lo
    omega
  · show ((hi.toNat : Nat) : Int) = hi
    omega
theorem pairs_ratI {d : Nat} (hd : d ≠ 0) : ∀ ns : List Int, Ks595.pairs (ns.map fun n => Ks595.Rational.make n d) = ratI (d : Int) ns
  | [] => rfl
  | n :: r => by
    have ih := pairs_ratI hd r
    unfold Ks595.pairs ratI at ih ⊢
    rw [List.map_cons, List.flatMap_cons, List.flatMap_cons, ih]
    have e : Ks595.Rational.make n d = ⟨n / (Nat.gcd n.natAbs d : Nat), d / Nat.gcd n.natAbs d⟩ := if_neg hd
    rw [e, Int.natAbs_natCast]
    rfl
theorem pk_parts {ns : List Int} (h : compsOk ns = true) : (pk 0 ns).length ≤ 4 ∧ (pk 1 ns).length = (pk 0 ns).length ∧ (pk 2 ns).length = (pk 0 ns).length := by
  have hns := comps_bd h
  unfold compsOk at h
  rw [Bool.and_eq_true, Bool.and_eq_true, decide_eq_true_eq, decide_eq_true_eq] at h
  obtain ⟨e0, e1, e2, e3⟩ := pk_comps h.1 h.2.1 fun x hx => (hns x hx).1
  rw [e0, e1, e2, List.length_map, List.length_map, List.length_map]
  omega
/-! ### lists of objects -/
/-- at p a list of references, one for each of L, R telling what stands at each -/
def Objs {α : Type} (R : Addr → α → Prop) (H : Hp) (p : Addr) (L : List α) : Prop :=
  ∃ l : List (Addr × α), H p = some (.lst (l.map fun x => V.ref x.1)) ∧ l.map (·.2) = L ∧ ∀ x ∈ l, R x.1 x.2
theorem Objs.mono {α : Type} {R R' : Addr → α → Prop} {H H' : Hp} {p : Addr} {L : List α} (h : Objs R H p L) (hp : ∀ o, H p = some o → H' p = some o) (hr : ∀ a x, R a x → R' a x) : Objs R' H' p L := by
  obtain ⟨l, h1, h2, h3⟩ := h
  exact ⟨l, hp _ h1, h2, fun x hx => hr _ _ (h3 x hx)⟩
theorem Objs.nil {α : Type} {R : Addr → α → Prop} {H : Hp} {p : Addr} (h : H p = some (.lst [])) : Objs R H p [] := ⟨[], h, rfl, fun _ hx => nomatch hx⟩
/-- out of a list made turn by turn -/
theorem objs_of {α : Type} {R : Addr → α → Prop} : ∀ {ys : List V} {L : List α}, ys.length = L.length → (∀ (i : Nat) (y : V), ys[i]? = some y → ∃ a x, y = V.ref a ∧ L[i]? = some x ∧ R a x) →
    ∃ l : List (Addr × α), ys = (l.map fun x => V.ref x.1) ∧ l.map (·.2) = L ∧ ∀ x ∈ l, R x.1 x.2
  | [], [], _, _ => ⟨[], rfl, rfl, fun _ hx => nomatch hx⟩
  | [], _ :: _, h, _ => by simp at h
  | _ :: _, [], h, _ => by simp at h
  | y :: ys, x :: L, h, f => by
    obtain ⟨a, x', rfl, e, r⟩ := f 0 y rfl
    have e' : x = x' := Option.some.inj e
    subst e'
    obtain ⟨l, h1, h2, h3⟩ := objs_of (R := R) (ys := ys) (L := L) (by simpa using h) fun i z hz => f (i + 1) z hz
    refine ⟨(a, x) :: l, by rw [h1]; rfl, by rw [← h2]; rfl, fun z hz => ?_⟩
    rcases List.mem_cons.mp hz with rfl | hz
    · exact r
    · exact h3 z hz
theorem objs_at {α : Type} {l : List (Addr × α)} {i : Nat} {v : V} (h : (l.map fun x => V.ref x.1)[i]? = some v) : ∃ x, l[i]? = some x ∧ v = .ref x.1 := by
  rw [List.getElem?_map] at h
  cases q : l[i]? with
  | none => rw [q] at h; cases h
  | some x => rw [q] at h; exact ⟨x, rfl, (Option.some.inj h).symm⟩
/-- what stands at a: a list of the numbers ns, none of the objects of F -/
def IsL (F H : Hp) (a : Addr) (ns : List Int) : Prop := F a = none ∧ H a = some (.lst (ns.map V.int))
/-! ### corners -/
def cornerStep (found : List (List Int)) (most : Int) : List (List Int) := found.map (· ++ [0]) ++ found.map (· ++ [most])
def cornersM (av : List Int) : List (List Int) := av.foldl cornerStep [[]]
theorem cornersM_more {av : List Int} {i : Nat} {x : Int} (h : av[i]? = some x) : cornersM (av.take (i + 1)) = cornerStep (cornersM (av.take i)) x := by
  unfold cornersM
  rw [take_more h, List.foldl_append]
  rfl
theorem cornersM_size : ∀ (av : List Int) (i : Nat), i ≤ av.length → i ≤ 10 → (cornersM (av.take i)).length ≤ 1024 ∧ (cornersM (av.take i)).length = 2 ^ i ∧ ∀ c ∈ cornersM (av.take i), c.length = i
  | av, 0, _, _ => by
    rw [List.take_zero]
    exact ⟨by decide, rfl, fun c hc => by
      have : c = [] := by simpa [cornersM] using hc
      rw [this]
      rfl⟩
  | av, i + 1, h, hi => by
    obtain ⟨_, h2, h3⟩ := cornersM_size av i (by omega) (by omega)
    have e : av[i]? = some av[i] := List.getElem?_eq_getElem (by omega)
    rw [cornersM_more e]
    unfold cornerStep
    have hl : (List.map (fun x => x ++ [0]) (cornersM (List.take i av)) ++ List.map (fun x => x ++ [av[i]]) (cornersM (List.take i av))).length = 2 ^ (i + 1) := by
      rw [List.length_append, List.length_map, List.length_map, h2, Nat.pow_succ]
      omega
    refine ⟨?_, hl, fun c hc => ?_⟩
    · rw [hl]
      exact Nat.le_trans (Nat.pow_le_pow_right (by decide) hi) (by decide)
    · rcases List.mem_append.mp hc with hc | hc <;>
      · obtain ⟨c', hc', rfl⟩ := List.mem_map.mp hc
        rw [List.length_append, h3 c' hc']
        rfl
def sp_corners (K : PySem.W.Frag) : Sp := fun vs H Q _ => ∃ (a : Addr) (av : List Int), vs = [.ref a] ∧ LI K H a av ∧ av.length ≤ 10 ∧
  ∀ H' r, Same H H' → H r = none → Objs (IsL H H') H' r (cornersM av) → Q (.ref r) H'
theorem ok_corners (T : Txt K mg) : FnOk P w K mg base CX0 1 T.a_corners T.d_corners ["available"] (sp_corners K) := by
  refine T.F_corners.ok sc_corners (fun vs H Q E h => ?_) (fun cdv A outer s H vs Q E hr h => ?_)
  · obtain ⟨a, av, rfl, _⟩ := h
    rfl
  · obtain ⟨a, av, rfl, ha, hl, k⟩ := h
    have hu := hu_of hr
    refine ⟨_, (pss_cons (ps_set (i := 1) sc_corners.nd rfl (Or.inl rfl) (pe_lst (pa_cons (pe_lst pa_nil) pa_nil)))
      (pss_cons (ps_for PassesOwn.never rfl (pi_list (pv 0)) (pg_name (i := 2) sc_corners.nd rfl (Or.inr rfl)) (pss_one (ps_set (i := 1) sc_corners.nd rfl (Or.inl rfl) (pe_op op_cat (pe_lc (own := [("blend", 3)]) (g := (gName 3)) (tt := tYes) rfl sc_corners.nd (pi_list (pv 1)) (blkOk_by (own := [("blend", 3)]) (N := N_corners) (sc := defScope s_corners) (by decide +kernel)) (fun _ _ _ _ _ => (pg_name (i := 3) sc_corners.nd rfl (Or.inl rfl))) (fun _ _ _ _ _ => pts_nil) (fun _ _ _ _ _ => (pe_op op_cat (pv 3) (pe_lst (pa_cons pe_int pa_nil))))) (pe_lc (own := [("blend", 3)]) (g := (gName 3)) (tt := tYes) rfl sc_corners.nd (pi_list (pv 1)) (blkOk_by (own := [("blend", 3)]) (N := N_corners) (sc := defScope s_corners) (by decide +kernel)) (fun _ _ _ _ _ => (pg_name (i := 3) sc_corners.nd rfl (Or.inl rfl))) (fun _ _ _ _ _ => pts_nil) (fun _ _ _ _ _ => (pe_op op_cat (pv 3) (pe_lst (pa_cons (pv 2) pa_nil)))))))))
      (pss_one (ps_ret (pv 1))))), ?_⟩
    -- found = [[]]
    refine ⟨Nat.zero_le _, fun e ne => ⟨by show 1 ≤ sizeLine; decide, fun f nf => ?_⟩⟩
    have se := same_upd (o := .lst []) ne
    have sf := same_upd (o := .lst [V.ref e]) nf
    have ef : e ≠ f := fun z => by
      rw [← z, upd_same] at nf
      cases nf
    refine ⟨_, rfl, a, rfl, ⟨_, Same.seq (Same.trans se sf) ha⟩, ?_⟩
    refine for_it (walk_list (xs := av.map V.int)) (fun i σ H1 => i ≤ av.length ∧ Same H H1 ∧ ∃ p y2 y3, σ = [some (.ref a), some (.ref p), y2, y3] ∧ H p = none ∧ Objs (IsL H H1) H1 p (cornersM (av.take i))) ?_ ?_ ?_ ?_
    · refine ⟨Nat.zero_le _, Same.trans se sf, f, none, none, rfl, Same.free se nf, [(e, [])], upd_same, rfl, fun x hx => ?_⟩
      have : x = (e, []) := by simpa using hx
      rw [this]
      exact ⟨ne, by rw [upd_ne ef]; exact upd_same⟩
    · intro i σ H1 _ p
      exact Same.seq p.2.1 ha
    · intro i x σ H1 H2 hi p y
      obtain ⟨_, sm, p, y2, y3, rfl, np, l, hp, el, hl3⟩ := p
      obtain ⟨rfl, e⟩ := y
      obtain ⟨n, e1, rfl⟩ := map_at e
      rw [List.length_map] at hi
      obtain ⟨z1, z2, z3⟩ := cornersM_size av i (by omega) (by omega)
      have ll : l.length ≤ 1024 := by
        have := congrArg List.length el
        rw [List.length_map] at this
        omega
      have lx : ∀ x ∈ l, x.2.length ≤ 10 := fun x hx => by
        have : x.2 ∈ cornersM (av.take i) := by
          rw [← el]
          exact List.mem_map_of_mem hx
        rw [z3 _ this]
        omega
      -- the two comprehensions, each the found ones with one number more
      refine ⟨_, rfl, p, rfl, ⟨_, .inl (.inl hp)⟩, fun D hD => ?_⟩
      refine lc_rel (walk_list (xs := l.map fun x => V.ref x.1)) hD ?_ (fun H3 s3 => .inl (.inl (s3 _ _ hp))) (fun i y H' => ∃ b x, y = V.ref b ∧ (l.map (·.2))[i]? = some x ∧ b ≠ D ∧ H b = none ∧ H' b = some (.lst ((x ++ [0]).map V.int))) ?_ ?_ ?_
      · rw [List.length_map]
        omega
      · rintro i y H3 H4 sb ⟨b, x, rfl, e1, nb, fb, hb⟩
        exact ⟨b, x, rfl, e1, nb, fb, sb _ _ nb hb⟩
      · intro j x H3 H4 R Z hj s3 ⟨acc, hacc⟩ y hR
        obtain ⟨rfl, e⟩ := y
        obtain ⟨x, e2, rfl⟩ := objs_at e
        have hx := hl3 x (List.mem_of_getElem? e2)
        have lxx := lx x (List.mem_of_getElem? e2)
        refine ⟨rfl, iteT ?_⟩
        refine ⟨_, rfl, by show 1 ≤ sizeLine; decide, fun q nq => ?_⟩
        have sq := same_upd (o := .lst [V.int 0]) nq
        refine ⟨x.1, q, x.2.map V.int, _, rfl, rfl, sq _ _ (s3 _ _ hx.2), upd_same, ?_, fun b nb => ?_⟩
        · rw [List.length_map]
          exact line_le (by simp; omega)
        · have sb := same_upd (o := .lst (x.2.map V.int ++ [V.int 0])) nb
          refine hR _ _ (Same.trans sq sb) ⟨b, x.2, rfl, ?_, ?_, Same.free (Same.trans sm (Same.trans s3 sq)) nb, ?_⟩
          · rw [List.getElem?_map, e2]
            rfl
          · exact (ne_of_none (sq _ _ hacc) nb).symm
          · rw [upd_same, List.map_append]
            rfl
      intro H3 ys s3 hD3 hys rel
      obtain ⟨l1, f1, f2, f3⟩ := objs_of (R := fun b x => b ≠ D ∧ H b = none ∧ H3 b = some (.lst ((x ++ [0]).map V.int))) (ys := ys) (L := l.map (·.2)) (by rw [hys, List.length_map, List.length_map]) (fun i y hy => by
        obtain ⟨b, x, h1, h2, h3⟩ := rel i y hy
        exact ⟨b, x, h1, h2, h3⟩)
      have hp3 := s3 _ _ hp
      refine ⟨_, rfl, p, rfl, ⟨_, .inl (.inl hp3)⟩, fun D2 hD2 => ?_⟩
      refine lc_rel (walk_list (xs := l.map fun x => V.ref x.1)) hD2 ?_ (fun H4 s4 => .inl (.inl (s4 _ _ hp3))) (fun i y H' => ∃ b x, y = V.ref b ∧ (l.map (·.2))[i]? = some x ∧ b ≠ D2 ∧ H b = none ∧ H' b = some (.lst ((x ++ [n]).map V.int))) ?_ ?_ ?_
      · rw [List.length_map]
        omega
      · rintro i y H3 H4 sb ⟨b, x, rfl, e1, nb, fb, hb⟩
        exact ⟨b, x, rfl, e1, nb, fb, sb _ _ nb hb⟩
      · intro j x H4 H5 R Z hj s4 ⟨acc, hacc⟩ y hR
        obtain ⟨rfl, e⟩ := y
        obtain ⟨x, e2, rfl⟩ := objs_at e
        have hx := hl3 x (List.mem_of_getElem? e2)
        have lxx := lx x (List.mem_of_getElem? e2)
        refine ⟨rfl, iteT ?_⟩
        refine ⟨_, rfl, _, rfl, by show 1 ≤ sizeLine; decide, fun q nq => ?_⟩
        have sq := same_upd (o := .lst [V.int n]) nq
        refine ⟨x.1, q, x.2.map V.int, _, rfl, rfl, sq _ _ (s4 _ _ (s3 _ _ hx.2)), upd_same, ?_, fun b nb => ?_⟩
        · rw [List.length_map]
          exact line_le (by simp; omega)
        · have sb := same_upd (o := .lst (x.2.map V.int ++ [V.int n])) nb
          refine hR _ _ (Same.trans sq sb) ⟨b, x.2, rfl, ?_, ?_, Same.free (Same.trans sm (Same.trans s3 (Same.trans s4 sq))) nb, ?_⟩
          · rw [List.getElem?_map, e2]
            rfl
          · exact (ne_of_none (sq _ _ hacc) nb).symm
          · rw [upd_same, List.map_append]
            rfl
      intro H4 ys2 s4 hD4 hys2 rel2
      obtain ⟨l2, g1, g2, g3⟩ := objs_of (R := fun b x => b ≠ D2 ∧ H b = none ∧ H4 b = some (.lst ((x ++ [n]).map V.int))) (ys := ys2) (L := l.map (·.2)) (by rw [hys2, List.length_map, List.length_map]) (fun i y hy => by
        obtain ⟨b, x, h1, h2, h3⟩ := rel2 i y hy
        exact ⟨b, x, h1, h2, h3⟩)
      rw [List.length_map] at hys hys2
      refine ⟨D, D2, ys, ys2, rfl, rfl, s4 _ _ hD3, hD4, line_le (by omega), fun r nr => ?_⟩
      have sr := same_upd (o := .lst (ys ++ ys2)) nr
      have s14 : Same H H4 := Same.trans sm (Same.trans s3 s4)
      refine ⟨hi, Same.trans s14 sr, r, some (.int n), y3, rfl, Same.free s14 nr, (l1.map fun x => (x.1, x.2 ++ [0])) ++ (l2.map fun x => (x.1, x.2 ++ [n])), ?_, ?_, ?_⟩
      · rw [upd_same, f1, g1, List.map_append, List.map_map, List.map_map]
        rfl
      · rw [cornersM_more e1, ← el, List.map_append, List.map_map, List.map_map]
        unfold cornerStep
        rw [← f2]
        conv => lhs; rhs; rw [show (Prod.snd ∘ fun x : Addr × List Int => (x.1, x.2 ++ [n])) = (fun c => c ++ [n]) ∘ Prod.snd from rfl, ← List.map_map, g2, ← f2]
        conv => lhs; lhs; rw [show (Prod.snd ∘ fun x : Addr × List Int => (x.1, x.2 ++ [(0 : Int)])) = (fun c => c ++ [0]) ∘ Prod.snd from rfl, ← List.map_map]
      · intro z hz
        rcases List.mem_append.mp hz with hz | hz
        · obtain ⟨x, hx, rfl⟩ := List.mem_map.mp hz
          obtain ⟨q1, q2, q3⟩ := f3 x hx
          exact ⟨q2, sr _ _ (s4 _ _ q3)⟩
        · obtain ⟨x, hx, rfl⟩ := List.mem_map.mp hz
          obtain ⟨q1, q2, q3⟩ := g3 x hx
          exact ⟨q2, sr _ _ q3⟩
    · intro σ H1 p
      obtain ⟨_, sm, p, y2, y3, rfl, np, ho⟩ := p
      rw [List.length_map, List.take_length] at ho
      exact ⟨_, rfl, k H1 p sm np ho⟩
/-! ### one_made_up -/
/-- what stands at t: a pair of a number and a list of numbers; neither is o nor one of the objects of F -/
def IsC (F : Hp) (o : Addr) (H : Hp) (t : Addr) (x : Int × List Int) : Prop :=
  F t = none ∧ t ≠ o ∧ ∃ b, b ≠ o ∧ F b = none ∧ H t = some (.tup [.int x.1, .ref b]) ∧ H b = some (.lst (x.2.map V.int))
theorem IsC.stay {F : Hp} {o : Addr} {H H' : Hp} {t : Addr} {x : Int × List Int} (h : IsC F o H t x) (s : SameBut o H H') : IsC F o H' t x := by
  obtain ⟨h1, h2, b, h3, h4, h5, h6⟩ := h
  exact ⟨h1, h2, b, h3, h4, s _ _ h2 h5, s _ _ h3 h6⟩
/-- one object more at the list's end -/
theorem Objs.add {F : Hp} {o : Addr} {H H' : Hp} {L : List (Int × List Int)} {t : Addr} {x : Int × List Int} (h : Objs (IsC F o H) H o L) (s : SameBut o H H') (ht : IsC F o H' t x)
    (e : ∀ xs, H o = some (.lst xs) → H' o = some (.lst (xs ++ [.ref t]))) : Objs (IsC F o H') H' o (L ++ [x]) := by
  obtain ⟨l, h1, h2, h3⟩ := h
  refine ⟨l ++ [(t, x)], ?_, ?_, ?_⟩
  · rw [e _ h1, List.map_append]
    rfl
  · rw [List.map_append, h2]
    rfl
  · intro y hy
    rcases List.mem_append.mp hy with hy | hy
    · exact (h3 y hy).stay s
    · have : y = (t, x) := by simpa using hy
      rw [this]
      exact ht
def oneTo (q : Int) (c : List Int) (n : Nat) : List (Int × List Int) := (List.range n).flatMap fun i => if c[i]? = some 0 then [((1 : Int), c.take i ++ [q - c.sum] ++ c.drop (i + 1))] else []
def oneM (q : Int) (c : List Int) : List (Int × List Int) := oneTo q c c.length
theorem oneTo_yes {q : Int} {c : List Int} {n : Nat} (h : c[n]? = some 0) : oneTo q c (n + 1) = oneTo q c n ++ [((1 : Int), c.take n ++ [q - c.sum] ++ c.drop (n + 1))] := by
  unfold oneTo
  rw [List.range_succ, List.flatMap_append, List.flatMap_singleton, if_pos h]
theorem oneTo_no {q : Int} {c : List Int} {n : Nat} (h : ¬ c[n]? = some 0) : oneTo q c (n + 1) = oneTo q c n := by
  unfold oneTo
  rw [List.range_succ, List.flatMap_append, List.flatMap_singleton, if_neg h, List.append_nil]
theorem oneTo_len (q : Int) (c : List Int) : ∀ n, (oneTo q c n).length ≤ n
  | 0 => Nat.le_refl _
  | n + 1 => by
    have ih := oneTo_len q c n
    by_cases h : c[n]? = some 0
    · rw [oneTo_yes h, List.length_append]
      simp
      omega
    · rw [oneTo_no h]
      omega
theorem cut_to (xs : List V) (i : Nat) : cutV xs none (some (i : Int)) = xs.take i := by
  unfold cutV
  rw [HT.sIx_nat, HT.sIx_none, Nat.sub_zero, List.drop_zero]
  by_cases h : i ≤ xs.length
  · rw [Nat.min_eq_left h]
  · rw [Nat.min_eq_right (by omega), List.take_of_length_le (by omega), List.take_of_length_le (by omega)]
theorem cut_from (xs : List V) (i : Nat) : cutV xs (some (i : Int)) none = xs.drop i := by
  unfold cutV
  rw [HT.sIx_nat, HT.sIx_none]
  by_cases h : i ≤ xs.length
  · rw [Nat.min_eq_left h]
    exact List.take_of_length_le (by rw [List.length_drop]; omega)
  · rw [Nat.min_eq_right (by omega), List.drop_of_length_le (Nat.le_refl _), List.drop_of_length_le (by omega), List.take_nil]
def sp_one_made_up (K : PySem.W.Frag) : Sp := fun vs H Q _ => ∃ (q : Int) (a : Addr) (c : List Int), vs = [.int q, .ref a] ∧ LI K H a c ∧ c.length ≤ 1000 ∧
  ∀ H' r, Same H H' → H r = none → Objs (IsC H r H') H' r (oneM q c) → Q (.ref r) H'
theorem ok_one_made_up (T : Txt K mg) : FnOk P w K mg base CX0 1 T.a_one_made_up T.d_one_made_up ["quantity", "corner"] (sp_one_made_up K) := by
  refine T.F_one_made_up.ok sc_one_made_up (fun vs H Q E h => ?_) (fun cdv A outer s H vs Q E hr h => ?_)
  · obtain ⟨q, a, c, rfl, _⟩ := h
    rfl
  · obtain ⟨q, a, c, rfl, ha, hl, k⟩ := h
    have hu := hu_of hr
    refine ⟨_, (pss_cons (ps_set (i := 2) sc_one_made_up.nd rfl (Or.inl rfl) (pe_op op_sub (pv 0) (pe_callB (cr_sum rfl) (by rfl) T.z_sum (by decide +kernel) (pa_cons (pv 1) pa_nil))))
      (pss_cons (ps_set (i := 3) sc_one_made_up.nd rfl (Or.inl rfl) (pe_lst pa_nil))
      (pss_cons (ps_for PassesOwn.never rfl (pi_enum (by rfl) T.z_enumerate (pa_cons (pv 1) pa_nil)) (pg_tup rfl (pgs_cons (pg_name (i := 4) sc_one_made_up.nd rfl (Or.inl rfl)) (pgs_cons (pg_name (i := 5) sc_one_made_up.nd rfl (Or.inl rfl)) pgs_nil))) (pss_one (ps_if (pt_cmpR op_eq (pv 5) pe_int (nomark _)) (pss_one (ps_expr (pe_bm PySem.F.plainAttrs_list PySem.F.slot_list_append PySem.F.type_list_append mt_append (pv 3) (pa_cons (pe_tup (pa_cons pe_int (pa_cons (pe_op op_cat (pe_op op_cat (pe_slice sl_list (pv 1) po_none (po_some (pv 4))) (pe_lst (pa_cons (pv 2) pa_nil))) (pe_slice sl_list (pv 1) (po_some (pe_op op_add (pv 4) pe_int)) po_none)) pa_nil))) pa_nil)))) pss_nil)))
      (pss_one (ps_ret (pv 3)))))), ?_⟩
    -- missing = quantity - sum(corner)
    refine ⟨_, rfl, _, rfl, a, c, rfl, ha, q, c.sum, rfl, rfl, ?_⟩
    -- candidates = []
    refine ⟨Nat.zero_le _, fun o no => ?_⟩
    have so := same_upd (o := .lst []) no
    refine ⟨_, rfl, a, _, rfl, Same.seq so ha, ?_⟩
    refine for_it (walk_enum (xs := c.map V.int)) (fun i σ H1 => i ≤ c.length ∧ Same H H1 ∧ (∃ y4 y5, σ = [some (.int q), some (.ref a), some (.int (q - c.sum)), some (.ref o), y4, y5]) ∧ Objs (IsC H o H1) H1 o (oneTo q c i)) ?_ ?_ ?_ ?_
    · exact ⟨Nat.zero_le _, so, ⟨none, none, rfl⟩, Objs.nil upd_same⟩
    · intro i σ H1 _ p
      exact Same.seq p.2.1 ha
    · intro i x σ H1 H2 hi p y
      obtain ⟨_, sm, ⟨y4, y5, rfl⟩, ho⟩ := p
      obtain ⟨t, x2, y2, rfl, nt, rfl, f1, f2⟩ := y
      have g1 : x2 = .int (i : Nat) := (Option.some.inj f1).symm
      obtain ⟨n, e1, g2⟩ := map_at f2
      subst g1 g2
      rw [List.length_map] at hi
      have st := same_upd (o := .tup [V.int (i : Nat), V.int n]) nt
      have s2 : Same H (upd H1 t (.tup [V.int (i : Nat), V.int n])) := Same.trans sm st
      have ht2 : upd H1 t (.tup [V.int (i : Nat), V.int n]) t = some (.tup [V.int (i : Nat), V.int n]) := upd_same
      generalize upd H1 t (.tup [V.int (i : Nat), V.int n]) = H2 at *
      refine ⟨t, _, rfl, .inl (.inl ht2), rfl, _, _, rfl, _, _, rfl, rfl, ?_⟩
      refine ⟨_, rfl, rfl, _, rfl, ?_⟩
      by_cases h0 : n = 0
      · subst h0
        refine if_true_of (decide_eq_true rfl) ?_
        obtain ⟨l0, hl0, el0, _⟩ := id ho
        -- corner[:place]
        refine ⟨_, rfl, .inl ⟨rfl, _, .inl (.inl (st _ _ hl0))⟩, ?_⟩
        refine ⟨_, rfl, _, rfl, _, rfl, a, _, rfl, Same.seq s2 ha, fun p1 np1 => ?_⟩
        rw [cut_to]
        have t1 := same_upd (o := .lst ((c.map V.int).take i)) np1
        -- [missing]
        refine ⟨_, rfl, (by show 1 ≤ sizeLine; decide), fun p2 np2 => ?_⟩
        have t2 := same_upd (o := .lst [V.int (q - c.sum)]) np2
        refine ⟨p1, p2, _, _, rfl, rfl, t2 _ _ upd_same, upd_same, ?_, fun p3 np3 => ?_⟩
        · rw [List.length_take, List.length_map]
          exact line_le (by simp; omega)
        have t3 := same_upd (o := .lst ((c.map V.int).take i ++ [V.int (q - c.sum)])) np3
        -- corner[place + 1:]
        refine ⟨_, rfl, _, rfl, _, _, rfl, rfl, _, rfl, a, _, rfl, Same.seq (Same.trans s2 (Same.trans t1 (Same.trans t2 t3))) ha, fun p4 np4 => ?_⟩
        have e4 : (i : Int) + 1 = ((i + 1 : Nat) : Int) := by omega
        rw [e4, cut_from]
        have t4 := same_upd (o := .lst ((c.map V.int).drop (i + 1))) np4
        refine ⟨p3, p4, _, _, rfl, rfl, t4 _ _ upd_same, upd_same, ?_, fun p5 np5 => ?_⟩
        · rw [List.length_append, List.length_take, List.length_drop, List.length_map]
          exact line_le (by simp; omega)
        have t5 := same_upd (o := .lst ((c.map V.int).take i ++ [V.int (q - c.sum)] ++ (c.map V.int).drop (i + 1))) np5
        -- the pair
        refine ⟨by show 2 ≤ sizeLine; decide, fun p6 np6 => ?_⟩
        have t6 := same_upd (o := .tup [V.int 1, V.ref p5]) np6
        have u5 := Same.trans t1 (Same.trans t2 (Same.trans t3 t4))
        have u6 := Same.trans u5 t5
        have u7 := Same.trans u6 t6
        refine ⟨o, _, _, rfl, rfl, u7 _ _ (st _ _ hl0), ?_, ?_⟩
        · have : l0.length ≤ i := by
            have h1 := congrArg List.length el0
            rw [List.length_map] at h1
            have h2 := oneTo_len q c i
            omega
          rw [List.length_map]
          exact line_of (by omega)
        · refine ⟨hi, ?_, ⟨_, _, rfl⟩, ?_⟩
          · exact SameBut.same (SameBut.trans (same_but (Same.trans s2 u7)) SameBut.upd) no
          · rw [oneTo_yes e1]
            have hs : SameBut o H1 _ := SameBut.trans (same_but (Same.trans st u7)) (SameBut.upd (o := .lst ((l0.map fun x => V.ref x.1) ++ [V.ref p6])))
            refine Objs.add (t := p6) ho hs ?_ ?_
            · have n5 : p5 ≠ o := (ne_of_none (u5 _ _ (st _ _ hl0)) np5).symm
              have n6 : p6 ≠ o := (ne_of_none (u6 _ _ (st _ _ hl0)) np6).symm
              refine ⟨Same.free (Same.trans s2 u6) np6, n6, p5, n5, Same.free (Same.trans s2 u5) np5, ?_, ?_⟩
              · rw [upd_ne n6]
                exact upd_same
              · rw [upd_ne n5]
                refine t6 _ _ ?_
                rw [upd_same, List.map_append, List.map_append, List.map_take, List.map_drop]
                rfl
            · intro xs hxs
              rw [hl0] at hxs
              have := HO.lst.inj (Option.some.inj hxs)
              rw [upd_same, this]
      · refine if_false_of (decide_eq_false fun z => h0 (V.int.inj z)) ?_
        refine ⟨hi, s2, ⟨_, _, rfl⟩, ?_⟩
        rw [oneTo_no (by rw [e1]; exact fun z => h0 (Option.some.inj z))]
        exact ho.mono (fun _ h => st _ _ h) fun _ _ h => h.stay (same_but st)
    · intro σ H1 p
      obtain ⟨_, sm, ⟨y4, y5, rfl⟩, ho⟩ := p
      rw [List.length_map] at ho
      exact ⟨_, rfl, k H1 o sm no ho⟩
/-! ### two_made_up -/
def leftTo (c : List Int) (n : Nat) : List Nat := (List.range n).flatMap fun i => if c[i]? = some 0 then [i] else []
def leftN (c : List Int) : List Nat := leftTo c c.length
theorem leftTo_yes {c : List Int} {n : Nat} (h : c[n]? = some 0) : leftTo c (n + 1) = leftTo c n ++ [n] := by
  unfold leftTo
  rw [List.range_succ, List.flatMap_append, List.flatMap_singleton, if_pos h]
theorem leftTo_no {c : List Int} {n : Nat} (h : ¬ c[n]? = some 0) : leftTo c (n + 1) = leftTo c n := by
  unfold leftTo
  rw [List.range_succ, List.flatMap_append, List.flatMap_singleton, if_neg h, List.append_nil]
theorem leftTo_len (c : List Int) : ∀ n, (leftTo c n).length ≤ n
  | 0 => Nat.le_refl _
  | n + 1 => by
    have ih := leftTo_len c n
    by_cases h : c[n]? = some 0
    · rw [leftTo_yes h, List.length_append]
      simp
      omega
    · rw [leftTo_no h]
      omega
theorem leftTo_mem {c : List Int} {n i : Nat} (h : i ∈ leftTo c n) : i < n ∧ c[i]? = some 0 := by
  unfold leftTo at h
  obtain ⟨j, hj, hi⟩ := List.mem_flatMap.mp h
  have hj := List.mem_range.mp hj
  split at hi
  · rename_i e
    have : i = j := by simpa using hi
    rw [this]
    exact ⟨hj, e⟩
  · cases hi
def twoFor (m mt : Int) (c pr : List Int) (f s : Nat) : List (Int × List Int) :=
  if 0 < pr.getD s 0 - pr.getD f 0 then [(pr.getD s 0 - pr.getD f 0, ((c.map fun x => (pr.getD s 0 - pr.getD f 0) * x).set f (pr.getD s 0 * m - mt)).set s (mt - pr.getD f 0 * m))] else []
def twoM (q tot : Int) (c pr : List Int) : List (Int × List Int) :=
  (leftN c).flatMap fun f => (leftN c).flatMap fun s => twoFor (q - c.sum) (tot - wsum c pr) c pr f s
theorem flatMap_len {α β : Type} {f : α → List β} {k : Nat} (h : ∀ x, (f x).length ≤ k) : ∀ l : List α, (l.flatMap f).length ≤ l.length * k
  | [] => by simp
  | x :: r => by
    have ih := flatMap_len h r
    have := h x
    rw [List.flatMap_cons, List.length_append, List.length_cons, Nat.add_mul]
    omega
theorem twoFor_len (m mt : Int) (c pr : List Int) (f s : Nat) : (twoFor m mt c pr f s).length ≤ 1 := by
  unfold twoFor
  split
  · exact Nat.le_refl _
  · exact Nat.zero_le _
theorem ixN_at {n i : Nat} (h : i < n) : ixN n (i : Int) = some i := by
  unfold ixN
  rw [if_pos (by omega), if_pos (by omega)]
  simp
theorem getD_at {xs : List Int} {i : Nat} (h : i < xs.length) : (xs.map V.int)[i]? = some (.int (xs.getD i 0)) := by
  rw [List.getElem?_map, List.getD_eq_getElem?_getD, List.getElem?_eq_getElem h]
  rfl
theorem map_set (xs : List Int) (i : Nat) (x : Int) : (xs.map V.int).set i (.int x) = (xs.set i x).map V.int := by
  rw [List.map_set]
def sp_two_made_up (K : PySem.W.Frag) : Sp := fun vs H Q _ => ∃ (q tot : Int) (a b : Addr) (c pr : List Int), vs = [.int q, .int tot, .ref a, .ref b] ∧ LI K H a c ∧ LI K H b pr ∧ c.length ≤ 10 ∧ pr.length = c.length ∧ (∀ x ∈ c, Bd x) ∧ (∀ x ∈ pr, 0 ≤ x ∧ x ≤ 99) ∧
  ∀ H' r, Same H H' → H r = none → Objs (IsC H r H') H' r (twoM q tot c pr) → Q (.ref r) H'
theorem ok_two_made_up (T : Txt K mg) : FnOk P w K mg base CX0 2 T.a_two_made_up T.d_two_made_up ["quantity", "total", "corner", "properties"] (sp_two_made_up K) := by
  have G_weighted_sum : FnOk P w K mg base CX0 1 T.a_weighted_sum T.d_weighted_sum ["amounts", "weights"] (sp_weighted_sum K) := ok_weighted_sum T
  refine T.F_two_made_up.ok sc_two_made_up (fun vs H Q E h => ?_) (fun cdv A outer s H vs Q E hr h => ?_)
  · obtain ⟨q, tot, a, b, c, pr, rfl, _⟩ := h
    rfl
  · obtain ⟨q, tot, a, b, c, pr, rfl, ha, hb, hl, hpl, hcb, hpr, k⟩ := h
    have hu := hu_of hr
    refine ⟨_, (pss_cons (ps_set (i := 4) sc_two_made_up.nd rfl (Or.inl rfl) (pe_op op_sub (pv 0) (pe_callB (cr_sum rfl) (by rfl) T.z_sum (by decide +kernel) (pa_cons (pv 2) pa_nil))))
      (pss_cons (ps_set (i := 5) sc_two_made_up.nd rfl (Or.inl rfl) (pe_op op_sub (pv 1) (pe_call G_weighted_sum (hr.mono (by decide)) rfl T.g_weighted_sum T.F_weighted_sum.kp T.b_weighted_sum .nil pass0 (pa_cons (pv 2) (pa_cons (pv 3) pa_nil)))))
      (pss_cons (ps_setLc (i := 6) (own := [("place", 12), ("amount", 13)]) (g := (gTup K 2 (gCons (gName 12) (gCons (gName 13) gNil)))) (tt := _) rfl sc_two_made_up.nd rfl rfl (sw_true rfl rfl rfl (by decide +kernel)) (pi_enum (by rfl) T.z_enumerate (pa_cons (pv 2) pa_nil)) (blkOk_by (own := [("place", 12), ("amount", 13)]) (N := N_two_made_up) (sc := defScope s_two_made_up) (by decide +kernel)) (fun _ _ _ _ _ => (pg_tup rfl (pgs_cons (pg_name (i := 12) sc_two_made_up.nd rfl (Or.inl rfl)) (pgs_cons (pg_name (i := 13) sc_two_made_up.nd rfl (Or.inl rfl)) pgs_nil)))) (fun _ _ _ _ _ => pts_one (pt_cmpR op_eq (pv 13) pe_int (nomark _))) (fun _ _ _ _ _ => (pv 12)))
      (pss_cons (ps_set (i := 7) sc_two_made_up.nd rfl (Or.inl rfl) (pe_lst pa_nil))
      (pss_cons (ps_for PassesOwn.never rfl (pi_list (pv 6)) (pg_name (i := 8) sc_two_made_up.nd rfl (Or.inl rfl)) (pss_one (ps_for PassesOwn.never rfl (pi_list (pv 6)) (pg_name (i := 9) sc_two_made_up.nd rfl (Or.inl rfl)) (pss_cons (ps_set (i := 10) sc_two_made_up.nd rfl (Or.inr rfl) (pe_op op_sub (pe_ix (show IxR _ (rIxL K) from ix_list) (pv 3) (pv 9) (fun _ _ => rfl)) (pe_ix (show IxR _ (rIxL K) from ix_list) (pv 3) (pv 8) (fun _ _ => rfl))))
      (pss_one (ps_if (pt_cmpR op_gt (pv 10) pe_int (nomark _)) (pss_cons (ps_setLc (i := 11) (own := [("amount", 13)]) (g := (gName 13)) (tt := tYes) rfl sc_two_made_up.nd rfl rfl (sw_true rfl rfl rfl (by decide +kernel)) (pi_list (pv 2)) (blkOk_by (own := [("amount", 13)]) (N := N_two_made_up) (sc := defScope s_two_made_up) (by decide +kernel)) (fun _ _ _ _ _ => (pg_name (i := 13) sc_two_made_up.nd rfl (Or.inl rfl))) (fun _ _ _ _ _ => pts_nil) (fun _ _ _ _ _ => (pe_op op_mul (pv 10) (pv 13))))
      (pss_cons (ps_asg (pe_op op_sub (pe_op op_mul (pe_ix (show IxR _ (rIxL K) from ix_list) (pv 3) (pv 9) (fun _ _ => rfl)) (pv 4)) (pv 5)) (pg_sub (pv 11) (pv 8) set_list))
      (pss_cons (ps_asg (pe_op op_sub (pv 5) (pe_op op_mul (pe_ix (show IxR _ (rIxL K) from ix_list) (pv 3) (pv 8) (fun _ _ => rfl)) (pv 4))) (pg_sub (pv 11) (pv 9) set_list))
      (pss_one (ps_expr (pe_bm PySem.F.plainAttrs_list PySem.F.slot_list_append PySem.F.type_list_append mt_append (pv 7) (pa_cons (pe_tup (pa_cons (pv 10) (pa_cons (pv 11) pa_nil))) pa_nil))))))) pss_nil))))))
      (pss_one (ps_ret (pv 7)))))))), ?_⟩
    -- missing, missing_total
    refine ⟨_, rfl, _, rfl, a, c, rfl, ha, q, c.sum, rfl, rfl, ?_⟩
    refine ⟨_, rfl, _, rfl, _, rfl, a, b, c, pr, rfl, ha, hb, by omega, hcb, fun H0 s0 => ⟨tot, wsum c pr, rfl, rfl, ?_⟩⟩
    -- left_out
    refine ⟨_, rfl, a, _, rfl, Same.seq s0 ha, fun lo nlo => ?_⟩
    refine lc_it (walk_enum (xs := c.map V.int)) (fun i H1 => i ≤ c.length ∧ Same H0 H1 ∧ H1 lo = some (.lst ((leftTo c i).map fun (j : Nat) => V.int (j : Int)))) ?_ ?_ ?_ ?_
    · exact ⟨Nat.zero_le _, same_upd nlo, upd_same⟩
    · intro i H1 _ p
      exact Same.seq (Same.trans s0 p.2.1) ha
    · intro i x H1 H2 hi p y
      obtain ⟨_, sm, hlo⟩ := p
      obtain ⟨t, x2, y2, rfl, nt, rfl, f1, f2⟩ := y
      have g1 : x2 = .int (i : Nat) := (Option.some.inj f1).symm
      obtain ⟨n, e1, g2⟩ := map_at f2
      subst g1 g2
      rw [List.length_map] at hi
      have st := same_upd (o := .tup [V.int (i : Nat), V.int n]) nt
      refine ⟨t, _, rfl, .inl (.inl upd_same), rfl, _, _, rfl, _, _, rfl, rfl, rfl, ?_⟩
      refine ⟨_, rfl, rfl, _, rfl, ?_⟩
      by_cases h0 : n = 0
      · subst h0
        refine if_true_of (decide_eq_true rfl) ?_
        refine ⟨_, rfl, _, st _ _ hlo, ?_, hi, ?_, ?_⟩
        · have := leftTo_len c i
          rw [List.length_map]
          exact line_of (by omega)
        · exact SameBut.same (SameBut.trans (same_but (Same.trans sm st)) SameBut.upd) nlo
        · rw [upd_same, leftTo_yes e1, List.map_append]
          rfl
      · refine if_false_of (decide_eq_false fun z => h0 (V.int.inj z)) ?_
        refine ⟨hi, Same.trans sm st, ?_⟩
        rw [leftTo_no (by rw [e1]; exact fun z => h0 (Option.some.inj z))]
        exact st _ _ hlo
    intro H1 p
    obtain ⟨_, s1, hlo⟩ := p
    rw [List.length_map] at hlo
    have hlo : H1 lo = some (.lst ((leftN c).map fun (j : Nat) => V.int (j : Int))) := hlo
    have hLl : (leftN c).length ≤ 10 := Nat.le_trans (leftTo_len c c.length) hl
    have s01 : Same H H1 := Same.trans s0 s1
    -- candidates = []
    refine ⟨Nat.zero_le _, fun o no => ?_⟩
    have so := same_upd (o := .lst []) no
    have nH : H o = none := Same.free s01 no
    have slo : SqL K (upd H1 o (.lst [])) lo ((leftN c).map fun (j : Nat) => V.int (j : Int)) := .inl (.inl (so _ _ hlo))
    obtain ⟨m, hm⟩ : ∃ m, m = q - c.sum := ⟨_, rfl⟩
    obtain ⟨mt, hmt⟩ : ∃ mt, mt = tot - wsum c pr := ⟨_, rfl⟩
    have two : ∀ l : List Nat, ((leftN c).flatMap fun f => (leftN c).flatMap fun s => twoFor m mt c pr f s) = twoM q tot c pr := fun _ => by
      rw [hm, hmt]
      rfl
    refine ⟨_, rfl, lo, rfl, ⟨_, slo⟩, ?_⟩
    refine for_it (walk_list (xs := (leftN c).map fun (j : Nat) => V.int (j : Int))) (fun i σ H2 => i ≤ (leftN c).length ∧ Same H H2 ∧ Same H1 H2 ∧ (∃ y8 y9 y10 y11, σ = [some (.int q), some (.int tot), some (.ref a), some (.ref b), some (.int m), some (.int mt), some (.ref lo), some (.ref o), y8, y9, y10, y11, none, none]) ∧
      Objs (IsC H o H2) H2 o (((leftN c).take i).flatMap fun f => (leftN c).flatMap fun s => twoFor m mt c pr f s)) ?_ ?_ ?_ ?_
    · refine ⟨Nat.zero_le _, Same.trans s01 so, so, ⟨none, none, none, none, ?_⟩, Objs.nil upd_same⟩
      rw [hm, hmt]
      rfl
    · intro i σ H2 _ p
      exact .inl (.inl (p.2.2.1 _ _ hlo))
    · intro i x σ H2 H2' hi p y
      obtain ⟨_, s2, s12, ⟨y8, y9, y10, y11, rfl⟩, ho⟩ := p
      obtain ⟨rfl, e⟩ := y
      rw [List.length_map] at hi
      rw [List.getElem?_map] at e
      obtain ⟨f, ef⟩ : ∃ f, (leftN c)[i]? = some f := ⟨_, List.getElem?_eq_getElem hi⟩
      rw [ef] at e
      have e := Option.some.inj e
      subst e
      obtain ⟨hfl, hf0⟩ := leftTo_mem (List.mem_of_getElem? ef)
      refine ⟨_, rfl, lo, rfl, ⟨_, .inl (.inl (s12 _ _ hlo))⟩, ?_⟩
      refine for_it (walk_list (xs := (leftN c).map fun (j : Nat) => V.int (j : Int))) (fun j σ H3 => j ≤ (leftN c).length ∧ Same H H3 ∧ Same H1 H3 ∧ (∃ y9 y10 y11, σ = [some (.int q), some (.int tot), some (.ref a), some (.ref b), some (.int m), some (.int mt), some (.ref lo), some (.ref o), some (.int (f : Nat)), y9, y10, y11, none, none]) ∧
        Objs (IsC H o H3) H3 o ((((leftN c).take i).flatMap fun f => (leftN c).flatMap fun s => twoFor m mt c pr f s) ++ ((leftN c).take j).flatMap fun s => twoFor m mt c pr f s)) ?_ ?_ ?_ ?_
      · refine ⟨Nat.zero_le _, s2, s12, ⟨y9, y10, y11, rfl⟩, ?_⟩
        rw [List.take_zero, List.flatMap_nil, List.append_nil]
        exact ho
      · intro j σ H3 _ p
        exact .inl (.inl (p.2.2.1 _ _ hlo))
      · intro j x σ H3 H3' hj p y
        obtain ⟨_, s3, s13, ⟨y9, y10, y11, rfl⟩, ho3⟩ := p
        obtain ⟨rfl, e⟩ := y
        rw [List.length_map] at hj
        rw [List.getElem?_map] at e
        obtain ⟨s', es⟩ : ∃ s', (leftN c)[j]? = some s' := ⟨_, List.getElem?_eq_getElem hj⟩
        rw [es] at e
        have e := Option.some.inj e
        subst e
        obtain ⟨hsl, hs0⟩ := leftTo_mem (List.mem_of_getElem? es)
        have pb : LI K H3' b pr := Same.seq s3 hb
        have atf : (pr.map V.int)[f]? = some (.int (pr.getD f 0)) := getD_at (by omega)
        have ats : (pr.map V.int)[s']? = some (.int (pr.getD s' 0)) := getD_at (by omega)
        have pf : 0 ≤ pr.getD f 0 ∧ pr.getD f 0 ≤ 99 := by
          refine hpr _ ?_
          rw [List.getD_eq_getElem?_getD, List.getElem?_eq_getElem (show f < pr.length by omega)]
          exact List.getElem_mem _
        have ps : 0 ≤ pr.getD s' 0 ∧ pr.getD s' 0 ≤ 99 := by
          refine hpr _ ?_
          rw [List.getD_eq_getElem?_getD, List.getElem?_eq_getElem (show s' < pr.length by omega)]
          exact List.getElem_mem _
        have tk : ((leftN c).take (j + 1)).flatMap (fun s => twoFor m mt c pr f s) = (((leftN c).take j).flatMap fun s => twoFor m mt c pr f s) ++ twoFor m mt c pr f s' := by
          rw [take_more es, List.flatMap_append, List.flatMap_singleton]
        obtain ⟨pfv, hpf⟩ : ∃ z, z = pr.getD f 0 := ⟨_, rfl⟩
        obtain ⟨psv, hps⟩ : ∃ z, z = pr.getD s' 0 := ⟨_, rfl⟩
        rw [← hpf] at atf pf
        rw [← hps] at ats ps
        -- den = properties[second] - properties[first]
        refine ⟨_, rfl, _, rfl, b, _, _, _, rfl, rfl, pb, at_of rfl ats, _, rfl, _, rfl, b, _, _, _, rfl, rfl, pb, at_of rfl atf, psv, pfv, rfl, rfl, ?_⟩
        -- if den > 0
        refine ⟨_, rfl, _, _, rfl, rfl, _, rfl, ?_⟩
        by_cases hden : 0 < psv - pfv
        · refine if_true_of (decide_eq_true hden) ?_
          have bden : Bd (psv - pfv) := bd_of (by omega) (by omega)
          -- blend = [den * amount for amount in corner]
          refine ⟨_, rfl, a, rfl, ⟨_, Same.seq s3 ha⟩, fun D hD => ?_⟩
          refine lc_map (walk_list (xs := c.map V.int)) hD ?_ (fun H4 s4 => Same.seq (Same.trans s3 s4) ha) ((c.map fun x => (psv - pfv) * x).map V.int) (by simp) ?_ ?_
          · rw [List.length_map]
            omega
          · intro i2 x H4 H5 z R Z hz s4 y hR
            obtain ⟨rfl, e⟩ := y
            obtain ⟨n, e1, rfl⟩ := map_at e
            have ez : z = .int ((psv - pfv) * n) := by
              rw [List.getElem?_map, List.getElem?_map, e1] at hz
              exact (Option.some.inj hz).symm
            subst ez
            refine ⟨rfl, iteT ?_⟩
            refine ⟨_, rfl, _, rfl, _, _, rfl, rfl, .inl bden, ?_⟩
            exact hR _ (Same.refl _)
          intro H4 s4 hD4
          have pb4 : LI K H4 b pr := Same.seq s4 pb
          have lenb : ((c.map fun x => (psv - pfv) * x).map V.int).length = c.length := by
            rw [List.length_map, List.length_map]
          -- blend[first] = ..
          refine ⟨_, rfl, _, rfl, b, _, _, _, rfl, rfl, pb4, at_of rfl ats, _, rfl, _, _, rfl, rfl, .inl (bd_of (by omega) (by omega)), _, rfl, _, _, rfl, rfl, ?_⟩
          refine ⟨_, rfl, _, rfl, D, _, _, f, rfl, rfl, hD4, by rw [lenb]; exact ixN_at (by omega), ?_⟩
          rw [map_set]
          have sb5 := SameBut.upd (H := H4) (p := D) (o := .lst (((c.map fun x => (psv - pfv) * x).set f (psv * m - mt)).map V.int))
          have s5 : Same H3' _ := SameBut.same (SameBut.trans (same_but s4) sb5) hD
          -- blend[second] = ..
          refine ⟨_, rfl, _, rfl, _, rfl, b, _, _, _, rfl, rfl, Same.seq s5 pb, at_of rfl atf, _, rfl, _, _, rfl, rfl, .inl (bd_of (by omega) (by omega)), _, _, rfl, rfl, ?_⟩
          refine ⟨_, rfl, _, rfl, D, _, _, s', rfl, rfl, upd_same, by rw [List.length_map, List.length_set, List.length_map]; exact ixN_at (by omega), ?_⟩
          rw [map_set, upd_upd]
          have sb6 := SameBut.upd (H := H4) (p := D) (o := .lst ((((c.map fun x => (psv - pfv) * x).set f (psv * m - mt)).set s' (mt - pfv * m)).map V.int))
          have s6 : Same H3' _ := SameBut.same (SameBut.trans (same_but s4) sb6) hD
          obtain ⟨l0, hl0, el0, _⟩ := id ho3
          -- candidates.append((den, blend))
          refine ⟨_, rfl, .inl ⟨rfl, _, .inl (.inl (s6 _ _ hl0))⟩, ?_⟩
          refine ⟨_, rfl, _, rfl, by show 2 ≤ sizeLine; decide, fun t nt => ?_⟩
          have st := same_upd (o := .tup [V.int (psv - pfv), V.ref D]) nt
          have s7 := Same.trans s6 st
          refine ⟨o, _, _, rfl, rfl, s7 _ _ hl0, ?_, ?_⟩
          · have h1 := congrArg List.length el0
            rw [List.length_map, List.length_append] at h1
            have h2 := flatMap_len (f := fun s => twoFor m mt c pr f s) (k := 1) (fun s => twoFor_len _ _ _ _ _ _) ((leftN c).take j)
            have h3 := flatMap_len (f := fun f => (leftN c).flatMap fun s => twoFor m mt c pr f s) (k := 10) (fun f => Nat.le_trans (flatMap_len (k := 1) (fun s => twoFor_len _ _ _ _ _ _) (leftN c)) (by omega)) ((leftN c).take i)
            rw [List.length_take] at h2 h3
            have h4 : min i (leftN c).length * 10 ≤ 100 := by omega
            rw [List.length_map]
            exact line_of (by omega)
          · refine ⟨hj, ?_, ?_, ⟨_, _, _, rfl⟩, ?_⟩
            · exact SameBut.same (SameBut.trans (same_but (Same.trans s3 s7)) SameBut.upd) nH
            · exact SameBut.same (SameBut.trans (same_but (Same.trans s13 s7)) SameBut.upd) no
            · rw [tk, ← List.append_assoc]
              have ew : twoFor m mt c pr f s' = [(psv - pfv, ((c.map fun x => (psv - pfv) * x).set f (psv * m - mt)).set s' (mt - pfv * m))] := by
                unfold twoFor
                rw [← hpf, ← hps, if_pos hden]
              rw [ew]
              have hs : SameBut o H3' _ := SameBut.trans (same_but s7) (SameBut.upd (o := .lst ((l0.map fun x => V.ref x.1) ++ [V.ref t])))
              refine Objs.add (t := t) ho3 hs ?_ ?_
              · have nD : D ≠ o := (ne_of_none hl0 hD).symm
                have n6 : t ≠ o := (ne_of_none (s6 _ _ hl0) nt).symm
                refine ⟨Same.free (Same.trans s3 s6) nt, n6, D, nD, Same.free s3 hD, ?_, ?_⟩
                · rw [upd_ne n6]
                  exact upd_same
                · rw [upd_ne nD]
                  exact st _ _ upd_same
              · intro xs hxs
                rw [hl0] at hxs
                have := HO.lst.inj (Option.some.inj hxs)
                rw [upd_same, this]
        · refine if_false_of (decide_eq_false hden) ?_
          refine ⟨hj, s3, s13, ⟨_, _, _, rfl⟩, ?_⟩
          have ew : twoFor m mt c pr f s' = [] := by
            unfold twoFor
            rw [← hpf, ← hps, if_neg hden]
          rw [tk, ew, List.append_nil]
          exact ho3
      · intro σ H3 p
        obtain ⟨_, s3, s13, ⟨y9, y10, y11, rfl⟩, ho3⟩ := p
        rw [List.length_map, List.take_length] at ho3
        refine ⟨hi, s3, s13, ⟨_, _, _, _, rfl⟩, ?_⟩
        rw [take_more ef, List.flatMap_append, List.flatMap_singleton]
        exact ho3
    · intro σ H2 p
      obtain ⟨_, s2, s12, ⟨y8, y9, y10, y11, rfl⟩, ho⟩ := p
      rw [List.length_map, List.take_length, two []] at ho
      exact ⟨_, rfl, k H2 o s2 nH ho⟩
/-! ### what is known of corners and candidates -/
theorem corner_mem : ∀ {av c : List Int} (i : Nat), i ≤ av.length → (c ∈ cornersM (av.take i) ↔ c.length = i ∧ ∀ j, j < i → c[j]? = some 0 ∨ c[j]? = av[j]?)
  | av, c, 0, _ => by
    rw [List.take_zero]
    constructor
    · intro h
      have : c = [] := by simpa [cornersM] using h
      rw [this]
      exact ⟨rfl, fun j hj => absurd hj (by omega)⟩
    · rintro ⟨h, _⟩
      rw [List.eq_nil_of_length_eq_zero h]
      simp [cornersM]
  | av, c, i + 1, h => by
    have e : av[i]? = some av[i] := List.getElem?_eq_getElem (by omega)
    rw [cornersM_more e]
    unfold cornerStep
    rw [List.mem_append, List.mem_map, List.mem_map]
    constructor
    · rintro (⟨c', hc', rfl⟩ | ⟨c', hc', rfl⟩) <;>
      · obtain ⟨h1, h2⟩ := (corner_mem i (by omega)).mp hc'
        refine ⟨by rw [List.length_append, h1]; rfl, fun j hj => ?_⟩
        by_cases hj2 : j < i
        · rw [List.getElem?_append_left (by omega)]
          exact h2 j hj2
        · have : j = i := by omega
          subst this
          rw [List.getElem?_append_right (by omega), h1, Nat.sub_self]
          first | exact .inl rfl | (rw [e]; exact .inr rfl)
    · rintro ⟨h1, h2⟩
      have hc : c = c.dropLast ++ [c[i]] := by
        have hne : c ≠ [] := fun z => by rw [z] at h1; simp at h1
        have := (List.dropLast_concat_getLast hne).symm
        rw [List.getLast_eq_getElem] at this
        have h3 : c.length - 1 = i := by omega
        simp only [h3] at this
        exact this
      have hd : c.dropLast ∈ cornersM (av.take i) := by
        refine (corner_mem i (by omega)).mpr ⟨by rw [List.length_dropLast, h1]; rfl, fun j hj => ?_⟩
        have := h2 j (by omega)
        rw [List.getElem?_dropLast, if_pos (by omega)]
        exact this
      have hl := h2 i (by omega)
      rw [List.getElem?_eq_getElem (show i < c.length by omega), e] at hl
      rcases hl with hl | hl
      · refine .inl ⟨_, hd, ?_⟩
        rw [← Option.some.inj hl]
        exact hc.symm
      · refine .inr ⟨_, hd, ?_⟩
        rw [← Option.some.inj hl]
        exact hc.symm
theorem mem_corners {av c : List Int} : c ∈ cornersM av ↔ c.length = av.length ∧ ∀ j, j < av.length → c[j]? = some 0 ∨ c[j]? = av[j]? := by
  have := corner_mem (av := av) (c := c) av.length (Nat.le_refl _)
  rw [List.take_length] at this
  exact this
theorem corner_bd {av c : List Int} (h : c ∈ cornersM av) (hb : ∀ x ∈ av, 0 ≤ x ∧ x ≤ 99) : ∀ x ∈ c, 0 ≤ x ∧ x ≤ 99 := fun x hx => by
  obtain ⟨h1, h2⟩ := mem_corners.mp h
  obtain ⟨j, hj⟩ := List.mem_iff_getElem?.mp hx
  have hjl : j < c.length := (List.getElem?_eq_some_iff.mp hj).1
  rcases h2 j (by omega) with e | e
  · rw [hj] at e
    have := Option.some.inj e
    omega
  · rw [hj] at e
    exact hb x (List.mem_of_getElem? e.symm)
def candFor (q lo hi : Int) (pr c : List Int) : List (Int × List Int) := ((1, c) :: oneM q c) ++ [lo, hi].flatMap fun b => twoM q (b * q) c pr
def candM (q lo hi : Int) (av pr : List Int) : List (Int × List Int) := (cornersM av).flatMap (candFor q lo hi pr)
theorem sum_bd : ∀ {c : List Int}, (∀ x ∈ c, 0 ≤ x ∧ x ≤ 99) → 0 ≤ c.sum ∧ c.sum ≤ 99 * (c.length : Int)
  | [], _ => by simp
  | x :: r, h => by
    have ih := sum_bd (c := r) fun z hz => h z (List.mem_cons_of_mem _ hz)
    have := h x List.mem_cons_self
    rw [List.sum_cons, List.length_cons]
    omega
theorem wsum_bd : ∀ {c pr : List Int}, (∀ x ∈ c, 0 ≤ x ∧ x ≤ 99) → (∀ x ∈ pr, 0 ≤ x ∧ x ≤ 99) → 0 ≤ wsum c pr ∧ wsum c pr ≤ 9801 * (c.length : Int)
  | [], _, _, _ => by simp [wsum]
  | x :: c, [], _, _ => by
    simp [wsum]
    omega
  | x :: c, y :: pr, h1, h2 => by
    have ih := wsum_bd (c := c) (pr := pr) (fun z hz => h1 z (List.mem_cons_of_mem _ hz)) fun z hz => h2 z (List.mem_cons_of_mem _ hz)
    have hx := h1 x List.mem_cons_self
    have hy := h2 y List.mem_cons_self
    have m0 := Int.mul_nonneg hx.1 hy.1
    have m1 : x * y ≤ 99 * 99 := Int.mul_le_mul hx.2 hy.2 hy.1 (by decide)
    unfold wsum at ih ⊢
    rw [List.zipWith_cons_cons, List.sum_cons, List.length_cons]
    omega
theorem mul_bd {x y a b : Int} (h1 : -a ≤ x) (h2 : x ≤ a) (h3 : -b ≤ y) (h4 : y ≤ b) (ha : 0 ≤ a) : -(a * b) ≤ x * y ∧ x * y ≤ a * b := by
  have n1 : (x * y).natAbs ≤ a.natAbs * b.natAbs := by
    rw [Int.natAbs_mul]
    exact Nat.mul_le_mul (by omega) (by omega)
  have n2 : ((a.natAbs * b.natAbs : Nat) : Int) = a * b := by
    rw [Int.natCast_mul]
    have e1 : (a.natAbs : Int) = a := by omega
    have e2 : (b.natAbs : Int) = b := by omega
    rw [e1, e2]
  omega
/-- of each candidate: a denominator from 1 to 99, as many amounts as components, none great -/
def CandOk (n : Nat) (x : Int × List Int) : Prop := 1 ≤ x.1 ∧ x.1 ≤ 99 ∧ x.2.length = n ∧ ∀ y ∈ x.2, -1000000000 ≤ y ∧ y ≤ 1000000000
theorem mem_set {xs : List Int} {i : Nat} {v y : Int} (h : y ∈ xs.set i v) : y ∈ xs ∨ y = v := by
  obtain h := List.mem_or_eq_of_mem_set h
  exact h
theorem cand_ok {q lo hi : Int} {av pr : List Int} (hq : 0 ≤ q ∧ q ≤ 99) (hlo : 0 ≤ lo ∧ lo ≤ 99) (hhi : 0 ≤ hi ∧ hi ≤ 99) (ha : ∀ x ∈ av, 0 ≤ x ∧ x ≤ 99) (hp : ∀ x ∈ pr, 0 ≤ x ∧ x ≤ 99) (hl : av.length ≤ 4) (hpl : pr.length = av.length) :
    ∀ x ∈ candM q lo hi av pr, CandOk av.length x := fun x hx => by
  unfold candM at hx
  obtain ⟨c, hc, hx⟩ := List.mem_flatMap.mp hx
  have cb := corner_bd hc ha
  have cl := (mem_corners.mp hc).1
  have sb := sum_bd cb
  have wb := wsum_bd cb hp
  unfold candFor at hx
  rcases List.mem_append.mp hx with hx | hx
  · rcases List.mem_cons.mp hx with rfl | hx
    · exact ⟨(by show (1 : Int) ≤ 1; decide), (by show (1 : Int) ≤ 99; decide), cl, fun y hy => by have := cb y hy; omega⟩
    · unfold oneM oneTo at hx
      obtain ⟨i, hi, hx⟩ := List.mem_flatMap.mp hx
      have hi := List.mem_range.mp hi
      split at hx
      · have hx : x = ((1 : Int), c.take i ++ [q - c.sum] ++ c.drop (i + 1)) := by simpa using hx
        rw [hx]
        refine ⟨(by show (1 : Int) ≤ 1; decide), (by show (1 : Int) ≤ 99; decide), ?_, fun y hy => ?_⟩
        · show (c.take i ++ [q - c.sum] ++ c.drop (i + 1)).length = _
          rw [List.length_append, List.length_append, List.length_take, List.length_drop]
          simp
          omega
        · have hy : y ∈ c.take i ++ [q - c.sum] ++ c.drop (i + 1) := hy
          rcases List.mem_append.mp hy with hy | hy
          · rcases List.mem_append.mp hy with hy | hy
            · have := cb y (List.mem_of_mem_take hy)
              omega
            · have : y = q - c.sum := by simpa using hy
              omega
          · have := cb y (List.mem_of_mem_drop hy)
            omega
      · cases hx
  · obtain ⟨b, hb, hx⟩ := List.mem_flatMap.mp hx
    have hb : 0 ≤ b ∧ b ≤ 99 := by
      rcases List.mem_cons.mp hb with rfl | hb
      · exact hlo
      · have : b = hi := by simpa using hb
        rw [this]
        exact hhi
    have bq := mul_bd (x := b) (y := q) (a := 99) (b := 99) (by omega) (by omega) (by omega) (by omega) (by decide)
    unfold twoM at hx
    obtain ⟨f, hf, hx⟩ := List.mem_flatMap.mp hx
    obtain ⟨s, hs, hx⟩ := List.mem_flatMap.mp hx
    have hf := (leftTo_mem hf).1
    have hs := (leftTo_mem hs).1
    have pf : 0 ≤ pr.getD f 0 ∧ pr.getD f 0 ≤ 99 := by
      refine hp _ ?_
      rw [List.getD_eq_getElem?_getD, List.getElem?_eq_getElem (show f < pr.length by omega)]
      exact List.getElem_mem _
    have ps : 0 ≤ pr.getD s 0 ∧ pr.getD s 0 ≤ 99 := by
      refine hp _ ?_
      rw [List.getD_eq_getElem?_getD, List.getElem?_eq_getElem (show s < pr.length by omega)]
      exact List.getElem_mem _
    unfold twoFor at hx
    split at hx
    · rename_i hden
      have hx : x = _ := List.mem_singleton.mp hx
      rw [hx]
      refine ⟨by show (1 : Int) ≤ _ - _; omega, by show (_ - _ : Int) ≤ 99; omega, ?_, fun y hy => ?_⟩
      · show (List.set (List.set _ _ _) _ _).length = _
        rw [List.length_set, List.length_set, List.length_map]
        exact cl
      · have m1 := mul_bd (x := pr.getD s 0) (y := q - c.sum) (a := 99) (b := 1000) (by omega) (by omega) (by omega) (by omega) (by decide)
        have m2 := mul_bd (x := pr.getD f 0) (y := q - c.sum) (a := 99) (b := 1000) (by omega) (by omega) (by omega) (by omega) (by decide)
        rcases mem_set hy with hy | hy
        · rcases mem_set hy with hy | hy
          · obtain ⟨z, hz, rfl⟩ := List.mem_map.mp hy
            have := cb z hz
            have m3 := mul_bd (x := pr.getD s 0 - pr.getD f 0) (y := z) (a := 99) (b := 99) (by omega) (by omega) (by omega) (by omega) (by decide)
            omega
          · omega
        · omega
    · cases hx
theorem candFor_len {q lo hi : Int} {pr c : List Int} (h : c.length ≤ 4) : (candFor q lo hi pr c).length ≤ 37 := by
  have h1 : (oneM q c).length ≤ c.length := oneTo_len q c c.length
  have two : ∀ b : Int, (twoM q (b * q) c pr).length ≤ 16 := fun b => by
    have hL : (leftN c).length ≤ 4 := Nat.le_trans (leftTo_len c c.length) h
    have h2 := flatMap_len (f := fun f => (leftN c).flatMap fun s => twoFor (q - c.sum) (b * q - wsum c pr) c pr f s) (k := 4) (fun f => Nat.le_trans (flatMap_len (k := 1) (fun s => twoFor_len _ _ _ _ _ _) (leftN c)) (by omega)) (leftN c)
    exact Nat.le_trans h2 (by omega)
  have h2 := flatMap_len (f := fun b => twoM q (b * q) c pr) (k := 16) two [lo, hi]
  unfold candFor
  rw [List.length_append, List.length_cons]
  have : ([lo, hi] : List Int).length = 2 := rfl
  omega
/-! ### basic_candidates -/
/-- the objects of another list put to the list's end -/
theorem Objs.cat {F : Hp} {o r : Addr} {H1 H2 : Hp} {L L2 : List (Int × List Int)} {l1 l2 : List (Addr × Int × List Int)} (h1 : H1 o = some (.lst (l1.map fun x => V.ref x.1))) (e1 : l1.map (·.2) = L) (r1 : ∀ x ∈ l1, IsC F o H1 x.1 x.2)
    (hF : Same F H1) (s : Same H1 H2) (e2 : l2.map (·.2) = L2) (r2 : ∀ x ∈ l2, IsC H1 r H2 x.1 x.2) :
    Objs (IsC F o (upd H2 o (.lst ((l1.map fun x => V.ref x.1) ++ (l2.map fun x => V.ref x.1))))) (upd H2 o (.lst ((l1.map fun x => V.ref x.1) ++ (l2.map fun x => V.ref x.1)))) o (L ++ L2) := by
  refine ⟨l1 ++ l2, ?_, ?_, ?_⟩
  · rw [upd_same, List.map_append]
  · rw [List.map_append, e1, e2]
  · intro x hx
    rcases List.mem_append.mp hx with hx | hx
    · exact (r1 x hx).stay (SameBut.trans (same_but s) SameBut.upd)
    · obtain ⟨q1, q2, b, q3, q4, q5, q6⟩ := r2 x hx
      have n1 : x.1 ≠ o := (ne_of_none h1 q1).symm
      have n2 : b ≠ o := (ne_of_none h1 q4).symm
      exact ⟨Same.free hF q1, n1, b, n2, Same.free hF q4, by rw [upd_ne n1]; exact q5, by rw [upd_ne n2]; exact q6⟩
def sp_basic_candidates (K : PySem.W.Frag) : Sp := fun vs H Q _ => ∃ (q lo hi : Int) (a : Addr) (ns av pr : List Int), vs = [.int q, .int lo, .int hi, .ref a] ∧ LI K H a ns ∧ av = pk 0 ns ∧ pr = pk 2 ns ∧ av.length ≤ 4 ∧ pr.length = av.length ∧
  (∀ x ∈ av, 0 ≤ x ∧ x ≤ 99) ∧ (∀ x ∈ pr, 0 ≤ x ∧ x ≤ 99) ∧ Bd lo ∧ Bd hi ∧
  ∀ H' r, Same H H' → H r = none → Objs (IsC H r H') H' r (candM q lo hi av pr) → Q (.ref r) H'
theorem ok_basic_candidates (T : Txt K mg) : FnOk P w K mg base CX0 3 T.a_basic_candidates T.d_basic_candidates ["quantity", "low", "high", "components"] (sp_basic_candidates K) := by
  have G_corners : FnOk P w K mg base CX0 1 T.a_corners T.d_corners ["available"] (sp_corners K) := ok_corners T
  have G_one_made_up : FnOk P w K mg base CX0 1 T.a_one_made_up T.d_one_made_up ["quantity", "corner"] (sp_one_made_up K) := ok_one_made_up T
  have G_two_made_up : FnOk P w K mg base CX0 2 T.a_two_made_up T.d_two_made_up ["quantity", "total", "corner", "properties"] (sp_two_made_up K) := ok_two_made_up T
  refine T.F_basic_candidates.ok sc_basic_candidates (fun vs H Q E h => ?_) (fun cdv A outer s H vs Q E hr h => ?_)
  · obtain ⟨q, lo, hi, a, ns, av, pr, rfl, _⟩ := h
    rfl
  · obtain ⟨q, lo, hi, a, ns, av, pr, rfl, ha, hav, hpr, hl, hpl, hab, hpb, blo, bhi, k⟩ := h
    have hu := hu_of hr
    refine ⟨_, (pss_cons (ps_set (i := 4) sc_basic_candidates.nd rfl (Or.inl rfl) (pe_slice3 (pv 3) (po_some pe_int) po_none (po_some pe_int)))
      (pss_cons (ps_set (i := 5) sc_basic_candidates.nd rfl (Or.inl rfl) (pe_lst pa_nil))
      (pss_cons (ps_for PassesOwn.never rfl (pi_list (pe_call G_corners (hr.mono (by decide)) rfl T.g_corners T.F_corners.kp T.b_corners .nil pass0 (pa_cons (pe_slice3 (pv 3) (po_some pe_int) po_none (po_some pe_int)) pa_nil))) (pg_name (i := 6) sc_basic_candidates.nd rfl (Or.inl rfl)) (pss_cons (ps_expr (pe_bm PySem.F.plainAttrs_list PySem.F.slot_list_append PySem.F.type_list_append mt_append (pv 5) (pa_cons (pe_tup (pa_cons pe_int (pa_cons (pv 6) pa_nil))) pa_nil)))
      (pss_cons (ps_expr (pe_bm PySem.F.plainAttrs_list PySem.F.slot_list_extend PySem.F.type_list_extend mt_extend (pv 5) (pa_cons (pe_call G_one_made_up (hr.mono (by decide)) rfl T.g_one_made_up T.F_one_made_up.kp T.b_one_made_up .nil pass0 (pa_cons (pv 0) (pa_cons (pv 6) pa_nil))) pa_nil)))
      (pss_one (ps_for PassesOwn.never rfl (pi_tup (pe_tup (pa_cons (pv 1) (pa_cons (pv 2) pa_nil)))) (pg_name (i := 7) sc_basic_candidates.nd rfl (Or.inl rfl)) (pss_one (ps_expr (pe_bm PySem.F.plainAttrs_list PySem.F.slot_list_extend PySem.F.type_list_extend mt_extend (pv 5) (pa_cons (pe_call G_two_made_up (hr.mono (by decide)) rfl T.g_two_made_up T.F_two_made_up.kp T.b_two_made_up .nil pass0 (pa_cons (pv 0) (pa_cons (pe_op op_mul (pv 7) (pv 0)) (pa_cons (pv 6) (pa_cons (pv 4) pa_nil))))) pa_nil)))))))))
      (pss_one (ps_ret (pv 5)))))), ?_⟩
    -- properties
    refine ⟨_, rfl, 2, rfl, 3, rfl, a, _, rfl, ha, by decide, fun p np => ?_⟩
    rw [pickV_map, show pickNums ns (some 2) none (some 3) = pr from hpr.symm]
    have sp := same_upd (o := .lst (pr.map V.int)) np
    have hp0 : upd H p (.lst (pr.map V.int)) p = some (.lst (pr.map V.int)) := upd_same
    generalize upd H p (.lst (pr.map V.int)) = H1 at *
    -- candidates = []
    refine ⟨Nat.zero_le _, fun o no => ?_⟩
    have so := same_upd (o := .lst []) no
    have hoo : upd H1 o (.lst []) o = some (.lst []) := upd_same
    have nH : H o = none := Same.free sp no
    generalize upd H1 o (.lst []) = H2 at *
    have s02 : Same H H2 := Same.trans sp so
    -- corners(components[0::3])
    refine ⟨_, rfl, 0, rfl, 3, rfl, a, _, rfl, Same.seq s02 ha, by decide, fun z nz => ?_⟩
    rw [pickV_map, show pickNums ns (some 0) none (some 3) = av from hav.symm]
    have sz := same_upd (o := .lst (av.map V.int)) nz
    refine ⟨z, av, rfl, .inl (.inl upd_same), by omega, fun H3 r s3 nr ho => ?_⟩
    have sz3 : Same H2 H3 := Same.trans sz s3
    have s03 : Same H H3 := Same.trans s02 sz3
    obtain ⟨l, hlr, hle, hlx⟩ := ho
    refine ⟨r, rfl, ⟨_, .inl (.inl hlr)⟩, ?_⟩
    have hor : o ≠ r := ne_of_none (sz _ _ hoo) nr
    have csz := (cornersM_size av av.length (Nat.le_refl _) (by omega)).2.1
    rw [List.take_length] at csz
    have csz : (cornersM av).length ≤ 16 := by
      rw [csz]
      exact Nat.le_trans (Nat.pow_le_pow_right (by decide) hl) (by decide)
    have hll : l.length = (cornersM av).length := by rw [← hle, List.length_map]
    refine for_it (walk_list (xs := l.map fun x => V.ref x.1)) (fun i σ H4 => i ≤ l.length ∧ Same H H4 ∧ SameBut o H3 H4 ∧ (∃ y6 y7, σ = [some (.int q), some (.int lo), some (.int hi), some (.ref a), some (.ref p), some (.ref o), y6, y7]) ∧
      Objs (IsC H o H4) H4 o (((cornersM av).take i).flatMap (candFor q lo hi pr))) ?_ ?_ ?_ ?_
    · exact ⟨Nat.zero_le _, s03, fun _ _ _ h => h, ⟨none, none, rfl⟩, Objs.nil (sz3 _ _ hoo)⟩
    · intro i σ H4 _ p4
      exact .inl (.inl (p4.2.2.1 _ _ hor.symm hlr))
    · intro i x σ H4 H4' hi4 p4 y
      obtain ⟨_, s4, sb4, ⟨y6, y7, rfl⟩, ho4⟩ := p4
      obtain ⟨rfl, e⟩ := y
      obtain ⟨x, e2, rfl⟩ := objs_at e
      rw [List.length_map] at hi4
      obtain ⟨x1, x2⟩ := hlx x (List.mem_of_getElem? e2)
      have xo : x.1 ≠ o := (ne_of_none (sz _ _ hoo) x1).symm
      have x2' : H4' x.1 = some (.lst (x.2.map V.int)) := sb4 _ _ xo x2
      have ec : (cornersM av)[i]? = some x.2 := by
        rw [← hle, List.getElem?_map, e2]
        rfl
      have xmem : x.2 ∈ cornersM av := List.mem_of_getElem? ec
      have cl := (mem_corners.mp xmem).1
      have cb := corner_bd xmem hab
      obtain ⟨l4, hl4, el4, rl4⟩ := id ho4
      have l4n : l4.length ≤ 16 * 37 := by
        have h1 := congrArg List.length el4
        rw [List.length_map] at h1
        have h2 := flatMap_len (f := fun c : List Int => if c.length ≤ 4 then candFor q lo hi pr c else []) (k := 37) (fun c => by
          split
          · rename_i hc
            exact candFor_len hc
          · exact Nat.zero_le _) ((cornersM av).take i)
        have h3 : ((cornersM av).take i).flatMap (fun c : List Int => if c.length ≤ 4 then candFor q lo hi pr c else []) = ((cornersM av).take i).flatMap (candFor q lo hi pr) := by
          rw [List.flatMap_def, List.flatMap_def]
          congr 1
          refine List.map_congr_left fun c hc => ?_
          have := (mem_corners.mp (List.mem_of_mem_take hc)).1
          rw [if_pos (by omega)]
        rw [h3, List.length_take] at h2
        omega
      -- candidates.append((1, corner))
      refine ⟨_, rfl, .inl ⟨rfl, _, .inl (.inl hl4)⟩, ?_⟩
      refine ⟨_, rfl, (by show 2 ≤ sizeLine; decide), fun t nt => ?_⟩
      have st := same_upd (o := .tup [V.int 1, V.ref x.1]) nt
      have tn : t ≠ o := (ne_of_none hl4 nt).symm
      refine ⟨o, _, _, rfl, rfl, st _ _ hl4, by rw [List.length_map]; exact line_of (by omega), ?_⟩
      have ho5 : Objs (IsC H o _) _ o (((cornersM av).take i).flatMap (candFor q lo hi pr) ++ [(1, x.2)]) :=
        Objs.add (t := t) ho4 (SameBut.trans (same_but st) (SameBut.upd (o := .lst ((l4.map fun x => V.ref x.1) ++ [V.ref t])))) (by
          refine ⟨Same.free s4 nt, tn, x.1, xo, Same.free s02 (Same.free sz x1), ?_, ?_⟩
          · rw [upd_ne tn]
            exact upd_same
          · rw [upd_ne xo]
            exact st _ _ x2') (fun xs hxs => by
          rw [hl4] at hxs
          have := HO.lst.inj (Option.some.inj hxs)
          rw [upd_same, this])
      have s5 : Same H _ := SameBut.same (SameBut.trans (same_but (Same.trans s4 st)) (SameBut.upd (o := .lst ((l4.map fun x => V.ref x.1) ++ [V.ref t])))) nH
      have sb5 : SameBut o H4' _ := SameBut.trans (same_but st) (SameBut.upd (o := .lst ((l4.map fun x => V.ref x.1) ++ [V.ref t])))
      generalize upd (upd H4' t (.tup [V.int 1, V.ref x.1])) o (.lst ((l4.map fun x => V.ref x.1) ++ [V.ref t])) = H5 at *
      have x5 := sb5 _ _ xo x2'
      obtain ⟨l5, hl5, el5, rl5⟩ := id ho5
      have l5n : l5.length = l4.length + 1 := by
        have h1 := congrArg List.length el5
        have h2 := congrArg List.length el4
        rw [List.length_map] at h1 h2
        rw [h1, List.length_append, ← h2]
        rfl
      -- candidates.extend(one_made_up(quantity, corner))
      refine ⟨_, rfl, .inl ⟨rfl, _, .inl (.inl hl5)⟩, ?_⟩
      refine ⟨_, rfl, _, rfl, q, x.1, x.2, rfl, .inl (.inl x5), by omega, fun H6 r6 s6 nr6 ho6 => ?_⟩
      obtain ⟨l6, hl6, el6, rl6⟩ := ho6
      have l6n : l6.length ≤ 4 := by
        have h1 := congrArg List.length el6
        rw [List.length_map] at h1
        have h2 := oneTo_len q x.2 x.2.length
        have h3 : (oneM q x.2).length = (oneTo q x.2 x.2.length).length := rfl
        omega
      refine ⟨o, r6, _, _, rfl, rfl, s6 _ _ hl5, hl6, ?_, ?_⟩
      · rw [List.length_map, List.length_map]
        exact line_le (by omega)
      have ho7 := Objs.cat hl5 el5 rl5 s5 s6 el6 rl6
      have s7 : Same H _ := SameBut.same (SameBut.trans (same_but (Same.trans s5 s6)) (SameBut.upd (o := .lst ((l5.map fun x => V.ref x.1) ++ (l6.map fun x => V.ref x.1))))) nH
      have sb7 : SameBut o H4' _ := SameBut.trans (SameBut.trans sb5 (same_but s6)) (SameBut.upd (o := .lst ((l5.map fun x => V.ref x.1) ++ (l6.map fun x => V.ref x.1))))
      have ok7 : upd H6 o (.lst ((l5.map fun x => V.ref x.1) ++ (l6.map fun x => V.ref x.1))) o = some (.lst ((l5 ++ l6).map fun x => V.ref x.1)) := by
        rw [upd_same, List.map_append]
      generalize upd H6 o (.lst ((l5.map fun x => V.ref x.1) ++ (l6.map fun x => V.ref x.1))) = H7 at *
      -- for bound in (low, high)
      refine ⟨_, rfl, _, rfl, (by show 2 ≤ sizeLine; decide), fun u nu => ?_⟩
      have su := same_upd (o := .tup [V.int lo, V.int hi]) nu
      have hut : upd H7 u (.tup [V.int lo, V.int hi]) u = some (.tup [V.int lo, V.int hi]) := upd_same
      have uo : u ≠ o := (ne_of_none ok7 nu).symm
      refine ⟨u, rfl, ⟨_, .inl (.inl upd_same)⟩, ?_⟩
      generalize upd H7 u (.tup [V.int lo, V.int hi]) = H8 at *
      refine for_it (walk_tup (xs := [V.int lo, V.int hi])) (fun j σ H9 => j ≤ 2 ∧ Same H H9 ∧ SameBut o H8 H9 ∧ (∃ y7, σ = [some (.int q), some (.int lo), some (.int hi), some (.ref a), some (.ref p), some (.ref o), some (.ref x.1), y7]) ∧
        Objs (IsC H o H9) H9 o ((((cornersM av).take i).flatMap (candFor q lo hi pr) ++ [(1, x.2)] ++ oneM q x.2) ++ (([lo, hi] : List Int).take j).flatMap fun b => twoM q (b * q) x.2 pr)) ?_ ?_ ?_ ?_
      · refine ⟨Nat.zero_le _, Same.trans s7 su, fun _ _ _ h => h, ⟨y7, rfl⟩, ?_⟩
        rw [List.take_zero, List.flatMap_nil, List.append_nil]
        exact ho7.mono (fun _ h => su _ _ h) fun _ _ h => h.stay (same_but su)
      · intro j σ H9 _ p9
        exact .inl (.inl (p9.2.2.1 _ _ uo hut))
      · intro j v σ H9 H9' hj p9 y9
        obtain ⟨_, s9, sb9, ⟨y7', rfl⟩, ho9⟩ := p9
        obtain ⟨rfl, ev⟩ := y9
        obtain ⟨b, eb, rfl⟩ : ∃ b, ([lo, hi] : List Int)[j]? = some b ∧ v = .int b := by
          have : ([lo, hi].map V.int)[j]? = some v := ev
          exact map_at this
        have bb : Bd b := by
          rcases List.mem_cons.mp (List.mem_of_getElem? eb) with rfl | h
          · exact blo
          · have : b = hi := by simpa using h
            rw [this]
            exact bhi
        have x9 : H9' x.1 = some (.lst (x.2.map V.int)) := sb9 _ _ xo (su _ _ (sb7 _ _ xo x2'))
        have p9' : LI K H9' p pr := by
          refine .inl (.inl ?_)
          have po : p ≠ o := ne_of_none hp0 no
          exact sb9 _ _ po (su _ _ (sb7 _ _ po (sb4 _ _ po (sz3 _ _ (so _ _ hp0)))))
        obtain ⟨l9, hl9, el9, rl9⟩ := id ho9
        have l9n : l9.length ≤ 16 * 37 + 1 + 4 + 32 := by
          have h1 := congrArg List.length el9
          rw [List.length_map] at h1
          have hL : (leftN x.2).length ≤ 4 := Nat.le_trans (leftTo_len x.2 x.2.length) (by omega)
          have two : ∀ b : Int, (twoM q (b * q) x.2 pr).length ≤ 16 := fun b => by
            have h2 := flatMap_len (f := fun f => (leftN x.2).flatMap fun s => twoFor (q - x.2.sum) (b * q - wsum x.2 pr) x.2 pr f s) (k := 4) (fun f => Nat.le_trans (flatMap_len (k := 1) (fun s => twoFor_len _ _ _ _ _ _) (leftN x.2)) (by omega)) (leftN x.2)
            exact Nat.le_trans h2 (by omega)
          have h2 := flatMap_len (f := fun b => twoM q (b * q) x.2 pr) (k := 16) two (([lo, hi] : List Int).take j)
          have h3 : (([lo, hi] : List Int).take j).length ≤ 2 := by
            rw [List.length_take]
            exact Nat.min_le_right _ _
          have h4 := congrArg List.length el4
          have h5 := oneTo_len q x.2 x.2.length
          have h6 : (oneM q x.2).length = (oneTo q x.2 x.2.length).length := rfl
          rw [List.length_map] at h4
          rw [List.length_append, List.length_append, List.length_append, ← h4] at h1
          have h7 : ([((1 : Int), x.2)]).length = 1 := rfl
          omega
        -- candidates.extend(two_made_up(quantity, bound * quantity, corner, properties))
        refine ⟨_, rfl, .inl ⟨rfl, _, .inl (.inl hl9)⟩, ?_⟩
        refine ⟨_, rfl, _, rfl, _, rfl, _, _, rfl, rfl, .inl bb, _, rfl, _, rfl, q, b * q, x.1, p, x.2, pr, rfl, .inl (.inl x9), p9', by omega, by omega, fun y hy => by have := cb y hy; exact bd_of (by omega) (by omega), hpb, fun H10 r10 s10 nr10 ho10 => ?_⟩
        obtain ⟨l10, hl10, el10, rl10⟩ := ho10
        have l10n : l10.length ≤ 16 := by
          have h1 := congrArg List.length el10
          rw [List.length_map] at h1
          have hL : (leftN x.2).length ≤ 4 := Nat.le_trans (leftTo_len x.2 x.2.length) (by omega)
          have h2 := flatMap_len (f := fun f => (leftN x.2).flatMap fun s => twoFor (q - x.2.sum) (b * q - wsum x.2 pr) x.2 pr f s) (k := 4) (fun f => Nat.le_trans (flatMap_len (k := 1) (fun s => twoFor_len _ _ _ _ _ _) (leftN x.2)) (by omega)) (leftN x.2)
          rw [h1]
          exact Nat.le_trans h2 (by omega)
        refine ⟨o, r10, _, _, rfl, rfl, s10 _ _ hl9, hl10, ?_, ?_⟩
        · rw [List.length_map, List.length_map]
          exact line_le (by omega)
        refine ⟨hj, ?_, ?_, ⟨_, rfl⟩, ?_⟩
        · exact SameBut.same (SameBut.trans (same_but (Same.trans s9 s10)) SameBut.upd) nH
        · exact SameBut.trans (SameBut.trans sb9 (same_but s10)) SameBut.upd
        · rw [take_more eb, List.flatMap_append, List.flatMap_singleton, ← List.append_assoc]
          exact Objs.cat hl9 el9 rl9 s9 s10 el10 rl10
      · intro σ H9 p9
        obtain ⟨_, s9, sb9, ⟨y7', rfl⟩, ho9⟩ := p9
        refine ⟨hi4, s9, ?_, ⟨_, _, rfl⟩, ?_⟩
        · exact SameBut.trans (SameBut.trans sb4 sb7) (SameBut.trans (same_but su) sb9)
        · rw [take_more ec, List.flatMap_append, List.flatMap_singleton]
          have e9 : candFor q lo hi pr x.2 = [(1, x.2)] ++ oneM q x.2 ++ (([lo, hi] : List Int).take 2).flatMap fun b => twoM q (b * q) x.2 pr := rfl
          rw [e9]
          rw [List.append_assoc, List.append_assoc] at ho9
          rw [List.append_assoc]
          exact ho9
    · intro σ H4 p4
      obtain ⟨_, s4, sb4, ⟨y6, y7, rfl⟩, ho4⟩ := p4
      rw [List.length_map, hll, List.take_length] at ho4
      exact ⟨_, rfl, k H4 o s4 nH ho4⟩
/-! ### comes_before -/
/-- at t a pair of a number and a list of numbers -/
def PairAt (H : Hp) (t : Addr) (x : Int × List Int) : Prop := ∃ b, H t = some (.tup [.int x.1, .ref b]) ∧ H b = some (.lst (x.2.map V.int))
theorem PairAt.stay {H H' : Hp} {t : Addr} {x : Int × List Int} (h : PairAt H t x) (s : Same H H') : PairAt H' t x := by
  obtain ⟨b, h1, h2⟩ := h
  exact ⟨b, s _ _ h1, s _ _ h2⟩
def before (r o : Int × List Int) : Bool := HT.lexLt (r.2.map (· * o.1)) (o.2.map (· * r.1))
def sp_comes_before (K : PySem.W.Frag) : Sp := fun vs H Q _ => ∃ (r o : Addr) (x y : Int × List Int), vs = [.ref r, .ref o] ∧ PairAt H r x ∧ PairAt H o y ∧ x.2.length ≤ 1000 ∧ y.2.length ≤ 1000 ∧ (∀ z ∈ x.2, Bd z) ∧ (∀ z ∈ y.2, Bd z) ∧
  ∀ H', Same H H' → Q (.bl (before x y)) H'
theorem ok_comes_before (T : Txt K mg) : FnOk P w K mg base CX0 1 T.a_comes_before T.d_comes_before ["ranked", "other"] (sp_comes_before K) := by
  refine T.F_comes_before.ok sc_comes_before (fun vs H Q E h => ?_) (fun cdv A outer s H vs Q E hr h => ?_)
  · obtain ⟨r, o, x, y, rfl, _⟩ := h
    rfl
  · obtain ⟨r, o, x, y, rfl, ⟨b, hr1, hr2⟩, ⟨c, ho1, ho2⟩, lx, ly, bx, bY, k⟩ := h
    have hu := Nat.lt_of_succ_lt (hu_of hr)
    refine ⟨_, (pss_one (ps_ret (pe_cmpR (op_ltL hu) (pe_lc (own := [("number", 2)]) (g := (gName 2)) (tt := tYes) rfl sc_comes_before.nd (pi_list (pe_ix (show IxR _ (rIxT K) from ix_tup) (pv 0) pe_int (fun _ _ => rfl))) (blkOk_by (own := [("number", 2)]) (N := N_comes_before) (sc := defScope s_comes_before) (by decide +kernel)) (fun _ _ _ _ _ => (pg_name (i := 2) sc_comes_before.nd rfl (Or.inl rfl))) (fun _ _ _ _ _ => pts_nil) (fun _ _ _ _ _ => (pe_op op_mul (pv 2) (pe_ix (show IxR _ (rIxT K) from ix_tup) (pv 1) pe_int (fun _ _ => rfl))))) (pe_lc (own := [("number", 2)]) (g := (gName 2)) (tt := tYes) rfl sc_comes_before.nd (pi_list (pe_ix (show IxR _ (rIxT K) from ix_tup) (pv 1) pe_int (fun _ _ => rfl))) (blkOk_by (own := [("number", 2)]) (N := N_comes_before) (sc := defScope s_comes_before) (by decide +kernel)) (fun _ _ _ _ _ => (pg_name (i := 2) sc_comes_before.nd rfl (Or.inl rfl))) (fun _ _ _ _ _ => pts_nil) (fun _ _ _ _ _ => (pe_op op_mul (pv 2) (pe_ix (show IxR _ (rIxT K) from ix_tup) (pv 0) pe_int (fun _ _ => rfl))))) (nomark _)))), ?_⟩
    refine ⟨_, rfl, r, _, _, _, rfl, rfl, .inl (.inl hr1), atI_nat (j := 1) rfl, b, rfl, ⟨_, .inl (.inl hr2)⟩, fun D hD => ?_⟩
    refine lc_map (walk_list (xs := x.2.map V.int)) hD ?_ (fun H1 s1 => .inl (.inl (s1 _ _ hr2))) ((x.2.map (· * y.1)).map V.int) (by simp) ?_ ?_
    · rw [List.length_map]
      omega
    · intro i v H1 H2 z R Z hz s1 yy hR
      obtain ⟨rfl, e⟩ := yy
      obtain ⟨n, e1, rfl⟩ := map_at e
      have ez : z = .int (n * y.1) := by
        rw [List.getElem?_map, List.getElem?_map, e1] at hz
        exact (Option.some.inj hz).symm
      subst ez
      refine ⟨rfl, iteT ?_⟩
      refine ⟨_, rfl, _, rfl, o, _, _, _, rfl, rfl, .inl (.inl (s1 _ _ ho1)), atI_nat (j := 0) rfl, _, _, rfl, rfl, .inl (bx n (List.mem_of_getElem? e1)), ?_⟩
      exact hR _ (Same.refl _)
    intro H1 s1 hD1
    refine ⟨_, rfl, o, _, _, _, rfl, rfl, .inl (.inl (s1 _ _ ho1)), atI_nat (j := 1) rfl, c, rfl, ⟨_, .inl (.inl (s1 _ _ ho2))⟩, fun D2 hD2 => ?_⟩
    refine lc_map (walk_list (xs := y.2.map V.int)) hD2 ?_ (fun H2 s2 => .inl (.inl (s2 _ _ (s1 _ _ ho2)))) ((y.2.map (· * x.1)).map V.int) (by simp) ?_ ?_
    · rw [List.length_map]
      omega
    · intro i v H2 H3 z R Z hz s2 yy hR
      obtain ⟨rfl, e⟩ := yy
      obtain ⟨n, e1, rfl⟩ := map_at e
      have ez : z = .int (n * x.1) := by
        rw [List.getElem?_map, List.getElem?_map, e1] at hz
        exact (Option.some.inj hz).symm
      subst ez
      refine ⟨rfl, iteT ?_⟩
      refine ⟨_, rfl, _, rfl, r, _, _, _, rfl, rfl, .inl (.inl (s2 _ _ (s1 _ _ hr1))), atI_nat (j := 0) rfl, _, _, rfl, rfl, .inl (bY n (List.mem_of_getElem? e1)), ?_⟩
      exact hR _ (Same.refl _)
    intro H2 s2 hD2'
    refine ⟨D, D2, _, _, rfl, rfl, .inl (.inl (s2 _ _ hD1)), .inl (.inl hD2'), ?_⟩
    exact k H2 (Same.trans s1 s2)
/-! ### cheapest_blend -/
def stepB (q lo hi : Int) (av co pr : List Int) (best : Option (Int × List Int)) (x : Int × List Int) : Option (Int × List Int) :=
  if feas q lo hi x.1 av pr x.2 = true then
    match best with
    | none => some (x.1, wsum x.2 co :: x.2)
    | some o => if before (x.1, wsum x.2 co :: x.2) o = true then some (x.1, wsum x.2 co :: x.2) else some o
  else best
def bestM (q lo hi : Int) (av co pr : List Int) : Option (Int × List Int) := (candM q lo hi av pr).foldl (stepB q lo hi av co pr) none
/-- what the best so far is known to be -/
def BestOk (n : Nat) (x : Int × List Int) : Prop := 0 < x.1 ∧ x.1 ≤ 99 ∧ x.2.length = n + 1 ∧ ∀ y ∈ x.2, 0 ≤ y ∧ y ≤ 1000000000
theorem feas_bd {q lo hi d : Int} {av pr b : List Int} (h : feas q lo hi d av pr b = true) (hl : b.length = av.length) (hd : 0 ≤ d ∧ d ≤ 99) (ha : ∀ x ∈ av, 0 ≤ x ∧ x ≤ 99) : ∀ y ∈ b, 0 ≤ y ∧ y ≤ 9801 := fun y hy => by
  unfold feas at h
  rw [Bool.and_eq_true] at h
  have h1 := h.1
  rw [List.all_eq_true] at h1
  obtain ⟨i, hi⟩ := List.mem_iff_getElem?.mp hy
  have hil : i < b.length := (List.getElem?_eq_some_iff.mp hi).1
  have ea : av[i]? = some av[i] := List.getElem?_eq_getElem (by omega)
  have hm : within y (d * av[i]) ∈ List.zipWith (fun x m => within x (d * m)) b av := by
    refine List.mem_of_getElem? (i := i) ?_
    rw [List.getElem?_zipWith, hi, ea]
  have hw := within_iff.mp (h1 _ hm)
  have hm2 := ha av[i] (List.mem_of_getElem? ea)
  have hp := mul_bd (x := d) (y := av[i]) (a := 99) (b := 99) (by omega) (by omega) (by omega) (by omega) (by decide)
  omega
theorem wsum_bd2 : ∀ {b co : List Int}, (∀ x ∈ b, 0 ≤ x ∧ x ≤ 9801) → (∀ x ∈ co, 0 ≤ x ∧ x ≤ 99) → 0 ≤ wsum b co ∧ wsum b co ≤ 970299 * (b.length : Int)
  | [], _, _, _ => by simp [wsum]
  | x :: c, [], _, _ => by
    simp [wsum]
    omega
  | x :: c, y :: pr, h1, h2 => by
    have ih := wsum_bd2 (b := c) (co := pr) (fun z hz => h1 z (List.mem_cons_of_mem _ hz)) fun z hz => h2 z (List.mem_cons_of_mem _ hz)
    have hx := h1 x List.mem_cons_self
    have hy := h2 y List.mem_cons_self
    have m0 := Int.mul_nonneg hx.1 hy.1
    have m1 : x * y ≤ 9801 * 99 := Int.mul_le_mul hx.2 hy.2 hy.1 (by decide)
    unfold wsum at ih ⊢
    rw [List.zipWith_cons_cons, List.sum_cons, List.length_cons]
    omega
/-- what stands in the slot of the best -/
def BestAt (H : Hp) (v : V) (b : Option (Int × List Int)) : Prop := (b = none ∧ v = .non) ∨ ∃ x t, b = some x ∧ v = .ref t ∧ PairAt H t x
/-! ### best_candidate -/
def sp_best_candidate (K : PySem.W.Frag) : Sp := fun vs H Q _ => ∃ (q lo hi : Int) (c : Addr) (ns : List Int), vs = [.int q, .int lo, .int hi, .ref c] ∧ LI K H c ns ∧ ns.length ≤ 1000 ∧ compsOk ns = true ∧ (0 ≤ q ∧ q ≤ 99) ∧ (0 ≤ lo ∧ lo ≤ 99) ∧ (0 ≤ hi ∧ hi ≤ 99) ∧
  ∀ H' v, Same H H' → BestAt H' v (bestM q lo hi (pk 0 ns) (pk 1 ns) (pk 2 ns)) → (∀ x, bestM q lo hi (pk 0 ns) (pk 1 ns) (pk 2 ns) = some x → BestOk (pk 0 ns).length x ∧ (pk 0 ns).length ≤ 4) → Q v H'
theorem ok_best_candidate (T : Txt K mg) : FnOk P w K mg base CX0 4 T.a_best_candidate T.d_best_candidate ["quantity", "low", "high", "components"] (sp_best_candidate K) := by
  have G_basic_candidates : FnOk P w K mg base CX0 3 T.a_basic_candidates T.d_basic_candidates ["quantity", "low", "high", "components"] (sp_basic_candidates K) := ok_basic_candidates T
  have G_is_feasible : FnOk P w K mg base CX0 2 T.a_is_feasible T.d_is_feasible ["quantity", "low", "high", "den", "components", "blend"] (sp_is_feasible K) := ok_is_feasible T
  have G_weighted_sum : FnOk P w K mg base CX0 1 T.a_weighted_sum T.d_weighted_sum ["amounts", "weights"] (sp_weighted_sum K) := ok_weighted_sum T
  have G_comes_before : FnOk P w K mg base CX0 1 T.a_comes_before T.d_comes_before ["ranked", "other"] (sp_comes_before K) := ok_comes_before T
  refine T.F_best_candidate.ok sc_best_candidate (fun vs H Q E h => ?_) (fun cdv A outer s H vs Q E hr h => ?_)
  · obtain ⟨q, lo, hi, c, ns, rfl, _⟩ := h
    rfl
  · obtain ⟨q, lo, hi, c, ns, rfl, hc, hl, hcok, hq, hlo, hhi, k⟩ := h
    have hu := hu_of hr
    refine ⟨_, (pss_cons (ps_set (i := 4) sc_best_candidate.nd rfl (Or.inl rfl) (pe_slice3 (pv 3) (po_some pe_int) po_none (po_some pe_int)))
      (pss_cons (ps_set (i := 5) sc_best_candidate.nd rfl (Or.inl rfl) pe_non)
      (pss_cons (ps_for PassesOwn.never rfl (pi_list (pe_call G_basic_candidates (hr.mono (by decide)) rfl T.g_basic_candidates T.F_basic_candidates.kp T.b_basic_candidates .nil pass0 (pa_cons (pv 0) (pa_cons (pv 1) (pa_cons (pv 2) (pa_cons (pv 3) pa_nil)))))) (pg_tup rfl (pgs_cons (pg_name (i := 6) sc_best_candidate.nd rfl (Or.inl rfl)) (pgs_cons (pg_name (i := 7) sc_best_candidate.nd rfl (Or.inl rfl)) pgs_nil))) (pss_one (ps_if (pt_val (pe_call G_is_feasible (hr.mono (by decide)) rfl T.g_is_feasible T.F_is_feasible.kp T.b_is_feasible .nil pass0 (pa_cons (pv 0) (pa_cons (pv 1) (pa_cons (pv 2) (pa_cons (pv 6) (pa_cons (pv 3) (pa_cons (pv 7) pa_nil)))))))) (pss_cons (ps_set (i := 8) sc_best_candidate.nd rfl (Or.inl rfl) (pe_tup (pa_cons (pv 6) (pa_cons (pe_op op_cat (pe_lst (pa_cons (pe_call G_weighted_sum (hr.mono (by decide)) rfl T.g_weighted_sum T.F_weighted_sum.kp T.b_weighted_sum .nil pass0 (pa_cons (pv 7) (pa_cons (pv 4) pa_nil))) pa_nil)) (pv 7)) pa_nil))))
      (pss_one (ps_if (PW.pt (pw_or (pt_cmpR op_isN (pv 5) pe_non (nomark _)) (pw_or1 (pt_val (pe_call G_comes_before (hr.mono (by decide)) rfl T.g_comes_before T.F_comes_before.kp T.b_comes_before .nil pass0 (pa_cons (pv 8) (pa_cons (pv 5) pa_nil))))))) (pss_one (ps_set (i := 5) sc_best_candidate.nd rfl (Or.inl rfl) (pv 8))) pss_nil))) pss_nil)))
      (pss_one (ps_ret (pv 5)))))), ?_⟩
    have hns := comps_bd hcok
    obtain ⟨pl0, pl1, pl2⟩ := pk_parts hcok
    obtain ⟨av, hav⟩ : ∃ z, z = pk 0 ns := ⟨_, rfl⟩
    obtain ⟨co, hco⟩ : ∃ z, z = pk 1 ns := ⟨_, rfl⟩
    obtain ⟨pr, hpr⟩ : ∃ z, z = pk 2 ns := ⟨_, rfl⟩
    have ab : ∀ x ∈ av, 0 ≤ x ∧ x ≤ 99 := fun x hx => hns x (pickNums_mem (hav ▸ hx))
    have cb : ∀ x ∈ co, 0 ≤ x ∧ x ≤ 99 := fun x hx => hns x (pickNums_mem (hco ▸ hx))
    have pb : ∀ x ∈ pr, 0 ≤ x ∧ x ≤ 99 := fun x hx => hns x (pickNums_mem (hpr ▸ hx))
    rw [← hav, ← hco, ← hpr] at k
    rw [← hav] at pl0 pl1 pl2
    rw [← hco] at pl1
    rw [← hpr] at pl2
    have okc := cand_ok hq hlo hhi ab pb pl0 pl2
    -- costs = components[1::3]
    refine ⟨_, rfl, 1, rfl, 3, rfl, c, _, rfl, hc, by decide, fun ca nca => ?_⟩
    rw [pickV_map, show pickNums ns (some 1) none (some 3) = co from hco.symm]
    have s2 : Same H _ := same_upd (o := .lst (co.map V.int)) nca
    have hca : upd H ca (.lst (co.map V.int)) ca = some (.lst (co.map V.int)) := upd_same
    generalize upd H ca (.lst (co.map V.int)) = H2 at *
    -- best = None
    -- for den, blend in basic_candidates(..)
    refine ⟨_, rfl, _, rfl, _, rfl, _, rfl, q, lo, hi, c, ns, av, pr, rfl, Same.seq s2 hc, hav, hpr, pl0, pl2, ab, pb, bd_of (by omega) (by omega), bd_of (by omega) (by omega), fun H3 r s3 nr hob => ?_⟩
    obtain ⟨l, hlr, hle, hlx⟩ := hob
    refine ⟨r, rfl, ⟨_, .inl (.inl hlr)⟩, ?_⟩
    have s03 : Same H H3 := Same.trans s2 s3
    refine for_it (walk_list (xs := l.map fun x => V.ref x.1)) (fun i σ H4 => i ≤ l.length ∧ Same H3 H4 ∧ (∃ v y6 y7 y8, σ = [some (.int q), some (.int lo), some (.int hi), some (.ref c), some (.ref ca), some v, y6, y7, y8] ∧
      BestAt H4 v (((candM q lo hi av pr).take i).foldl (stepB q lo hi av co pr) none) ∧ (∀ x, ((candM q lo hi av pr).take i).foldl (stepB q lo hi av co pr) none = some x → BestOk av.length x))) ?_ ?_ ?_ ?_
    · refine ⟨Nat.zero_le _, Same.refl _, .non, none, none, none, rfl, .inl ⟨rfl, rfl⟩, fun x hx => ?_⟩
      rw [List.take_zero] at hx
      cases hx
    · intro i σ H4 _ p4
      exact .inl (.inl (p4.2.1 _ _ hlr))
    · intro i x σ H4 H4' hi4 p4 y
      obtain ⟨_, s4, v, y6, y7, y8, rfl, hbest, hok⟩ := p4
      obtain ⟨rfl, e⟩ := y
      obtain ⟨x, e2, rfl⟩ := objs_at e
      rw [List.length_map] at hi4
      obtain ⟨_, _, b, _, _, x5, x6⟩ := hlx x (List.mem_of_getElem? e2)
      have ec : (candM q lo hi av pr)[i]? = some x.2 := by
        rw [← hle, List.getElem?_map, e2]
        rfl
      obtain ⟨d1, d2, xl, xb⟩ := okc x.2 (List.mem_of_getElem? ec)
      have x5' := s4 _ _ x5
      have x6' := s4 _ _ x6
      have xbd : ∀ y ∈ x.2.2, Bd y := fun y hy => by have := xb y hy; exact bd_of this.1 this.2
      rw [show ((candM q lo hi av pr).take (i + 1)).foldl (stepB q lo hi av co pr) none = stepB q lo hi av co pr (((candM q lo hi av pr).take i).foldl (stepB q lo hi av co pr) none) x.2 by
        rw [take_more ec, List.foldl_append]
        rfl]
      generalize ((candM q lo hi av pr).take i).foldl (stepB q lo hi av co pr) none = best at *
      -- den, blend = the pair
      refine ⟨x.1, _, rfl, .inl (.inl x5'), rfl, _, _, rfl, _, _, rfl, rfl, ?_⟩
      -- if is_feasible(..)
      refine ⟨_, rfl, _, rfl, _, rfl, _, rfl, _, rfl, _, rfl, q, lo, hi, x.2.1, c, b, ns, x.2.2, rfl, bd_of (by omega) (by omega), bd_of (by omega) (by omega), Same.seq (Same.trans s03 s4) hc, .inl (.inl x6'), by omega, xbd, fun H5 s5 => ⟨_, rfl, ?_⟩⟩
      rw [← hav, ← hpr]
      have s35 : Same H3 H5 := Same.trans s4 s5
      cases hf : feas q lo hi x.2.1 av pr x.2.2 with
      | false =>
        refine iteF ?_
        refine ⟨hi4, s35, v, _, _, _, rfl, ?_, ?_⟩
        · unfold stepB
          rw [hf, if_neg Bool.false_ne_true]
          rcases hbest with h | ⟨z, t, h1, h2, h3⟩
          · exact .inl h
          · exact .inr ⟨z, t, h1, h2, h3.stay s5⟩
        · unfold stepB
          rw [hf, if_neg Bool.false_ne_true]
          exact hok
      | true =>
        refine iteT ?_
        have fb := feas_bd hf xl ⟨by omega, d2⟩ ab
        have wb := wsum_bd2 fb cb
        -- ranked = (den, [weighted_sum(blend, costs)] + blend)
        refine ⟨_, rfl, _, rfl, _, rfl, b, ca, x.2.2, co, rfl, .inl (.inl (s5 _ _ x6')), .inl (.inl (s35 _ _ (s3 _ _ hca))), by omega, xbd, fun H6 s6 => ?_⟩
        refine ⟨(by show 1 ≤ sizeLine; decide), fun p1 np1 => ?_⟩
        have t1 := same_upd (o := .lst [V.int (wsum x.2.2 co)]) np1
        refine ⟨_, rfl, p1, b, _, _, rfl, rfl, upd_same, t1 _ _ (s6 _ _ (s5 _ _ x6')), ?_, fun p2 np2 => ?_⟩
        · rw [List.length_map]
          exact line_le (by simp; omega)
        have t2 := same_upd (o := .lst ([V.int (wsum x.2.2 co)] ++ x.2.2.map V.int)) np2
        refine ⟨(by show 2 ≤ sizeLine; decide), fun p3 np3 => ?_⟩
        have t3 := same_upd (o := .tup [V.int x.2.1, V.ref p2]) np3
        have hpair : PairAt (upd (upd (upd H6 p1 (.lst [V.int (wsum x.2.2 co)])) p2 (.lst ([V.int (wsum x.2.2 co)] ++ x.2.2.map V.int))) p3 (.tup [V.int x.2.1, V.ref p2])) p3 (x.2.1, wsum x.2.2 co :: x.2.2) :=
          ⟨p2, upd_same, t3 _ _ (by rw [upd_same]; rfl)⟩
        have s57 : Same H5 (upd (upd (upd H6 p1 (.lst [V.int (wsum x.2.2 co)])) p2 (.lst ([V.int (wsum x.2.2 co)] ++ x.2.2.map V.int))) p3 (.tup [V.int x.2.1, V.ref p2])) := Same.trans s6 (Same.trans t1 (Same.trans t2 t3))
        generalize upd (upd (upd H6 p1 (.lst [V.int (wsum x.2.2 co)])) p2 (.lst ([V.int (wsum x.2.2 co)] ++ x.2.2.map V.int))) p3 (.tup [V.int x.2.1, V.ref p2]) = H7 at *
        have s37 : Same H3 H7 := Same.trans s35 s57
        have okr : BestOk av.length (x.2.1, wsum x.2.2 co :: x.2.2) := by
          refine ⟨by show (0 : Int) < x.2.1; omega, d2, by show (wsum x.2.2 co :: x.2.2).length = _; rw [List.length_cons, xl], fun y hy => ?_⟩
          have hy : y ∈ wsum x.2.2 co :: x.2.2 := hy
          rcases List.mem_cons.mp hy with rfl | hy
          · omega
          · have := fb y hy
            omega
        -- if best is None or comes_before(ranked, best)
        refine ⟨_, rfl, rfl, _, rfl, ?_⟩
        rcases hbest with ⟨rfl, rfl⟩ | ⟨z, t, rfl, rfl, hz⟩
        · refine if_true_of (decide_eq_true rfl) (iteT ?_)
          have es : stepB q lo hi av co pr none x.2 = some (x.2.1, wsum x.2.2 co :: x.2.2) := by
            unfold stepB
            rw [if_pos hf]
          rw [es]
          refine ⟨_, rfl, hi4, s37, _, _, _, _, rfl, .inr ⟨_, p3, rfl, rfl, hpair⟩, fun x' hx' => ?_⟩
          have := Option.some.inj hx'
          subst this
          exact okr
        · refine if_false_of (decide_eq_false (fun z => nomatch z)) ?_
          obtain ⟨z1, z2, z3, z4⟩ := hok z rfl
          have hz7 := (hz.stay s5).stay s57
          refine ⟨_, rfl, _, rfl, p3, t, _, z, rfl, hpair, hz7, ?_, by omega, ?_, fun y hy => by have := z4 y hy; exact bd_of (by omega) (by omega), fun H8 s8 => ⟨_, rfl, ?_⟩⟩
          · show (wsum x.2.2 co :: x.2.2).length ≤ 1000
            rw [List.length_cons]
            omega
          · intro y hy
            have := okr.2.2.2 y hy
            exact bd_of (by omega) (by omega)
          · cases hbf : before (x.2.1, wsum x.2.2 co :: x.2.2) z with
            | true =>
              have es : stepB q lo hi av co pr (some z) x.2 = some (x.2.1, wsum x.2.2 co :: x.2.2) := by
                unfold stepB
                rw [if_pos hf]
                exact if_pos hbf
              rw [es]
              refine iteT ?_
              refine ⟨_, rfl, hi4, Same.trans s37 s8, _, _, _, _, rfl, .inr ⟨_, p3, rfl, rfl, hpair.stay s8⟩, fun x' hx' => ?_⟩
              have := Option.some.inj hx'
              subst this
              exact okr
            | false =>
              have es : stepB q lo hi av co pr (some z) x.2 = some z := by
                unfold stepB
                rw [if_pos hf]
                exact if_neg (by rw [hbf]; exact Bool.false_ne_true)
              rw [es]
              refine iteF ?_
              exact ⟨hi4, Same.trans s37 s8, _, _, _, _, rfl, .inr ⟨_, t, rfl, rfl, hz7.stay s8⟩, hok⟩
    · intro σ H4 p4
      obtain ⟨_, s4, v, y6, y7, y8, rfl, hbest, hok⟩ := p4
      have hll : l.length = (candM q lo hi av pr).length := by rw [← hle, List.length_map]
      rw [List.length_map, hll, List.take_length] at hbest hok
      have eb : (candM q lo hi av pr).foldl (stepB q lo hi av co pr) none = bestM q lo hi av co pr := rfl
      rw [eb] at hbest hok
      have s04 : Same H H4 := Same.trans s03 s4
      -- return best
      refine ⟨_, rfl, ?_⟩
      exact k H4 v s04 hbest fun x hx => ⟨hok x hx, pl0⟩
/-! ### cheapest_blend -/
def cheapM (q lo hi : Int) (ns : List Int) : List Int :=
  if reqOk q lo hi ns = true then (match bestM q lo hi (pk 0 ns) (pk 1 ns) (pk 2 ns) with
    | none => [-33]
    | some x => 0 :: ratI x.1 x.2) else [-22]
def sp_cheapest_blend (K : PySem.W.Frag) : Sp := fun vs H Q _ => ∃ (q lo hi : Int) (c : Addr) (ns : List Int), vs = [.int q, .int lo, .int hi, .ref c] ∧ LI K H c ns ∧ ns.length ≤ 1000 ∧
  ∀ H' r, Same H H' → H r = none → H' r = some (.lst ((cheapM q lo hi ns).map V.int)) → Q (.ref r) H'
theorem ok_cheapest_blend (T : Txt K mg) : FnOk P w K mg base CX0 5 T.a_cheapest_blend T.d_cheapest_blend ["quantity", "low", "high", "components"] (sp_cheapest_blend K) := by
  have G_request_within_limits : FnOk P w K mg base CX0 3 T.a_request_within_limits T.d_request_within_limits ["quantity", "low", "high", "components"] (sp_request_within_limits K) := ok_request_within_limits T
  have G_best_candidate : FnOk P w K mg base CX0 4 T.a_best_candidate T.d_best_candidate ["quantity", "low", "high", "components"] (sp_best_candidate K) := ok_best_candidate T
  have G_rational_numbers : FnOk P w K mg base CX0 2 T.a_rational_numbers T.d_rational_numbers ["den", "numbers"] (sp_rational_numbers K) := ok_rational_numbers T
  refine T.F_cheapest_blend.ok sc_cheapest_blend (fun vs H Q E h => ?_) (fun cdv A outer s H vs Q E hr h => ?_)
  · obtain ⟨q, lo, hi, c, ns, rfl, _⟩ := h
    rfl
  · obtain ⟨q, lo, hi, c, ns, rfl, hc, hl, k⟩ := h
    have hu := hu_of hr
    refine ⟨_, (pss_cons (ps_if (pt_not (pt_val (pe_call G_request_within_limits (hr.mono (by decide)) rfl T.g_request_within_limits T.F_request_within_limits.kp T.b_request_within_limits .nil pass0 (pa_cons (pv 0) (pa_cons (pv 1) (pa_cons (pv 2) (pa_cons (pv 3) pa_nil))))))) (pss_one (ps_ret (pe_lst (pa_cons (pe_un un_neg (pe_glob (v := V.int 22) rfl T.c_OUTSIDE_LIMITS ⟨_, rfl⟩)) pa_nil)))) pss_nil)
      (pss_cons (ps_set (i := 4) sc_cheapest_blend.nd rfl (Or.inl rfl) (pe_call G_best_candidate (hr.mono (by decide)) rfl T.g_best_candidate T.F_best_candidate.kp T.b_best_candidate .nil pass0 (pa_cons (pv 0) (pa_cons (pv 1) (pa_cons (pv 2) (pa_cons (pv 3) pa_nil))))))
      (pss_cons (ps_if (pt_cmpR op_isN (pv 4) pe_non (nomark _)) (pss_one (ps_ret (pe_lst (pa_cons (pe_un un_neg (pe_glob (v := V.int 33) rfl T.c_NOT_FEASIBLE ⟨_, rfl⟩)) pa_nil)))) pss_nil)
      (pss_one (ps_ret (pe_op op_cat (pe_lst (pa_cons pe_int pa_nil)) (pe_call G_rational_numbers (hr.mono (by decide)) rfl T.g_rational_numbers T.F_rational_numbers.kp T.b_rational_numbers .nil pass0 (pa_cons (pe_ix (show IxR _ (rIxT K) from ix_tup) (pv 4) pe_int (fun _ _ => rfl)) (pa_cons (pe_ix (show IxR _ (rIxT K) from ix_tup) (pv 4) pe_int (fun _ _ => rfl)) pa_nil))))))))), ?_⟩
    refine ⟨_, rfl, _, rfl, _, rfl, _, rfl, q, lo, hi, c, ns, rfl, hc, hl, fun H1 s1 => ⟨_, rfl, ?_⟩⟩
    cases h1 : reqOk q lo hi ns with
    | false =>
      refine iteT ?_
      refine ⟨_, rfl, (by show 1 ≤ sizeLine; decide), fun r nr => ?_⟩
      refine k _ r (Same.trans s1 (same_upd nr)) (Same.free s1 nr) ?_
      unfold cheapM
      rw [h1, if_neg Bool.false_ne_true, upd_same]
      rfl
    | true =>
      refine iteF ?_
      obtain ⟨hq, hlo, hhi, li, hcok⟩ := reqOk_parts h1
      have hns := comps_bd hcok
      obtain ⟨pl0, pl1, pl2⟩ := pk_parts hcok
      have e0 : cheapM q lo hi ns = (match bestM q lo hi (pk 0 ns) (pk 1 ns) (pk 2 ns) with
        | none => [-33]
        | some x => 0 :: ratI x.1 x.2) := by
        unfold cheapM
        rw [if_pos h1]
      rw [e0] at k
      -- best = best_candidate(quantity, low, high, components)
      refine ⟨_, rfl, _, rfl, _, rfl, _, rfl, q, lo, hi, c, ns, rfl, Same.seq s1 hc, hl, hcok, hq, hlo, hhi, fun H4 v s4 hbest hok => ?_⟩
      have s04 : Same H H4 := Same.trans s1 s4
      generalize bestM q lo hi (pk 0 ns) (pk 1 ns) (pk 2 ns) = best at *
      -- if best is None
      refine ⟨_, rfl, rfl, _, rfl, ?_⟩
      rcases hbest with ⟨rfl, rfl⟩ | ⟨z, t, rfl, rfl, b, hz1, hz2⟩
      · refine if_true_of (decide_eq_true rfl) ?_
        refine ⟨_, rfl, (by show 1 ≤ sizeLine; decide), fun r2 nr2 => ?_⟩
        refine k _ r2 (Same.trans s04 (same_upd nr2)) (Same.free s04 nr2) ?_
        rw [upd_same]
        rfl
      · refine if_false_of (decide_eq_false (fun z => nomatch z)) ?_
        obtain ⟨⟨z1, z2, z3, z4⟩, z5⟩ := hok z rfl
        -- return [0] + rational_numbers(best[0], best[1])
        refine ⟨(by show 1 ≤ sizeLine; decide), fun p1 np1 => ?_⟩
        have t1 := same_upd (o := .lst [V.int 0]) np1
        refine ⟨_, rfl, t, _, _, _, rfl, rfl, .inl (.inl (t1 _ _ hz1)), atI_nat (j := 0) rfl, _, rfl, t, _, _, _, rfl, rfl, .inl (.inl (t1 _ _ hz1)), atI_nat (j := 1) rfl, z.1, b, z.2, rfl, z1, by omega, .inl (.inl (t1 _ _ hz2)), by omega, fun y hy => (z4 y hy).1, fun H5 r5 s5 nr5 hr5 => ?_⟩
        refine ⟨p1, r5, _, _, rfl, rfl, s5 _ _ upd_same, hr5, ?_, fun p2 np2 => ?_⟩
        · rw [List.length_map, ratI_len]
          exact line_le (by simp; omega)
        · have s6 := same_upd (o := .lst ([V.int 0] ++ (ratI z.1 z.2).map V.int)) np2
          refine k _ p2 (Same.trans s04 (Same.trans t1 (Same.trans s5 s6))) (Same.free (Same.trans s04 (Same.trans t1 s5)) np2) ?_
          rw [upd_same]
          rfl
/-! ### the basic blends of the specification are the candidates -/
section
open Ks595 (Rational Problem Component componentAt baseBlend withOneFree withTwoFree basicBlends isFeasible choices propertyTotal costOf isLexSmaller cheapestBlend)
theorem avs_at (p : Problem) (i : Nat) : (avs p).getD i 0 = ((componentAt p i).amount : Int) := by
  unfold avs componentAt
  rw [List.getD_eq_getElem?_getD, List.getD_eq_getElem?_getD, List.getElem?_map]
  cases p.components[i]? <;> rfl
theorem prs_at (p : Problem) (i : Nat) : (prs p).getD i 0 = ((componentAt p i).property : Int) := by
  unfold prs componentAt
  rw [List.getD_eq_getElem?_getD, List.getD_eq_getElem?_getD, List.getElem?_map]
  cases p.components[i]? <;> rfl
theorem mem_choices : ∀ {n : Nat} {c : List Bool}, c ∈ choices n ↔ c.length = n
  | 0, c => by
    unfold choices
    rw [List.mem_singleton]
    exact ⟨fun h => by rw [h]; rfl, fun h => List.eq_nil_of_length_eq_zero h⟩
  | n + 1, c => by
    unfold choices
    rw [List.mem_flatMap]
    constructor
    · rintro ⟨l, hl, h⟩
      have hl := mem_choices.mp hl
      simp only [List.mem_cons, List.not_mem_nil, or_false] at h
      rcases h with rfl | rfl <;> rw [List.length_append, hl] <;> rfl
    · intro h
      have hne : c ≠ [] := fun z => by rw [z] at h; simp at h
      refine ⟨c.dropLast, mem_choices.mpr (by rw [List.length_dropLast, h]; rfl), ?_⟩
      have e := List.dropLast_concat_getLast hne
      simp only [List.mem_cons, List.not_mem_nil, or_false]
      cases hb : c.getLast hne with
      | false => exact .inl (by rw [← hb]; exact e.symm)
      | true => exact .inr (by rw [← hb]; exact e.symm)
/-- the corner of a choice -/
def cor (av : List Int) (choice : List Bool) (free : List Nat) : List Int := (List.range av.length).map fun i => if free.contains i = true then 0 else if choice.getD i false = true then av.getD i 0 else 0
theorem cor_len (av : List Int) (choice : List Bool) (free : List Nat) : (cor av choice free).length = av.length := by
  unfold cor
  rw [List.length_map, List.length_range]
theorem cor_at {av : List Int} {choice : List Bool} {free : List Nat} {i : Nat} (h : i < av.length) : (cor av choice free)[i]? = some (if free.contains i = true then 0 else if choice.getD i false = true then av.getD i 0 else 0) := by
  unfold cor
  rw [List.getElem?_map, List.getElem?_range h]
  rfl
theorem cor_mem (av : List Int) (choice : List Bool) (free : List Nat) : cor av choice free ∈ cornersM av := by
  refine mem_corners.mpr ⟨cor_len _ _ _, fun j hj => ?_⟩
  rw [cor_at hj]
  by_cases h1 : free.contains j = true
  · rw [if_pos h1]
    exact .inl rfl
  · rw [if_neg h1]
    by_cases h2 : choice.getD j false = true
    · rw [if_pos h2, List.getD_eq_getElem?_getD, List.getElem?_eq_getElem hj]
      exact .inr rfl
    · rw [if_neg h2]
      exact .inl rfl
theorem cor_of {av c : List Int} (h : c ∈ cornersM av) : ∃ choice : List Bool, choice.length = av.length ∧ ∀ free : List Nat, (∀ i ∈ free, c[i]? = some 0 ∨ av.length ≤ i) → cor av choice free = c := by
  obtain ⟨h1, h2⟩ := mem_corners.mp h
  refine ⟨c.map fun x => decide (x ≠ 0), by rw [List.length_map, h1], fun free hf => ?_⟩
  refine List.ext_getElem? fun i => ?_
  by_cases hi : i < av.length
  · rw [cor_at hi]
    have hc : c[i]? = some c[i] := List.getElem?_eq_getElem (by omega)
    have hch : (c.map fun x => decide (x ≠ 0)).getD i false = decide (c[i] ≠ 0) := by
      rw [List.getD_eq_getElem?_getD, List.getElem?_map, hc]
      rfl
    rw [hch]
    by_cases hz : c[i] = 0
    · have : decide (c[i] ≠ 0) = false := decide_eq_false (fun z => z hz)
      rw [this, if_neg Bool.false_ne_true, hc, hz]
      split <;> rfl
    · have : decide (c[i] ≠ 0) = true := decide_eq_true hz
      have hfi : ¬ free.contains i = true := fun z => by
        have hm : i ∈ free := by simpa using z
        rcases hf i hm with e | e
        · rw [hc] at e
          exact hz (Option.some.inj e)
        · omega
      rw [this, if_neg hfi, if_pos rfl, hc]
      rcases h2 i hi with e | e
      · rw [hc] at e
        exact absurd (Option.some.inj e) hz
      · rw [List.getD_eq_getElem?_getD, ← e, hc]
        rfl
  · rw [List.getElem?_eq_none (by rw [cor_len]; omega), List.getElem?_eq_none (by omega)]
theorem base_toR (p : Problem) (choice : List Bool) (free : List Nat) : baseBlend p choice free = toR 1 (cor (avs p) choice free) := by
  unfold baseBlend cor toR
  rw [List.map_map, avs_len]
  refine List.map_congr_left fun i hi => ?_
  show _ = Rational.make (if free.contains i = true then 0 else if choice.getD i false = true then (avs p).getD i 0 else 0) 1
  by_cases h1 : free.contains i = true
  · rw [if_pos h1, if_pos h1]
    exact zero_is (by decide)
  · rw [if_neg h1, if_neg h1]
    by_cases h2 : choice.getD i false = true
    · rw [if_pos h2, if_pos h2, avs_at]
      exact ofNat_is _
    · rw [if_neg h2, if_neg h2]
      exact zero_is (by decide)
theorem set_toR (d : Nat) (c : List Int) (i : Nat) (v : Int) : (toR d c).set i (Rational.make v d) = toR d (c.set i v) := by
  unfold toR
  rw [List.map_set]
theorem sub_is (a b : Rational) : a - b = Rational.sub a b := rfl
theorem mul_is (a b : Rational) : a * b = Rational.mul a b := rfl
theorem div_is (a b : Rational) : a / b = Rational.div a b := rfl
theorem one_toR (p : Problem) (choice : List Bool) (i : Nat) : withOneFree p choice i = toR 1 ((cor (avs p) choice [i]).set i ((p.quantity : Int) - (cor (avs p) choice [i]).sum)) := by
  unfold withOneFree
  dsimp only
  rw [base_toR, sum_toR (by decide), ofNat_is, sub_is, sub_same (by decide), set_toR]
theorem toR_scale {d : Nat} (hd : d ≠ 0) (c : List Int) : toR d (c.map fun x => (d : Int) * x) = toR 1 c := by
  unfold toR
  rw [List.map_map]
  refine List.map_congr_left fun x _ => ?_
  show Rational.make ((d : Int) * x) d = Rational.make x 1
  refine (make_eq hd (by decide)).mpr ?_
  rw [Int.mul_comm (d : Int) x]
  simp
theorem set_toR2 {d : Nat} (hd : d ≠ 0) (c : List Int) (i j : Nat) (u v : Int) :
    ((toR 1 c).set i (Rational.make u d)).set j (Rational.make v d) = toR d (((c.map fun x => (d : Int) * x).set i u).set j v) := by
  rw [← toR_scale hd c, set_toR, set_toR]
theorem set2_congr {l : List Int} {i j : Nat} {u u' v v' : Int} (hu : u = u') (hv : v = v') : (l.set i u).set j v = (l.set i u').set j v' := by
  rw [hu, hv]
/-- two free components, the first with the smaller property -/
theorem two_lt {p : Problem} {choice : List Bool} {i j lvl : Nat} (h : (componentAt p i).property < (componentAt p j).property) :
    withTwoFree p choice i j lvl = some (toR ((componentAt p j).property - (componentAt p i).property) ((((cor (avs p) choice [i, j]).map fun x => (((componentAt p j).property - (componentAt p i).property : Nat) : Int) * x).set i
      (((componentAt p j).property : Int) * ((p.quantity : Int) - (cor (avs p) choice [i, j]).sum) - ((lvl : Int) * (p.quantity : Int) - wsum (cor (avs p) choice [i, j]) (prs p)))).set j
      (((lvl : Int) * (p.quantity : Int) - wsum (cor (avs p) choice [i, j]) (prs p)) - ((componentAt p i).property : Int) * ((p.quantity : Int) - (cor (avs p) choice [i, j]).sum)))) := by
  unfold withTwoFree
  dsimp only
  rw [if_neg (by omega), base_toR, sum_toR (by decide), prop_toR (by decide) (by rw [cor_len, avs_len])]
  generalize cor (avs p) choice [i, j] = c
  generalize hai : (componentAt p i).property = ai at *
  generalize haj : (componentAt p j).property = aj at *
  obtain ⟨d, hd⟩ : ∃ d, d = aj - ai := ⟨_, rfl⟩
  have hd0 : d ≠ 0 := by omega
  simp only [ofNat_is, sub_is, mul_is, div_is]
  rw [sub_same (by decide), sub_same (by decide), sub_same (by decide), mul_make (by decide) (by decide)]
  rw [Nat.mul_one, sub_same (by decide), div_make (by decide) (by decide) (by omega), if_neg (by omega), Nat.one_mul]
  have e1 : ((ai : Int) - (aj : Int)).natAbs = d := by omega
  have e2 : ((d : Nat) : Int) = (aj : Int) - (ai : Int) := by omega
  rw [e1, ← hd]
  have e3 : Rational.make ((p.quantity : Int) - c.sum) 1 = Rational.make (((p.quantity : Int) - c.sum) * d) d := by
    refine (make_eq (by decide) hd0).mpr ?_
    simp
  rw [e3, sub_same hd0, set_toR2 hd0]
  have e4 : (((lvl * p.quantity : Nat) : Int)) = (lvl : Int) * (p.quantity : Int) := Int.natCast_mul _ _
  rw [e4, e2]
  generalize (p.quantity : Int) - c.sum = M
  generalize (lvl : Int) * (p.quantity : Int) - wsum c (prs p) = X
  refine congrArg some (congrArg (toR d) (set2_congr ?_ ?_))
  · grind
  · grind
theorem two_gt {p : Problem} {choice : List Bool} {i j lvl : Nat} (h : (componentAt p j).property < (componentAt p i).property) :
    withTwoFree p choice i j lvl = some (toR ((componentAt p i).property - (componentAt p j).property) ((((cor (avs p) choice [i, j]).map fun x => (((componentAt p i).property - (componentAt p j).property : Nat) : Int) * x).set i
      (((lvl : Int) * (p.quantity : Int) - wsum (cor (avs p) choice [i, j]) (prs p)) - ((componentAt p j).property : Int) * ((p.quantity : Int) - (cor (avs p) choice [i, j]).sum))).set j
      (((componentAt p i).property : Int) * ((p.quantity : Int) - (cor (avs p) choice [i, j]).sum) - ((lvl : Int) * (p.quantity : Int) - wsum (cor (avs p) choice [i, j]) (prs p))))) := by
  unfold withTwoFree
  dsimp only
  rw [if_neg (by omega), base_toR, sum_toR (by decide), prop_toR (by decide) (by rw [cor_len, avs_len])]
  generalize cor (avs p) choice [i, j] = c
  generalize hai : (componentAt p i).property = ai at *
  generalize haj : (componentAt p j).property = aj at *
  obtain ⟨d, hd⟩ : ∃ d, d = ai - aj := ⟨_, rfl⟩
  have hd0 : d ≠ 0 := by omega
  simp only [ofNat_is, sub_is, mul_is, div_is]
  rw [sub_same (by decide), sub_same (by decide), sub_same (by decide), mul_make (by decide) (by decide)]
  rw [Nat.mul_one, sub_same (by decide), div_make (by decide) (by decide) (by omega), if_pos (by omega), Nat.one_mul]
  have e1 : ((ai : Int) - (aj : Int)).natAbs = d := by omega
  have e2 : ((d : Nat) : Int) = (ai : Int) - (aj : Int) := by omega
  rw [e1, ← hd]
  have e3 : Rational.make ((p.quantity : Int) - c.sum) 1 = Rational.make (((p.quantity : Int) - c.sum) * d) d := by
    refine (make_eq (by decide) hd0).mpr ?_
    simp
  rw [e3, sub_same hd0, set_toR2 hd0]
  have e4 : (((lvl * p.quantity : Nat) : Int)) = (lvl : Int) * (p.quantity : Int) := Int.natCast_mul _ _
  rw [e4, e2]
  generalize (p.quantity : Int) - c.sum = M
  generalize (lvl : Int) * (p.quantity : Int) - wsum c (prs p) = X
  refine congrArg some (congrArg (toR d) (set2_congr ?_ ?_))
  · grind
  · grind
end
section
open Ks595 (Rational Problem Component componentAt baseBlend withOneFree withTwoFree basicBlends isFeasible choices propertyTotal costOf isLexSmaller cheapestBlend)
/-- a candidate as a list of rational numbers -/
def asR (x : Int × List Int) : List Rational := toR x.1.toNat x.2
theorem set_cut {c : List Int} {i : Nat} {v : Int} (h : i < c.length) : c.take i ++ [v] ++ c.drop (i + 1) = c.set i v := by
  rw [List.set_eq_take_append_cons_drop, if_pos h, List.append_assoc]
  rfl
theorem mem_oneM {q : Int} {c : List Int} {x : Int × List Int} : x ∈ oneM q c ↔ ∃ i, i < c.length ∧ c[i]? = some 0 ∧ x = (1, c.set i (q - c.sum)) := by
  unfold oneM oneTo
  rw [List.mem_flatMap]
  constructor
  · rintro ⟨i, hi, hx⟩
    have hi := List.mem_range.mp hi
    split at hx
    · rename_i h0
      have hx : x = ((1 : Int), c.take i ++ [q - c.sum] ++ c.drop (i + 1)) := by simpa using hx
      exact ⟨i, hi, h0, by rw [hx, set_cut hi]⟩
    · cases hx
  · rintro ⟨i, hi, h0, rfl⟩
    refine ⟨i, List.mem_range.mpr hi, ?_⟩
    rw [if_pos h0, set_cut hi]
    exact List.mem_singleton.mpr rfl
theorem mem_left {c : List Int} {i : Nat} : i ∈ leftN c ↔ i < c.length ∧ c[i]? = some 0 := by
  constructor
  · exact fun h => leftTo_mem h
  · rintro ⟨h1, h2⟩
    unfold leftN leftTo
    refine List.mem_flatMap.mpr ⟨i, List.mem_range.mpr h1, ?_⟩
    rw [if_pos h2]
    exact List.mem_singleton.mpr rfl
/-- the candidate of two components made up -/
def twoC (q tot : Int) (c pr : List Int) (f s : Nat) : Int × List Int :=
  (pr.getD s 0 - pr.getD f 0, ((c.map fun x => (pr.getD s 0 - pr.getD f 0) * x).set f (pr.getD s 0 * (q - c.sum) - (tot - wsum c pr))).set s ((tot - wsum c pr) - pr.getD f 0 * (q - c.sum)))
theorem mem_twoM {q tot : Int} {c pr : List Int} {x : Int × List Int} : x ∈ twoM q tot c pr ↔ ∃ f s, f < c.length ∧ s < c.length ∧ c[f]? = some 0 ∧ c[s]? = some 0 ∧ pr.getD f 0 < pr.getD s 0 ∧ x = twoC q tot c pr f s := by
  unfold twoM
  rw [List.mem_flatMap]
  constructor
  · rintro ⟨f, hf, hx⟩
    obtain ⟨s, hs, hx⟩ := List.mem_flatMap.mp hx
    obtain ⟨f1, f2⟩ := mem_left.mp hf
    obtain ⟨s1, s2⟩ := mem_left.mp hs
    unfold twoFor at hx
    split at hx
    · rename_i hd
      exact ⟨f, s, f1, s1, f2, s2, by omega, List.mem_singleton.mp hx⟩
    · cases hx
  · rintro ⟨f, s, f1, s1, f2, s2, hd, rfl⟩
    refine ⟨f, mem_left.mpr ⟨f1, f2⟩, List.mem_flatMap.mpr ⟨s, mem_left.mpr ⟨s1, s2⟩, ?_⟩⟩
    unfold twoFor
    rw [if_pos (by omega)]
    exact List.mem_singleton.mpr rfl
theorem mem_candM {q lo hi : Int} {av pr : List Int} {x : Int × List Int} : x ∈ candM q lo hi av pr ↔ ∃ c, c ∈ cornersM av ∧ (x = (1, c) ∨ (∃ i, i < c.length ∧ c[i]? = some 0 ∧ x = (1, c.set i (q - c.sum))) ∨
    ∃ b, (b = lo ∨ b = hi) ∧ ∃ f s, f < c.length ∧ s < c.length ∧ c[f]? = some 0 ∧ c[s]? = some 0 ∧ pr.getD f 0 < pr.getD s 0 ∧ x = twoC q (b * q) c pr f s) := by
  unfold candM candFor
  rw [List.mem_flatMap]
  constructor
  · rintro ⟨c, hc, hx⟩
    refine ⟨c, hc, ?_⟩
    rcases List.mem_append.mp hx with hx | hx
    · rcases List.mem_cons.mp hx with hx | hx
      · exact .inl hx
      · exact .inr (.inl (mem_oneM.mp hx))
    · obtain ⟨b, hb, hx⟩ := List.mem_flatMap.mp hx
      refine .inr (.inr ⟨b, ?_, mem_twoM.mp hx⟩)
      simpa using hb
  · rintro ⟨c, hc, hx | hx | ⟨b, hb, hx⟩⟩
    · exact ⟨c, hc, List.mem_append_left _ (by rw [hx]; exact List.mem_cons_self)⟩
    · exact ⟨c, hc, List.mem_append_left _ (List.mem_cons_of_mem _ (mem_oneM.mpr hx))⟩
    · refine ⟨c, hc, List.mem_append_right _ (List.mem_flatMap.mpr ⟨b, ?_, mem_twoM.mpr hx⟩)⟩
      simpa using hb
theorem cor_zero {av : List Int} {choice : List Bool} {free : List Nat} {i : Nat} (h : i < av.length) (hf : i ∈ free) : (cor av choice free)[i]? = some 0 := by
  rw [cor_at h, if_pos (by simpa using hf)]
theorem set_swap {l : List Int} {i j : Nat} {u v : Int} (h : i ≠ j) : (l.set i u).set j v = (l.set j v).set i u := List.set_comm u v h
/-- of the specification: what is listed ahead of the test -/
theorem mem_basic {p : Problem} {y : List Rational} : y ∈ basicBlends p ↔ isFeasible p y = true ∧ ∃ choice : List Bool, choice.length = p.components.length ∧
    (y = baseBlend p choice [] ∨ (∃ i, i < p.components.length ∧ y = withOneFree p choice i) ∨ ∃ i j lvl, i < p.components.length ∧ j < i ∧ (lvl = p.low ∨ lvl = p.high) ∧ withTwoFree p choice j i lvl = some y) := by
  unfold basicBlends
  rw [List.mem_filter, List.mem_flatMap, and_comm]
  refine and_congr_right fun _ => ?_
  constructor
  · rintro ⟨choice, hc, hy⟩
    refine ⟨choice, mem_choices.mp hc, ?_⟩
    rcases List.mem_append.mp hy with hy | hy
    · rcases List.mem_cons.mp hy with hy | hy
      · exact .inl hy
      · obtain ⟨i, hi, hy⟩ := List.mem_map.mp hy
        exact .inr (.inl ⟨i, List.mem_range.mp hi, hy.symm⟩)
    · obtain ⟨i, hi, hy⟩ := List.mem_flatMap.mp hy
      obtain ⟨j, hj, hy⟩ := List.mem_flatMap.mp hy
      obtain ⟨lvl, hl, hy⟩ := List.mem_filterMap.mp hy
      exact .inr (.inr ⟨i, j, lvl, List.mem_range.mp hi, List.mem_range.mp hj, by simpa using hl, hy⟩)
  · rintro ⟨choice, hc, hy | ⟨i, hi, hy⟩ | ⟨i, j, lvl, hi, hj, hl, hy⟩⟩
    · exact ⟨choice, mem_choices.mpr hc, List.mem_append_left _ (by rw [hy]; exact List.mem_cons_self)⟩
    · exact ⟨choice, mem_choices.mpr hc, List.mem_append_left _ (List.mem_cons_of_mem _ (List.mem_map.mpr ⟨i, List.mem_range.mpr hi, hy.symm⟩))⟩
    · exact ⟨choice, mem_choices.mpr hc, List.mem_append_right _ (List.mem_flatMap.mpr ⟨i, List.mem_range.mpr hi, List.mem_flatMap.mpr ⟨j, List.mem_range.mpr hj, List.mem_filterMap.mpr ⟨lvl, by simpa using hl, hy⟩⟩⟩)⟩
theorem cand_n {p : Problem} {x : Int × List Int} (h : x ∈ candM p.quantity p.low p.high (avs p) (prs p)) : 0 < x.1 ∧ x.2.length = p.components.length := by
  obtain ⟨c, hc, h⟩ := mem_candM.mp h
  have hcl := (mem_corners.mp hc).1
  rw [avs_len] at hcl
  rcases h with rfl | ⟨i, hi, h0, rfl⟩ | ⟨b, hb, f, s, f1, s1, f2, s2, hd, rfl⟩
  · exact ⟨by show (0 : Int) < 1; decide, hcl⟩
  · exact ⟨by show (0 : Int) < 1; decide, by show (c.set i _).length = _; rw [List.length_set]; exact hcl⟩
  · refine ⟨by show (0 : Int) < _ - _; omega, ?_⟩
    show (List.set (List.set _ _ _) _ _).length = _
    rw [List.length_set, List.length_set, List.length_map]
    exact hcl
theorem nat_cast_sub {a b : Nat} (h : a < b) : ((b - a : Nat) : Int) = (b : Int) - (a : Int) := by omega
theorem basic_iff {p : Problem} {y : List Rational} : y ∈ basicBlends p ↔ ∃ x, x ∈ candM p.quantity p.low p.high (avs p) (prs p) ∧ feas p.quantity p.low p.high x.1 (avs p) (prs p) x.2 = true ∧ y = asR x := by
  have feasR : ∀ x ∈ candM p.quantity p.low p.high (avs p) (prs p), isFeasible p (asR x) = feas p.quantity p.low p.high x.1 (avs p) (prs p) x.2 := fun x hx => by
    obtain ⟨h1, h2⟩ := cand_n hx
    unfold asR
    rw [feas_toR (by omega) h2]
    rw [show ((x.1.toNat : Nat) : Int) = x.1 by omega]
  rw [mem_basic]
  constructor
  · rintro ⟨hf, choice, hc, h⟩
    have hx : ∃ x, x ∈ candM p.quantity p.low p.high (avs p) (prs p) ∧ y = asR x := by
      rcases h with rfl | ⟨i, hi, rfl⟩ | ⟨i, j, lvl, hi, hj, hl, hy⟩
      · exact ⟨_, mem_candM.mpr ⟨_, cor_mem (avs p) choice [], .inl rfl⟩, base_toR p choice []⟩
      · refine ⟨_, mem_candM.mpr ⟨_, cor_mem (avs p) choice [i], .inr (.inl ⟨i, ?_, ?_, rfl⟩)⟩, one_toR p choice i⟩
        · rw [cor_len, avs_len]
          exact hi
        · exact cor_zero (by rw [avs_len]; exact hi) (by simp)
      · have hb : ((lvl : Int) = p.low ∨ (lvl : Int) = p.high) := by omega
        have zj : (cor (avs p) choice [j, i])[j]? = some 0 := cor_zero (by rw [avs_len]; omega) (by simp)
        have zi : (cor (avs p) choice [j, i])[i]? = some 0 := cor_zero (by rw [avs_len]; omega) (by simp)
        have lj : j < (cor (avs p) choice [j, i]).length := by rw [cor_len, avs_len]; omega
        have li : i < (cor (avs p) choice [j, i]).length := by rw [cor_len, avs_len]; omega
        by_cases hlt : (componentAt p j).property < (componentAt p i).property
        · rw [two_lt hlt] at hy
          refine ⟨_, mem_candM.mpr ⟨_, cor_mem (avs p) choice [j, i], .inr (.inr ⟨lvl, hb, j, i, lj, li, zj, zi, ?_, rfl⟩)⟩, ?_⟩
          · rw [prs_at, prs_at]
            omega
          · rw [← Option.some.inj hy]
            unfold asR twoC
            rw [prs_at, prs_at]
            have ed := nat_cast_sub hlt
            rw [ed]
            rw [show (((componentAt p i).property : Int) - ((componentAt p j).property : Int)).toNat = (componentAt p i).property - (componentAt p j).property by omega]
        · by_cases hgt : (componentAt p i).property < (componentAt p j).property
          · rw [two_gt hgt] at hy
            refine ⟨_, mem_candM.mpr ⟨_, cor_mem (avs p) choice [j, i], .inr (.inr ⟨lvl, hb, i, j, li, lj, zi, zj, ?_, rfl⟩)⟩, ?_⟩
            · rw [prs_at, prs_at]
              omega
            · rw [← Option.some.inj hy]
              unfold asR twoC
              rw [prs_at, prs_at]
              have ed := nat_cast_sub hgt
              rw [ed, set_swap (by omega)]
              rw [show (((componentAt p j).property : Int) - ((componentAt p i).property : Int)).toNat = (componentAt p j).property - (componentAt p i).property by omega]
          · exfalso
            unfold withTwoFree at hy
            dsimp only at hy
            rw [if_pos (by omega)] at hy
            cases hy
    obtain ⟨x, hx, rfl⟩ := hx
    exact ⟨x, hx, by rw [← feasR x hx]; exact hf, rfl⟩
  · rintro ⟨x, hx, hf, rfl⟩
    refine ⟨by rw [feasR x hx]; exact hf, ?_⟩
    obtain ⟨c, hc, h⟩ := mem_candM.mp hx
    obtain ⟨choice, hch, hcor⟩ := cor_of hc
    rw [avs_len] at hch
    have hcl := (mem_corners.mp hc).1
    rw [avs_len] at hcl
    refine ⟨choice, hch, ?_⟩
    rcases h with rfl | ⟨i, hi, h0, rfl⟩ | ⟨b, hb, f, s, f1, s1, f2, s2, hd, rfl⟩
    · refine .inl ?_
      rw [base_toR, hcor [] (fun i hi => nomatch hi)]
      rfl
    · refine .inr (.inl ⟨i, by omega, ?_⟩)
      rw [one_toR, hcor [i] (fun j hj => by
        have : j = i := by simpa using hj
        rw [this]
        exact .inl h0)]
      rfl
    · obtain ⟨lvl, hl, hbl⟩ : ∃ lvl : Nat, (lvl = p.low ∨ lvl = p.high) ∧ b = (lvl : Int) := by
        rcases hb with rfl | rfl
        · exact ⟨p.low, .inl rfl, rfl⟩
        · exact ⟨p.high, .inr rfl, rfl⟩
      rw [prs_at, prs_at] at hd
      have hfs : f ≠ s := fun z => by rw [z] at hd; omega
      by_cases hlt : f < s
      · refine .inr (.inr ⟨s, f, lvl, by omega, hlt, hl, ?_⟩)
        rw [two_lt (by omega), hcor [f, s] (fun j hj => by
          simp only [List.mem_cons, List.not_mem_nil, or_false] at hj
          rcases hj with rfl | rfl
          · exact .inl f2
          · exact .inl s2)]
        unfold asR twoC
        rw [prs_at, prs_at, hbl, nat_cast_sub (by omega)]
        rw [show (((componentAt p s).property : Int) - ((componentAt p f).property : Int)).toNat = (componentAt p s).property - (componentAt p f).property by omega]
      · refine .inr (.inr ⟨f, s, lvl, by omega, by omega, hl, ?_⟩)
        rw [two_gt (by omega), hcor [s, f] (fun j hj => by
          simp only [List.mem_cons, List.not_mem_nil, or_false] at hj
          rcases hj with rfl | rfl
          · exact .inl s2
          · exact .inl f2)]
        unfold asR twoC
        rw [prs_at, prs_at, hbl, nat_cast_sub (by omega), set_swap (Ne.symm hfs)]
        rw [show (((componentAt p s).property : Int) - ((componentAt p f).property : Int)).toNat = (componentAt p s).property - (componentAt p f).property by omega]
end
section
open Ks595 (Rational Problem Component componentAt basicBlends isFeasible costOf isLexSmaller cheapestBlend)
/-! ### the order of the candidates -/
theorem cross_lt {x y z d e f : Int} (hd : 0 < d) (he : 0 < e) (hf : 0 < f) (h1 : y * d ≤ x * e) (h2 : x * f ≤ z * d) (h3 : y * d < x * e ∨ x * f < z * d) : y * f < z * e := by
  have a1 : (y * d) * f ≤ (x * e) * f := Int.mul_le_mul_of_nonneg_right h1 (Int.le_of_lt hf)
  have a2 : (x * f) * e ≤ (z * d) * e := Int.mul_le_mul_of_nonneg_right h2 (Int.le_of_lt he)
  have e1 : (y * f) * d = (y * d) * f := by rw [Int.mul_right_comm]
  have e2 : (x * e) * f = (x * f) * e := by rw [Int.mul_right_comm]
  have e3 : (z * e) * d = (z * d) * e := by rw [Int.mul_right_comm]
  have g : (y * f) * d < (z * e) * d := by
    rw [e1, e3]
    rcases h3 with h | h
    · have := Int.mul_lt_mul_of_pos_right h hf
      omega
    · have := Int.mul_lt_mul_of_pos_right h he
      omega
  exact Int.lt_of_mul_lt_mul_right g (Int.le_of_lt hd)
theorem cross_eq2 {x y z d e f : Int} (hd : 0 < d) (h1 : x * f = z * d) (h2 : x * e = y * d) : y * f = z * e := by
  have g : (y * f) * d = (z * e) * d := by
    rw [Int.mul_right_comm, ← h2, Int.mul_right_comm z e d, ← h1, Int.mul_right_comm]
  exact Int.eq_of_mul_eq_mul_right (by omega) g
theorem lex_cons (x y : Int) (xs ys : List Int) : HT.lexLt (x :: xs) (y :: ys) = if x = y then HT.lexLt xs ys else decide (x < y) := rfl
theorem lex_nt {d e f : Int} (hd : 0 < d) (he : 0 < e) (hf : 0 < f) : ∀ (xs ys zs : List Int), xs.length = ys.length → zs.length = ys.length → HT.lexLt (xs.map (· * f)) (zs.map (· * d)) = true →
    HT.lexLt (xs.map (· * e)) (ys.map (· * d)) = true ∨ HT.lexLt (ys.map (· * f)) (zs.map (· * e)) = true
  | [], [], [], _, _, h => by cases h
  | [], _ :: _, _, h, _, _ => by simp at h
  | _ :: _, [], _, h, _, _ => by simp at h
  | [], [], _ :: _, _, h, _ => by simp at h
  | _ :: _, _ :: _, [], _, h, _ => by simp at h
  | x :: xs, y :: ys, z :: zs, h1, h2, h => by
    rw [List.map_cons, List.map_cons, lex_cons] at h
    rw [List.map_cons, List.map_cons, List.map_cons, List.map_cons, lex_cons, lex_cons]
    by_cases c1 : x * f = z * d
    · rw [if_pos c1] at h
      by_cases c2 : x * e = y * d
      · rw [if_pos c2, if_pos (cross_eq2 hd c1 c2)]
        exact lex_nt hd he hf xs ys zs (by simpa using h1) (by simpa using h2) h
      · rw [if_neg c2]
        by_cases c3 : x * e < y * d
        · exact .inl (decide_eq_true c3)
        · have := cross_lt hd he hf (x := x) (y := y) (z := z) (by omega) (by omega) (.inl (by omega))
          rw [if_neg (by omega)]
          exact .inr (decide_eq_true this)
    · rw [if_neg c1] at h
      have h := of_decide_eq_true h
      by_cases c3 : x * e < y * d
      · rw [if_neg (by omega)]
        exact .inl (decide_eq_true c3)
      · have := cross_lt hd he hf (x := x) (y := y) (z := z) (by omega) (by omega) (.inr h)
        rw [if_neg (show ¬ y * f = z * e by omega)]
        exact .inr (decide_eq_true this)
theorem lex_asym : ∀ (xs ys : List Int), HT.lexLt xs ys = true → HT.lexLt ys xs = false
  | [], [], h => by cases h
  | [], _ :: _, _ => rfl
  | _ :: _, [], h => by cases h
  | x :: xs, y :: ys, h => by
    rw [lex_cons] at h ⊢
    by_cases c : x = y
    · rw [if_pos c] at h
      rw [if_pos c.symm]
      exact lex_asym xs ys h
    · rw [if_neg c] at h
      rw [if_neg (fun z => c z.symm)]
      have := of_decide_eq_true h
      exact decide_eq_false (by omega)
theorem lex_tri : ∀ (xs ys : List Int), xs.length = ys.length → HT.lexLt xs ys = false → HT.lexLt ys xs = false → xs = ys
  | [], [], _, _, _ => rfl
  | [], _ :: _, h, _, _ => by simp at h
  | _ :: _, [], h, _, _ => by simp at h
  | x :: xs, y :: ys, hl, h1, h2 => by
    rw [lex_cons] at h1 h2
    by_cases c : x = y
    · rw [if_pos c] at h1
      rw [if_pos c.symm] at h2
      rw [c, lex_tri xs ys (by simpa using hl) h1 h2]
    · rw [if_neg c] at h1
      rw [if_neg (fun z => c z.symm)] at h2
      have a1 := of_decide_eq_false h1
      have a2 := of_decide_eq_false h2
      omega
theorem lex_toR {d e : Nat} (hd : d ≠ 0) (he : e ≠ 0) : ∀ (xs ys : List Int), xs.length = ys.length → isLexSmaller (toR d xs) (toR e ys) = HT.lexLt (xs.map (· * (e : Int))) (ys.map (· * (d : Int)))
  | [], [], _ => rfl
  | [], _ :: _, h => by simp at h
  | _ :: _, [], h => by simp at h
  | x :: xs, y :: ys, h => by
    have ih := lex_toR hd he xs ys (by simpa using h)
    rw [List.map_cons, List.map_cons, lex_cons]
    show (Rational.lt (Rational.make x d) (Rational.make y e) || (Rational.make x d == Rational.make y e && isLexSmaller (toR d xs) (toR e ys))) = _
    rw [lt_make hd he, beq_iff, ih]
    by_cases c : x * (e : Int) = y * (d : Int)
    · rw [if_pos c, decide_eq_false (by omega), decide_eq_true ((make_eq hd he).mpr c), Bool.true_and, Bool.false_or]
    · rw [if_neg c, decide_eq_false (fun z => c ((make_eq hd he).mp z)), Bool.false_and, Bool.or_false]
/-- the least of a list, whichever stands first -/
theorem fold_min {α : Type} {lt : α → α → Bool} {Ok : α → Prop} (asym : ∀ x y, Ok x → Ok y → lt x y = true → lt y x = false) (nt : ∀ x y z, Ok x → Ok y → Ok z → lt x z = true → lt x y = true ∨ lt y z = true) :
    ∀ (l : List α) (b : α), Ok b → (∀ x ∈ l, Ok x) → (l.foldl (fun best x => if lt x best = true then x else best) b ∈ b :: l) ∧ ∀ x ∈ b :: l, lt x (l.foldl (fun best x => if lt x best = true then x else best) b) = false
  | [], b, hb, _ => by
    refine ⟨List.mem_cons_self, fun x hx => ?_⟩
    have : x = b := by simpa using hx
    subst this
    show lt x x = false
    cases h : lt x x with
    | false => rfl
    | true =>
      have := asym x x hb hb h
      rw [h] at this
      exact this
  | y :: r, b, hb, hl => by
    have hy : Ok y := hl y List.mem_cons_self
    have hr : ∀ x ∈ r, Ok x := fun x hx => hl x (List.mem_cons_of_mem _ hx)
    rw [List.foldl_cons]
    have hb' : Ok (if lt y b = true then y else b) := by
      split <;> assumption
    obtain ⟨ih1, ih2⟩ := fold_min asym nt r (if lt y b = true then y else b) hb' hr
    generalize hm : r.foldl (fun best x => if lt x best = true then x else best) (if lt y b = true then y else b) = m at *
    have hmem : m ∈ b :: y :: r := by
      rcases List.mem_cons.mp ih1 with h | h
      · rw [h]
        split
        · exact List.mem_cons_of_mem _ List.mem_cons_self
        · exact List.mem_cons_self
      · exact List.mem_cons_of_mem _ (List.mem_cons_of_mem _ h)
    have hmok : Ok m := by
      rcases List.mem_cons.mp hmem with h | h
      · rw [h]
        exact hb
      · exact hl m h
    refine ⟨hmem, ?_⟩
    have key : lt b m = false ∧ lt y m = false := by
      cases c : lt y b with
      | true =>
        rw [c, if_pos rfl] at ih2
        have h1 := ih2 y List.mem_cons_self
        refine ⟨?_, h1⟩
        cases h2 : lt b m with
        | false => rfl
        | true =>
          rcases nt b y m hb hy hmok h2 with h | h
          · have := asym y b hy hb c
            rw [h] at this
            exact this
          · rw [h1] at h
            cases h
      | false =>
        rw [c, if_neg Bool.false_ne_true] at ih2
        have h1 := ih2 b List.mem_cons_self
        refine ⟨h1, ?_⟩
        cases h2 : lt y m with
        | false => rfl
        | true =>
          rcases nt y b m hy hb hmok h2 with h | h
          · rw [c] at h
            cases h
          · rw [h1] at h
            cases h
    intro x hx
    rcases List.mem_cons.mp hx with rfl | hx
    · exact key.1
    · rcases List.mem_cons.mp hx with rfl | hx
      · exact key.2
      · exact ih2 x (List.mem_cons_of_mem _ hx)
/-! ### the cheapest blend -/
/-- a candidate with its cost ahead -/
def keyOf (co : List Int) (x : Int × List Int) : Int × List Int := (x.1, wsum x.2 co :: x.2)
def stepK (best : Option (Int × List Int)) (k : Int × List Int) : Option (Int × List Int) := match best with
  | none => some k
  | some o => if before k o = true then some k else some o
theorem foldl_stepB {q lo hi : Int} {av co pr : List Int} : ∀ (l : List (Int × List Int)) (best : Option (Int × List Int)),
    l.foldl (stepB q lo hi av co pr) best = ((l.filter fun x => feas q lo hi x.1 av pr x.2).map (keyOf co)).foldl stepK best
  | [], _ => rfl
  | x :: r, best => by
    rw [List.foldl_cons, foldl_stepB r]
    by_cases c : feas q lo hi x.1 av pr x.2 = true
    · rw [List.filter_cons_of_pos (by exact c), List.map_cons, List.foldl_cons]
      congr 1
      unfold stepB
      rw [if_pos c]
      cases best <;> rfl
    · rw [List.filter_cons_of_neg (by exact c)]
      congr 1
      unfold stepB
      rw [if_neg c]
theorem foldl_stepK : ∀ (l : List (Int × List Int)) (k : Int × List Int), l.foldl stepK (some k) = some (l.foldl (fun best x => if before x best = true then x else best) k)
  | [], _ => rfl
  | x :: r, k => by
    rw [List.foldl_cons, List.foldl_cons]
    have e : stepK (some k) x = some (if before x k = true then x else k) := by
      unfold stepK
      dsimp only
      split <;> rfl
    rw [e, foldl_stepK r]
def KeyOk (n : Nat) (k : Int × List Int) : Prop := 0 < k.1 ∧ k.2.length = n
theorem before_asym {x y : Int × List Int} (h : before x y = true) : before y x = false := lex_asym _ _ h
theorem before_nt {n : Nat} {x y z : Int × List Int} (hx : KeyOk n x) (hy : KeyOk n y) (hz : KeyOk n z) (h : before x z = true) : before x y = true ∨ before y z = true :=
  lex_nt hx.1 hy.1 hz.1 x.2 y.2 z.2 (hx.2.trans hy.2.symm) (hz.2.trans hy.2.symm) h
theorem cast_nat {x : Int} (h : 0 < x) : ((x.toNat : Nat) : Int) = x := by omega
theorem before_R {n : Nat} {x y : Int × List Int} (hx : KeyOk n x) (hy : KeyOk n y) : isLexSmaller (asR x) (asR y) = before x y := by
  unfold asR before
  have h1 := hx.1
  have h2 := hy.1
  rw [lex_toR (by omega) (by omega) x.2 y.2 (hx.2.trans hy.2.symm), cast_nat h1, cast_nat h2]
theorem tri_R {n : Nat} {x y : Int × List Int} (hx : KeyOk n x) (hy : KeyOk n y) (h1 : before x y = false) (h2 : before y x = false) : asR x = asR y := by
  have e := lex_tri _ _ (by rw [List.length_map, List.length_map, hx.2, hy.2]) h1 h2
  have p1 := hx.1
  have p2 := hy.1
  unfold asR toR
  refine List.ext_getElem (by rw [List.length_map, List.length_map, hx.2, hy.2]) fun i g1 g2 => ?_
  rw [List.getElem_map, List.getElem_map]
  rw [List.length_map] at g1 g2
  have ei : (x.2.map (· * y.1))[i]? = (y.2.map (· * x.1))[i]? := by rw [e]
  rw [List.getElem?_map, List.getElem?_map, List.getElem?_eq_getElem g1, List.getElem?_eq_getElem g2] at ei
  have ei := Option.some.inj ei
  refine (make_eq (by omega) (by omega)).mpr ?_
  rw [cast_nat p1, cast_nat p2]
  exact ei
theorem lex_iff (a b : Rational) (xs ys : List Rational) : isLexSmaller (a :: xs) (b :: ys) = true ↔ Rational.lt a b = true ∨ (a = b ∧ isLexSmaller xs ys = true) := by
  show (Rational.lt a b || (a == b && isLexSmaller xs ys)) = true ↔ _
  rw [Bool.or_eq_true, Bool.and_eq_true, beq_iff, decide_eq_true_eq]
theorem cheapest_is (p : Problem) : cheapestBlend p = match basicBlends p with
    | [] => none
    | first :: rest => some (rest.foldl (fun best x => if isLexSmaller (costOf p x :: x) (costOf p best :: best) = true then x else best) first) := by
  unfold cheapestBlend
  cases basicBlends p with
  | nil => rfl
  | cons first rest =>
    refine congrArg some ?_
    congr 1
    funext best x
    by_cases h : isLexSmaller (costOf p x :: x) (costOf p best :: best) = true
    · rw [if_pos h, if_pos ((lex_iff _ _ _ _).mp h)]
    · rw [if_neg h, if_neg (fun z => h ((lex_iff _ _ _ _).mpr z))]
theorem key_R {p : Problem} {x : Int × List Int} (h : x ∈ candM p.quantity p.low p.high (avs p) (prs p)) : costOf p (asR x) :: asR x = asR (keyOf (csts p) x) := by
  obtain ⟨h1, h2⟩ := cand_n h
  have e : costOf p (asR x) = Rational.make (wsum x.2 (csts p)) x.1.toNat := cost_toR (by omega) h2
  rw [e]
  rfl
theorem best_none {p : Problem} (h : bestM p.quantity p.low p.high (avs p) (csts p) (prs p) = none) : cheapestBlend p = none := by
  have hf : (candM p.quantity p.low p.high (avs p) (prs p)).filter (fun x => feas p.quantity p.low p.high x.1 (avs p) (prs p) x.2) = [] := by
    unfold bestM at h
    rw [foldl_stepB] at h
    cases c : (candM p.quantity p.low p.high (avs p) (prs p)).filter (fun x => feas p.quantity p.low p.high x.1 (avs p) (prs p) x.2) with
    | nil => rfl
    | cons x r =>
      rw [c, List.map_cons, List.foldl_cons] at h
      have e : stepK none (keyOf (csts p) x) = some (keyOf (csts p) x) := rfl
      rw [e, foldl_stepK] at h
      cases h
  have hb : basicBlends p = [] := by
    refine List.eq_nil_iff_forall_not_mem.mpr fun y hy => ?_
    obtain ⟨x, hx, hfe, _⟩ := basic_iff.mp hy
    have : x ∈ (candM p.quantity p.low p.high (avs p) (prs p)).filter (fun x => feas p.quantity p.low p.high x.1 (avs p) (prs p) x.2) := List.mem_filter.mpr ⟨hx, hfe⟩
    rw [hf] at this
    cases this
  rw [cheapest_is, hb]
theorem best_some {p : Problem} {k : Int × List Int} (h : bestM p.quantity p.low p.high (avs p) (csts p) (prs p) = some k) : 0 < k.1 ∧ k.2.length = p.components.length + 1 ∧ ∃ y, cheapestBlend p = some y ∧ costOf p y :: y = asR k := by
  obtain ⟨l, hl⟩ : ∃ l, l = (candM p.quantity p.low p.high (avs p) (prs p)).filter (fun x => feas p.quantity p.low p.high x.1 (avs p) (prs p) x.2) := ⟨_, rfl⟩
  have lmem : ∀ x ∈ l, x ∈ candM p.quantity p.low p.high (avs p) (prs p) := fun x hx => (List.mem_filter.mp (hl ▸ hx)).1
  have kok : ∀ x ∈ l.map (keyOf (csts p)), KeyOk (p.components.length + 1) x := fun x hx => by
    obtain ⟨z, hz, rfl⟩ := List.mem_map.mp hx
    obtain ⟨h1, h2⟩ := cand_n (lmem z hz)
    exact ⟨h1, by show (wsum z.2 (csts p) :: z.2).length = _; rw [List.length_cons, h2]⟩
  unfold bestM at h
  rw [foldl_stepB, ← hl] at h
  have hk : k ∈ l.map (keyOf (csts p)) ∧ ∀ x ∈ l.map (keyOf (csts p)), before x k = false := by
    cases c : l.map (keyOf (csts p)) with
    | nil =>
      rw [c] at h
      cases h
    | cons x r =>
      rw [c] at h kok
      rw [List.foldl_cons] at h
      have e : stepK none x = some x := rfl
      rw [e, foldl_stepK] at h
      have h := Option.some.inj h
      rw [← h]
      exact fold_min (lt := before) (Ok := KeyOk (p.components.length + 1)) (fun x y _ _ h => before_asym h) (fun x y z hx hy hz h => before_nt (n := p.components.length + 1) hx hy hz h) r x (kok x List.mem_cons_self) fun y hy => kok y (List.mem_cons_of_mem _ hy)
  have kk := kok k hk.1
  refine ⟨kk.1, kk.2, ?_⟩
  -- the specification's own least
  obtain ⟨x0, hx0, ex0⟩ := List.mem_map.mp hk.1
  have hx0' := List.mem_filter.mp (hl ▸ hx0)
  have hin : asR x0 ∈ basicBlends p := basic_iff.mpr ⟨x0, hx0'.1, hx0'.2, rfl⟩
  have okR : ∀ y ∈ basicBlends p, ∃ x, x ∈ l ∧ y = asR x := fun y hy => by
    obtain ⟨x, hx, hfe, e⟩ := basic_iff.mp hy
    exact ⟨x, hl ▸ List.mem_filter.mpr ⟨hx, hfe⟩, e⟩
  have cmp : ∀ x y, x ∈ l → y ∈ l → isLexSmaller (costOf p (asR x) :: asR x) (costOf p (asR y) :: asR y) = before (keyOf (csts p) x) (keyOf (csts p) y) := fun x y hx hy => by
    rw [key_R (lmem x hx), key_R (lmem y hy)]
    exact before_R (kok _ (List.mem_map_of_mem hx)) (kok _ (List.mem_map_of_mem hy))
  rw [cheapest_is]
  cases c : basicBlends p with
  | nil =>
    rw [c] at hin
    cases hin
  | cons first rest =>
    rw [c] at okR hin
    have fm := fold_min (lt := fun x best => isLexSmaller (costOf p x :: x) (costOf p best :: best)) (Ok := fun y => ∃ x, x ∈ l ∧ y = asR x) (fun x y hx hy h => by
      obtain ⟨x', hx', rfl⟩ := hx
      obtain ⟨y', hy', rfl⟩ := hy
      rw [cmp _ _ hx' hy'] at h
      rw [cmp _ _ hy' hx']
      exact before_asym h) (fun x y z hx hy hz h => by
      obtain ⟨x', hx', rfl⟩ := hx
      obtain ⟨y', hy', rfl⟩ := hy
      obtain ⟨z', hz', rfl⟩ := hz
      rw [cmp _ _ hx' hz'] at h
      rw [cmp _ _ hx' hy', cmp _ _ hy' hz']
      exact before_nt (kok _ (List.mem_map_of_mem hx')) (kok _ (List.mem_map_of_mem hy')) (kok _ (List.mem_map_of_mem hz')) h) rest first (okR first List.mem_cons_self) fun y hy => okR y (List.mem_cons_of_mem _ hy)
    refine ⟨_, rfl, ?_⟩
    obtain ⟨m1, m2⟩ := fm
    generalize rest.foldl (fun best x => if isLexSmaller (costOf p x :: x) (costOf p best :: best) = true then x else best) first = m at *
    obtain ⟨xm, hxm, rfl⟩ := okR m m1
    have a1 : before k (keyOf (csts p) xm) = false := by
      rw [← ex0, ← cmp _ _ hx0 hxm]
      exact m2 _ hin
    have a2 := hk.2 _ (List.mem_map_of_mem (f := keyOf (csts p)) hxm)
    rw [key_R (lmem xm hxm)]
    exact tri_R (kok _ (List.mem_map_of_mem hxm)) kk a2 a1
end
section
open Ks595 (Rational Problem Component componentAt basicBlends isFeasible costOf isLexSmaller cheapestBlend)
theorem cheap_spec {q lo hi : Int} {ns : List Int} (hq : 0 ≤ q) (hlo : 0 ≤ lo) (hhi : 0 ≤ hi) (h0 : ∀ x ∈ ns, 0 ≤ x) : PyKs595.cheapest_blend q lo hi ns = cheapM q lo hi ns := by
  have e0 : PyKs595.cheapest_blend q lo hi ns = Ks595Neutral.integers (Ks595.withProblem q.toNat lo.toNat hi.toNat (ns.map Int.toNat) fun p => match cheapestBlend p with
    | none => Ks595.number (-33)
    | some blend => { value := 0, rest := Ks595.pairs (costOf p blend :: blend) }) := rfl
  rw [e0]
  unfold Ks595.withProblem cheapM
  rw [parse_prob hq hlo hhi h0]
  by_cases h1 : reqOk q lo hi ns = true
  · rw [if_pos h1, if_pos h1]
    obtain ⟨ea, ec, ep, el, eq, elo, ehi⟩ := prob_parts h1
    generalize prob q lo hi ns = p at *
    rw [← ea, ← ec, ← ep, ← eq, ← elo, ← ehi]
    cases hb : bestM p.quantity p.low p.high (avs p) (csts p) (prs p) with
    | none =>
      dsimp only
      rw [best_none hb]
      rfl
    | some k =>
      dsimp only
      obtain ⟨k1, k2, y, hy, hk⟩ := best_some hb
      rw [hy]
      dsimp only
      rw [hk]
      unfold asR
      have er := pairs_ratI (d := k.1.toNat) (by omega) k.2
      rw [cast_nat k1] at er
      show (0 : Int) :: Ks595.pairs (toR k.1.toNat k.2) = _
      rw [er]
  · rw [if_neg h1, if_neg h1]
    rfl
end
end
theorem all_mk {P : Program} {w : World} {K : PySem.W.Frag} {h : Heap} {mg : Str → Option Value} {fa : Addr} (X : K.In h) (G : h.Ns mainGlobals mg) (hfa : mg "cheapest_blend" = some (.ref fa))
    {f0 : Addr} {od0 an0 : Option Addr} {sl0 : Array (Option Value)} {oc0 kV0 dc0 pm0 cd0 ct0 : Value}
    (a0 : PySem.W.nsIn K mainGlobals "cheapest_blend" = some (some (.ref f0))) (l0 : K.lookup f0 = some ⟨oc0, od0, .func (PySem.W.fnOf "cheapest_blend" "cheapest_blend" (defArgs s_cheapest_blend) (defBody s_cheapest_blend) (defScope s_cheapest_blend) .none kV0 dc0 pm0 an0 cd0 ct0), sl0⟩) (c0 : PySem.W.codeIn K cd0 "cheapest_blend" = true) (k0 : PySem.W.keepIn K (.ref f0) = true)
    {f1 : Addr} {od1 an1 : Option Addr} {sl1 : Array (Option Value)} {oc1 kV1 dc1 pm1 cd1 ct1 : Value}
    (a1 : PySem.W.nsIn K mainGlobals "request_within_limits" = some (some (.ref f1))) (l1 : K.lookup f1 = some ⟨oc1, od1, .func (PySem.W.fnOf "request_within_limits" "request_within_limits" (defArgs s_request_within_limits) (defBody s_request_within_limits) (defScope s_request_within_limits) .none kV1 dc1 pm1 an1 cd1 ct1), sl1⟩) (c1 : PySem.W.codeIn K cd1 "request_within_limits" = true) (k1 : PySem.W.keepIn K (.ref f1) = true)
    {f2 : Addr} {od2 an2 : Option Addr} {sl2 : Array (Option Value)} {oc2 kV2 dc2 pm2 cd2 ct2 : Value}
    (a2 : PySem.W.nsIn K mainGlobals "bounds_within_limits" = some (some (.ref f2))) (l2 : K.lookup f2 = some ⟨oc2, od2, .func (PySem.W.fnOf "bounds_within_limits" "bounds_within_limits" (defArgs s_bounds_within_limits) (defBody s_bounds_within_limits) (defScope s_bounds_within_limits) .none kV2 dc2 pm2 an2 cd2 ct2), sl2⟩) (c2 : PySem.W.codeIn K cd2 "bounds_within_limits" = true) (k2 : PySem.W.keepIn K (.ref f2) = true)
    {f3 : Addr} {od3 an3 : Option Addr} {sl3 : Array (Option Value)} {oc3 kV3 dc3 pm3 cd3 ct3 : Value}
    (a3 : PySem.W.nsIn K mainGlobals "components_within_limits" = some (some (.ref f3))) (l3 : K.lookup f3 = some ⟨oc3, od3, .func (PySem.W.fnOf "components_within_limits" "components_within_limits" (defArgs s_components_within_limits) (defBody s_components_within_limits) (defScope s_components_within_limits) .none kV3 dc3 pm3 an3 cd3 ct3), sl3⟩) (c3 : PySem.W.codeIn K cd3 "components_within_limits" = true) (k3 : PySem.W.keepIn K (.ref f3) = true)
    {f4 : Addr} {od4 an4 : Option Addr} {sl4 : Array (Option Value)} {oc4 kV4 dc4 pm4 cd4 ct4 : Value}
    (a4 : PySem.W.nsIn K mainGlobals "within" = some (some (.ref f4))) (l4 : K.lookup f4 = some ⟨oc4, od4, .func (PySem.W.fnOf "within" "within" (defArgs s_within) (defBody s_within) (defScope s_within) .none kV4 dc4 pm4 an4 cd4 ct4), sl4⟩) (c4 : PySem.W.codeIn K cd4 "within" = true) (k4 : PySem.W.keepIn K (.ref f4) = true)
    {f5 : Addr} {od5 an5 : Option Addr} {sl5 : Array (Option Value)} {oc5 kV5 dc5 pm5 cd5 ct5 : Value}
    (a5 : PySem.W.nsIn K mainGlobals "is_feasible" = some (some (.ref f5))) (l5 : K.lookup f5 = some ⟨oc5, od5, .func (PySem.W.fnOf "is_feasible" "is_feasible" (defArgs s_is_feasible) (defBody s_is_feasible) (defScope s_is_feasible) .none kV5 dc5 pm5 an5 cd5 ct5), sl5⟩) (c5 : PySem.W.codeIn K cd5 "is_feasible" = true) (k5 : PySem.W.keepIn K (.ref f5) = true)
    {f6 : Addr} {od6 an6 : Option Addr} {sl6 : Array (Option Value)} {oc6 kV6 dc6 pm6 cd6 ct6 : Value}
    (a6 : PySem.W.nsIn K mainGlobals "best_candidate" = some (some (.ref f6))) (l6 : K.lookup f6 = some ⟨oc6, od6, .func (PySem.W.fnOf "best_candidate" "best_candidate" (defArgs s_best_candidate) (defBody s_best_candidate) (defScope s_best_candidate) .none kV6 dc6 pm6 an6 cd6 ct6), sl6⟩) (c6 : PySem.W.codeIn K cd6 "best_candidate" = true) (k6 : PySem.W.keepIn K (.ref f6) = true)
    {f7 : Addr} {od7 an7 : Option Addr} {sl7 : Array (Option Value)} {oc7 kV7 dc7 pm7 cd7 ct7 : Value}
    (a7 : PySem.W.nsIn K mainGlobals "basic_candidates" = some (some (.ref f7))) (l7 : K.lookup f7 = some ⟨oc7, od7, .func (PySem.W.fnOf "basic_candidates" "basic_candidates" (defArgs s_basic_candidates) (defBody s_basic_candidates) (defScope s_basic_candidates) .none kV7 dc7 pm7 an7 cd7 ct7), sl7⟩) (c7 : PySem.W.codeIn K cd7 "basic_candidates" = true) (k7 : PySem.W.keepIn K (.ref f7) = true)
    {f8 : Addr} {od8 an8 : Option Addr} {sl8 : Array (Option Value)} {oc8 kV8 dc8 pm8 cd8 ct8 : Value}
    (a8 : PySem.W.nsIn K mainGlobals "corners" = some (some (.ref f8))) (l8 : K.lookup f8 = some ⟨oc8, od8, .func (PySem.W.fnOf "corners" "corners" (defArgs s_corners) (defBody s_corners) (defScope s_corners) .none kV8 dc8 pm8 an8 cd8 ct8), sl8⟩) (c8 : PySem.W.codeIn K cd8 "corners" = true) (k8 : PySem.W.keepIn K (.ref f8) = true)
    {f9 : Addr} {od9 an9 : Option Addr} {sl9 : Array (Option Value)} {oc9 kV9 dc9 pm9 cd9 ct9 : Value}
    (a9 : PySem.W.nsIn K mainGlobals "one_made_up" = some (some (.ref f9))) (l9 : K.lookup f9 = some ⟨oc9, od9, .func (PySem.W.fnOf "one_made_up" "one_made_up" (defArgs s_one_made_up) (defBody s_one_made_up) (defScope s_one_made_up) .none kV9 dc9 pm9 an9 cd9 ct9), sl9⟩) (c9 : PySem.W.codeIn K cd9 "one_made_up" = true) (k9 : PySem.W.keepIn K (.ref f9) = true)
    {f10 : Addr} {od10 an10 : Option Addr} {sl10 : Array (Option Value)} {oc10 kV10 dc10 pm10 cd10 ct10 : Value}
    (a10 : PySem.W.nsIn K mainGlobals "two_made_up" = some (some (.ref f10))) (l10 : K.lookup f10 = some ⟨oc10, od10, .func (PySem.W.fnOf "two_made_up" "two_made_up" (defArgs s_two_made_up) (defBody s_two_made_up) (defScope s_two_made_up) .none kV10 dc10 pm10 an10 cd10 ct10), sl10⟩) (c10 : PySem.W.codeIn K cd10 "two_made_up" = true) (k10 : PySem.W.keepIn K (.ref f10) = true)
    {f11 : Addr} {od11 an11 : Option Addr} {sl11 : Array (Option Value)} {oc11 kV11 dc11 pm11 cd11 ct11 : Value}
    (a11 : PySem.W.nsIn K mainGlobals "comes_before" = some (some (.ref f11))) (l11 : K.lookup f11 = some ⟨oc11, od11, .func (PySem.W.fnOf "comes_before" "comes_before" (defArgs s_comes_before) (defBody s_comes_before) (defScope s_comes_before) .none kV11 dc11 pm11 an11 cd11 ct11), sl11⟩) (c11 : PySem.W.codeIn K cd11 "comes_before" = true) (k11 : PySem.W.keepIn K (.ref f11) = true)
    {f12 : Addr} {od12 an12 : Option Addr} {sl12 : Array (Option Value)} {oc12 kV12 dc12 pm12 cd12 ct12 : Value}
    (a12 : PySem.W.nsIn K mainGlobals "weighted_sum" = some (some (.ref f12))) (l12 : K.lookup f12 = some ⟨oc12, od12, .func (PySem.W.fnOf "weighted_sum" "weighted_sum" (defArgs s_weighted_sum) (defBody s_weighted_sum) (defScope s_weighted_sum) .none kV12 dc12 pm12 an12 cd12 ct12), sl12⟩) (c12 : PySem.W.codeIn K cd12 "weighted_sum" = true) (k12 : PySem.W.keepIn K (.ref f12) = true)
    {f13 : Addr} {od13 an13 : Option Addr} {sl13 : Array (Option Value)} {oc13 kV13 dc13 pm13 cd13 ct13 : Value}
    (a13 : PySem.W.nsIn K mainGlobals "rational_numbers" = some (some (.ref f13))) (l13 : K.lookup f13 = some ⟨oc13, od13, .func (PySem.W.fnOf "rational_numbers" "rational_numbers" (defArgs s_rational_numbers) (defBody s_rational_numbers) (defScope s_rational_numbers) .none kV13 dc13 pm13 an13 cd13 ct13), sl13⟩) (c13 : PySem.W.codeIn K cd13 "rational_numbers" = true) (k13 : PySem.W.keepIn K (.ref f13) = true)
    {f14 : Addr} {od14 an14 : Option Addr} {sl14 : Array (Option Value)} {oc14 kV14 dc14 pm14 cd14 ct14 : Value}
    (a14 : PySem.W.nsIn K mainGlobals "common_divisor" = some (some (.ref f14))) (l14 : K.lookup f14 = some ⟨oc14, od14, .func (PySem.W.fnOf "common_divisor" "common_divisor" (defArgs s_common_divisor) (defBody s_common_divisor) (defScope s_common_divisor) .none kV14 dc14 pm14 an14 cd14 ct14), sl14⟩) (c14 : PySem.W.codeIn K cd14 "common_divisor" = true) (k14 : PySem.W.keepIn K (.ref f14) = true)
    (z_all : PySem.W.nsIn K mainGlobals "all" = some none)
    (z_enumerate : PySem.W.nsIn K mainGlobals "enumerate" = some none)
    (z_len : PySem.W.nsIn K mainGlobals "len" = some none)
    (z_sum : PySem.W.nsIn K mainGlobals "sum" = some none)
    (z_zip : PySem.W.nsIn K mainGlobals "zip" = some none)
    {t_MOST_BOUND : Tok} (c_MOST_BOUND : PySem.W.nsIn K mainGlobals "MOST_BOUND" = some (some (.int 99 t_MOST_BOUND)))
    {t_MOST_COMPONENTS : Tok} (c_MOST_COMPONENTS : PySem.W.nsIn K mainGlobals "MOST_COMPONENTS" = some (some (.int 4 t_MOST_COMPONENTS)))
    {q_MOST_OF_COMPONENT : Addr} {t_MOST_OF_COMPONENT0 t_MOST_OF_COMPONENT1 t_MOST_OF_COMPONENT2 : Tok} {o_MOST_OF_COMPONENT : Option Addr} {y_MOST_OF_COMPONENT : Nat} {w_MOST_OF_COMPONENT : Array (Option Value)}
    (c_MOST_OF_COMPONENT : PySem.W.nsIn K mainGlobals "MOST_OF_COMPONENT" = some (some (.ref q_MOST_OF_COMPONENT))) (l_MOST_OF_COMPONENT : K.lookup q_MOST_OF_COMPONENT = some ⟨.type "tuple", o_MOST_OF_COMPONENT, .seq #[.int 50 t_MOST_OF_COMPONENT0, .int 99 t_MOST_OF_COMPONENT1, .int 99 t_MOST_OF_COMPONENT2] y_MOST_OF_COMPONENT, w_MOST_OF_COMPONENT⟩)
    {t_MOST_QUANTITY : Tok} (c_MOST_QUANTITY : PySem.W.nsIn K mainGlobals "MOST_QUANTITY" = some (some (.int 99 t_MOST_QUANTITY)))
    {t_NOT_FEASIBLE : Tok} (c_NOT_FEASIBLE : PySem.W.nsIn K mainGlobals "NOT_FEASIBLE" = some (some (.int 33 t_NOT_FEASIBLE)))
    {t_OUTSIDE_LIMITS : Tok} (c_OUTSIDE_LIMITS : PySem.W.nsIn K mainGlobals "OUTSIDE_LIMITS" = some (some (.int 22 t_OUTSIDE_LIMITS)))
    : ∃ fd : FuncData, (∀ (s : Shared) (us : List Value), us.length = (["quantity", "low", "high", "components"] : List Str).length → BindsTo s fd ⟨us, []⟩ ((["quantity", "low", "high", "components"] : List Str).zip us)) ∧ ∀ base : Heap, K.In base → base.Ns mainGlobals mg → FnOk P w K mg base CX0 5 fa fd ["quantity", "low", "high", "components"] (sp_cheapest_blend K) := by
  have e := hfa.symm.trans (PySem.W.mg_of X G a0)
  cases e
  have F0 := fun_mk (st := s_cheapest_blend) l0 c0 k0
  have b0 := F0.binds (ps := ["quantity", "low", "high", "components"]) fun _ _ _ _ _ _ us hl => match us, hl with | [_, _, _, _], _ => rfl
  have F1 := fun_mk (st := s_request_within_limits) l1 c1 k1
  have b1 := F1.binds (ps := ["quantity", "low", "high", "components"]) fun _ _ _ _ _ _ us hl => match us, hl with | [_, _, _, _], _ => rfl
  have F2 := fun_mk (st := s_bounds_within_limits) l2 c2 k2
  have b2 := F2.binds (ps := ["low", "high"]) fun _ _ _ _ _ _ us hl => match us, hl with | [_, _], _ => rfl
  have F3 := fun_mk (st := s_components_within_limits) l3 c3 k3
  have b3 := F3.binds (ps := ["components"]) fun _ _ _ _ _ _ us hl => match us, hl with | [_], _ => rfl
  have F4 := fun_mk (st := s_within) l4 c4 k4
  have b4 := F4.binds (ps := ["number", "most"]) fun _ _ _ _ _ _ us hl => match us, hl with | [_, _], _ => rfl
  have F5 := fun_mk (st := s_is_feasible) l5 c5 k5
  have b5 := F5.binds (ps := ["quantity", "low", "high", "den", "components", "blend"]) fun _ _ _ _ _ _ us hl => match us, hl with | [_, _, _, _, _, _], _ => rfl
  have F6 := fun_mk (st := s_best_candidate) l6 c6 k6
  have b6 := F6.binds (ps := ["quantity", "low", "high", "components"]) fun _ _ _ _ _ _ us hl => match us, hl with | [_, _, _, _], _ => rfl
  have F7 := fun_mk (st := s_basic_candidates) l7 c7 k7
  have b7 := F7.binds (ps := ["quantity", "low", "high", "components"]) fun _ _ _ _ _ _ us hl => match us, hl with | [_, _, _, _], _ => rfl
  have F8 := fun_mk (st := s_corners) l8 c8 k8
  have b8 := F8.binds (ps := ["available"]) fun _ _ _ _ _ _ us hl => match us, hl with | [_], _ => rfl
  have F9 := fun_mk (st := s_one_made_up) l9 c9 k9
  have b9 := F9.binds (ps := ["quantity", "corner"]) fun _ _ _ _ _ _ us hl => match us, hl with | [_, _], _ => rfl
  have F10 := fun_mk (st := s_two_made_up) l10 c10 k10
  have b10 := F10.binds (ps := ["quantity", "total", "corner", "properties"]) fun _ _ _ _ _ _ us hl => match us, hl with | [_, _, _, _], _ => rfl
  have F11 := fun_mk (st := s_comes_before) l11 c11 k11
  have b11 := F11.binds (ps := ["ranked", "other"]) fun _ _ _ _ _ _ us hl => match us, hl with | [_, _], _ => rfl
  have F12 := fun_mk (st := s_weighted_sum) l12 c12 k12
  have b12 := F12.binds (ps := ["amounts", "weights"]) fun _ _ _ _ _ _ us hl => match us, hl with | [_, _], _ => rfl
  have F13 := fun_mk (st := s_rational_numbers) l13 c13 k13
  have b13 := F13.binds (ps := ["den", "numbers"]) fun _ _ _ _ _ _ us hl => match us, hl with | [_, _], _ => rfl
  have F14 := fun_mk (st := s_common_divisor) l14 c14 k14
  have b14 := F14.binds (ps := ["first", "second"]) fun _ _ _ _ _ _ us hl => match us, hl with | [_, _], _ => rfl
  exact ⟨_, fun s us hu => match us, hu with | [_, _, _, _], _ => .of_eq rfl, fun base _ _ => ok_cheapest_blend (⟨_, _, F0, b0, PySem.W.mg_of X G a0, _, _, F1, b1, PySem.W.mg_of X G a1, _, _, F2, b2, PySem.W.mg_of X G a2, _, _, F3, b3, PySem.W.mg_of X G a3, _, _, F4, b4, PySem.W.mg_of X G a4, _, _, F5, b5, PySem.W.mg_of X G a5, _, _, F6, b6, PySem.W.mg_of X G a6, _, _, F7, b7, PySem.W.mg_of X G a7, _, _, F8, b8, PySem.W.mg_of X G a8, _, _, F9, b9, PySem.W.mg_of X G a9, _, _, F10, b10, PySem.W.mg_of X G a10, _, _, F11, b11, PySem.W.mg_of X G a11, _, _, F12, b12, PySem.W.mg_of X G a12, _, _, F13, b13, PySem.W.mg_of X G a13, _, _, F14, b14, PySem.W.mg_of X G a14, PySem.W.mg_none_of X G z_all, PySem.W.mg_none_of X G z_enumerate, PySem.W.mg_none_of X G z_len, PySem.W.mg_none_of X G z_sum, PySem.W.mg_none_of X G z_zip, _, PySem.W.mg_of X G c_MOST_BOUND, _, PySem.W.mg_of X G c_MOST_COMPONENTS, _, PySem.W.mg_of X G c_MOST_OF_COMPONENT, fun H => .inr ⟨_, _, _, l_MOST_OF_COMPONENT, rfl, rfl, (by show 3 ≤ sizeLine; decide), (.cons ⟨_, rfl⟩ (.cons ⟨_, rfl⟩ (.cons ⟨_, rfl⟩ .nil)))⟩, _, PySem.W.mg_of X G c_MOST_QUANTITY, _, PySem.W.mg_of X G c_NOT_FEASIBLE, _, PySem.W.mg_of X G c_OUTSIDE_LIMITS⟩ : Txt K mg)⟩
theorem int_dw {K : PySem.W.Frag} {H : Hp} {v : V} {n : Int} (h : Dw K H v (PySem.W.WData.int n)) : v = .int n := by
  cases h
  rfl
theorem list_dw {K : PySem.W.Frag} {H : Hp} {v : V} {ns : List Int} (h : Dw K H v (PySem.W.WData.list (ns.map PySem.W.WData.int))) : ∃ a, v = .ref a ∧ LI K H a ns := by
  cases h with
  | lst hs ha =>
    have e := L2.ints_dw ns _ ha
    subst e
    exact ⟨_, rfl, hs⟩
end MB
open PySem PySem.W PyProof.Rows
set_option maxRecDepth 100000 in
set_option maxHeartbeats 8000000 in
theorem PySem.Challenge.cw_meanblend_s01_cheapest_blend_holds : PySem.Challenge.rw_meanblend_s01_cheapest_blend.Holds := by
  w_on; k_headS; (case hw => exact ⟨[.int 0, .int 0, .int 0, .list []], by decide +kernel, by decide +kernel⟩)
  k_fillS
  refine L2.walk_specK (r := PySem.Challenge.rw_meanblend_s01_cheapest_blend) (k := 5) (CX := L2.CX0) (ps := ["quantity", "low", "high", "components"]) (sp := MB.sp_cheapest_blend) (by decide +kernel) rfl rfl ⟨rfl, by decide, by decide⟩ (fun w h Y => PySem.W.kIn_of Y) ?F ?S (fun _ _ _ _ z => z)
  case F =>
    intro w mg fa h Y KX G hmg
    refine' MB.all_mk KX G hmg ?a0 ?l0 ?c0 ?k0 ?a1 ?l1 ?c1 ?k1 ?a2 ?l2 ?c2 ?k2 ?a3 ?l3 ?c3 ?k3 ?a4 ?l4 ?c4 ?k4 ?a5 ?l5 ?c5 ?k5 ?a6 ?l6 ?c6 ?k6 ?a7 ?l7 ?c7 ?k7 ?a8 ?l8 ?c8 ?k8 ?a9 ?l9 ?c9 ?k9 ?a10 ?l10 ?c10 ?k10 ?a11 ?l11 ?c11 ?k11 ?a12 ?l12 ?c12 ?k12 ?a13 ?l13 ?c13 ?k13 ?a14 ?l14 ?c14 ?k14 ?z_all ?z_enumerate ?z_len ?z_sum ?z_zip ?c_MOST_BOUND ?c_MOST_COMPONENTS ?c_MOST_OF_COMPONENT ?l_MOST_OF_COMPONENT ?c_MOST_QUANTITY ?c_NOT_FEASIBLE ?c_OUTSIDE_LIMITS
    (case a0 => k_is)
    (case l0 => k_is)
    (case c0 => k_is)
    (case k0 => k_is)
    (case a1 => k_is)
    (case l1 => k_is)
    (case c1 => k_is)
    (case k1 => k_is)
    (case a2 => k_is)
    (case l2 => k_is)
    (case c2 => k_is)
    (case k2 => k_is)
    (case a3 => k_is)
    (case l3 => k_is)
    (case c3 => k_is)
    (case k3 => k_is)
    (case a4 => k_is)
    (case l4 => k_is)
    (case c4 => k_is)
    (case k4 => k_is)
    (case a5 => k_is)
    (case l5 => k_is)
    (case c5 => k_is)
    (case k5 => k_is)
    (case a6 => k_is)
    (case l6 => k_is)
    (case c6 => k_is)
    (case k6 => k_is)
    (case a7 => k_is)
    (case l7 => k_is)
    (case c7 => k_is)
    (case k7 => k_is)
    (case a8 => k_is)
    (case l8 => k_is)
    (case c8 => k_is)
    (case k8 => k_is)
    (case a9 => k_is)
    (case l9 => k_is)
    (case c9 => k_is)
    (case k9 => k_is)
    (case a10 => k_is)
    (case l10 => k_is)
    (case c10 => k_is)
    (case k10 => k_is)
    (case a11 => k_is)
    (case l11 => k_is)
    (case c11 => k_is)
    (case k11 => k_is)
    (case a12 => k_is)
    (case l12 => k_is)
    (case c12 => k_is)
    (case k12 => k_is)
    (case a13 => k_is)
    (case l13 => k_is)
    (case c13 => k_is)
    (case k13 => k_is)
    (case a14 => k_is)
    (case l14 => k_is)
    (case c14 => k_is)
    (case k14 => k_is)
    (case z_all => k_is)
    (case z_enumerate => k_is)
    (case z_len => k_is)
    (case z_sum => k_is)
    (case z_zip => k_is)
    (case c_MOST_BOUND => k_is)
    (case c_MOST_COMPONENTS => k_is)
    (case c_MOST_OF_COMPONENT => k_is)
    (case l_MOST_OF_COMPONENT => k_is)
    (case c_MOST_QUANTITY => k_is)
    (case c_NOT_FEASIBLE => k_is)
    (case c_OUTSIDE_LIMITS => k_is)
  case S =>
    intro K H xs a hO hwi hask hx
    obtain ⟨q, lo, hi, ns, u⟩ := a
    cases hx with
    | cons h1 hx =>
      cases hx with
      | cons h2 hx =>
        cases hx with
        | cons h3 hx =>
          cases hx with
          | cons h5 hx =>
            cases hx
            have e1 := MB.int_dw h1
            have e2 := MB.int_dw h2
            have e3 := MB.int_dw h3
            obtain ⟨a5, e5, l5⟩ := MB.list_dw (ns := ns) h5
            subst e1 e2 e3 e5
            have hw : (Codec.inInt 0 4294967295 q && (Codec.inInt 0 4294967295 lo && (Codec.inInt 0 4294967295 hi && ((Codec.inLen 0 15 ns && ns.all (Codec.inInt 0 4294967295)) && true)))) = true := hwi
            simp only [Bool.and_eq_true] at hw
            obtain ⟨w1, w2, w3, ⟨w5, w6⟩, _⟩ := hw
            have n5 : ns.length ≤ 15 := (Codec.inNat_iff.mp w5).2
            have p6 : ∀ x ∈ ns, 0 ≤ x := fun x hx => (Codec.inInt_iff.mp (List.all_eq_true.mp w6 x hx)).1
            refine ⟨q, lo, hi, a5, ns, rfl, l5, by omega, fun H' r _ _ hr => ?_⟩
            rw [← MB.cheap_spec (Codec.inInt_iff.mp w1).1 (Codec.inInt_iff.mp w2).1 (Codec.inInt_iff.mp w3).1 p6] at hr
            exact .lst (L2.SqL.of hr) (L2.dw_ints _)
