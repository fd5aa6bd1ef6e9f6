import PyProof.Rows.All
import Wide.All
import OpenK.AllK
import Wide.FinOn
import PyProof.EqAt
import PyProof.EqKinds
import PyProof.TupleCall
import KE.LtSeq
import Open.SpecLaws
import KE.OsGo
import HandS.Base
import HandS.Call
import HandS.List
import HandS.Comp
import HandS.Iter
import HandS.Words
import HandS.WordsList
import HandS.Walk
import HandS.SortRule
import HandS.SortKw
import HandS.ForMost
import HandS.ForSpec
import HandS.Flow
import PySem.Challenge.RW_meanblend_s02_check_blend
set_option Elab.async false
set_option linter.all false
set_option maxRecDepth 100000
set_option maxHeartbeats 8000000
namespace MB
open Ks595

/-! ### rational numbers of the specification, each over some denominator above 0 -/
theorem make_pos {n : Int} {d : Nat} (h : d ≠ 0) : Rational.make n d = ⟨(mkRat n d).num, (mkRat n d).den⟩ := by
  unfold Rational.make
  rw [if_neg h, ← Rat.normalize_eq_mkRat h, Rat.normalize_eq]
theorem make_eq {a b : Int} {d e : Nat} (hd : d ≠ 0) (he : e ≠ 0) : Rational.make a d = Rational.make b e ↔ a * (e : Int) = b * (d : Int) := by
  rw [make_pos hd, make_pos he, ← Rat.mkRat_eq_iff hd he]
  constructor
  · intro h
    have h1 := congrArg Rational.num h
    have h2 := congrArg Rational.den h
    exact Rat.ext h1 h2
  · intro h
    rw [h]
theorem make_den_pos {n : Int} {d : Nat} (h : d ≠ 0) : (Rational.make n d).den ≠ 0 := by
  rw [make_pos h]
  exact (mkRat n d).den_nz
/-- numerator and denominator of the lowest terms, against the ones given -/
theorem make_cross {n : Int} {d : Nat} (h : d ≠ 0) : (Rational.make n d).num * (d : Int) = n * ((Rational.make n d).den : Int) := by
  have h1 : mkRat (mkRat n d).num (mkRat n d).den = mkRat n d := Rat.mkRat_self _
  have h2 := (Rat.mkRat_eq_iff (mkRat n d).den_nz h).mp h1
  rw [make_pos h]
  exact h2
theorem make_self {n : Int} {d : Nat} (h : d ≠ 0) : Rational.make (Rational.make n d).num (Rational.make n d).den = Rational.make n d := by
  have e := make_cross (n := n) h
  exact (make_eq (make_den_pos h) h).mpr e
theorem make_mul {n : Int} {d k : Nat} (hd : d ≠ 0) (hk : k ≠ 0) : Rational.make (n * k) (d * k) = Rational.make n d := by
  refine (make_eq (Nat.mul_ne_zero hd hk) hd).mpr ?_
  rw [Int.natCast_mul]
  grind
theorem zero_is {d : Nat} (h : d ≠ 0) : Rational.zero = Rational.make 0 d := by
  have e : Rational.make 0 d = Rational.make 0 1 := (make_eq h (by decide)).mpr (by omega)
  rw [e]
  rfl
theorem ofInt_is (v : Int) : Rational.ofInt v = Rational.make v 1 := by
  unfold Rational.ofInt Rational.make
  rw [if_neg (by decide)]
  simp
theorem ofNat_is (v : Nat) : Rational.ofNat v = Rational.make v 1 := ofInt_is v
theorem ofInt_den {v : Int} {d : Nat} (h : d ≠ 0) : Rational.ofInt v = Rational.make (v * d) d := by
  rw [ofInt_is]
  refine (make_eq (by decide) h).mpr ?_
  simp
theorem ofNat_den {v d : Nat} (h : d ≠ 0) : Rational.ofNat v = Rational.make (v * d) d := ofInt_den h
theorem add_make {a b : Int} {d e : Nat} (hd : d ≠ 0) (he : e ≠ 0) : Rational.add (Rational.make a d) (Rational.make b e) = Rational.make (a * e + b * d) (d * e) := by
  have h1 := make_cross (n := a) hd
  have h2 := make_cross (n := b) he
  unfold Rational.add
  refine (make_eq (Nat.mul_ne_zero (make_den_pos hd) (make_den_pos he)) (Nat.mul_ne_zero hd he)).mpr ?_
  rw [Int.natCast_mul, Int.natCast_mul]
  generalize (Rational.make a d).num = p at *
  generalize ((Rational.make a d).den : Int) = q at *
  generalize (Rational.make b e).num = r at *
  generalize ((Rational.make b e).den : Int) = s at *
  grind
theorem mul_make {a b : Int} {d e : Nat} (hd : d ≠ 0) (he : e ≠ 0) : Rational.mul (Rational.make a d) (Rational.make b e) = Rational.make (a * b) (d * e) := by
  have h1 := make_cross (n := a) hd
  have h2 := make_cross (n := b) he
  unfold Rational.mul
  refine (make_eq (Nat.mul_ne_zero (make_den_pos hd) (make_den_pos he)) (Nat.mul_ne_zero hd he)).mpr ?_
  rw [Int.natCast_mul, Int.natCast_mul]
  generalize (Rational.make a d).num = p at *
  generalize ((Rational.make a d).den : Int) = q at *
  generalize (Rational.make b e).num = r at *
  generalize ((Rational.make b e).den : Int) = s at *
  grind
theorem neg_make {a : Int} {d : Nat} (hd : d ≠ 0) : Rational.neg (Rational.make a d) = Rational.make (-a) d := by
  rw [make_pos hd, make_pos hd]
  unfold Rational.neg
  have e : mkRat (-a) d = - mkRat a d := Rat.neg_mkRat a d ▸ rfl
  rw [e]
  rfl
theorem add_same {a b : Int} {d : Nat} (hd : d ≠ 0) : Rational.add (Rational.make a d) (Rational.make b d) = Rational.make (a + b) d := by
  rw [add_make hd hd]
  refine (make_eq (Nat.mul_ne_zero hd hd) hd).mpr ?_
  rw [Int.natCast_mul]
  grind
theorem sub_same {a b : Int} {d : Nat} (hd : d ≠ 0) : Rational.sub (Rational.make a d) (Rational.make b d) = Rational.make (a - b) d := by
  unfold Rational.sub
  rw [neg_make hd, add_same hd]
  rfl
theorem cross_eq {an q p ad bn s r bd : Int} (h1 : an * q = p * ad) (h2 : bn * s = r * bd) :
    (an * bd) * (q * s) = (p * s) * (ad * bd) ∧ (bn * ad) * (q * s) = (r * q) * (ad * bd) := by
  constructor
  · grind
  · grind
theorem le_cross {a b : Rational} {p r : Int} {q s : Nat} (ha : Rational.make p q = a) (hb : Rational.make r s = b) (hq : q ≠ 0) (hs : s ≠ 0) :
    (a.num * (b.den : Int) ≤ b.num * (a.den : Int)) ↔ (p * (s : Int) ≤ r * (q : Int)) := by
  have h1 := make_cross (n := p) hq
  have h2 := make_cross (n := r) hs
  have h3 := make_den_pos (n := p) hq
  have h4 := make_den_pos (n := r) hs
  rw [ha] at h1 h3
  rw [hb] at h2 h4
  have q0 : (0 : Int) < q := by omega
  have s0 : (0 : Int) < s := by omega
  have a0 : (0 : Int) < a.den := by omega
  have b0 : (0 : Int) < b.den := by omega
  have qs : (0 : Int) < (q : Int) * s := Int.mul_pos q0 s0
  have ab : (0 : Int) < (a.den : Int) * b.den := Int.mul_pos a0 b0
  obtain ⟨c1, c2⟩ := cross_eq h1 h2
  constructor
  · intro h
    have z : (a.num * (b.den : Int)) * ((q : Int) * s) ≤ (b.num * (a.den : Int)) * ((q : Int) * s) := Int.mul_le_mul_of_nonneg_right h (Int.le_of_lt qs)
    have z2 : (p * (s : Int)) * ((a.den : Int) * b.den) ≤ (r * (q : Int)) * ((a.den : Int) * b.den) := by
      rw [← c1, ← c2]
      exact z
    exact Int.le_of_mul_le_mul_right z2 ab
  · intro h
    have z : (p * (s : Int)) * ((a.den : Int) * b.den) ≤ (r * (q : Int)) * ((a.den : Int) * b.den) := Int.mul_le_mul_of_nonneg_right h (Int.le_of_lt ab)
    have z2 : (a.num * (b.den : Int)) * ((q : Int) * s) ≤ (b.num * (a.den : Int)) * ((q : Int) * s) := by
      rw [c1, c2]
      exact z
    exact Int.le_of_mul_le_mul_right z2 qs
theorem le_make {a b : Int} {d e : Nat} (hd : d ≠ 0) (he : e ≠ 0) : Rational.le (Rational.make a d) (Rational.make b e) = decide (a * (e : Int) ≤ b * (d : Int)) := by
  unfold Rational.le
  exact decide_eq_decide.mpr (le_cross rfl rfl hd he)
theorem lt_make {a b : Int} {d e : Nat} (hd : d ≠ 0) (he : e ≠ 0) : Rational.lt (Rational.make a d) (Rational.make b e) = decide (a * (e : Int) < b * (d : Int)) := by
  unfold Rational.lt
  refine decide_eq_decide.mpr ?_
  have h := le_cross (a := Rational.make b e) (b := Rational.make a d) rfl rfl he hd
  omega
theorem le_same {a b : Int} {d : Nat} (hd : d ≠ 0) : Rational.le (Rational.make a d) (Rational.make b d) = decide (a ≤ b) := by
  rw [le_make hd hd]
  have d0 : (0 : Int) < d := by omega
  exact decide_eq_decide.mpr ⟨fun h => Int.le_of_mul_le_mul_right h d0, fun h => Int.mul_le_mul_of_nonneg_right h (Int.le_of_lt d0)⟩
theorem eq_same {a b : Int} {d : Nat} (hd : d ≠ 0) : Rational.make a d = Rational.make b d ↔ a = b := by
  rw [make_eq hd hd]
  have d0 : (d : Int) ≠ 0 := by omega
  exact ⟨fun h => Int.eq_of_mul_eq_mul_right d0 h, fun h => by rw [h]⟩
theorem div_make {a b : Int} {d e : Nat} (hd : d ≠ 0) (he : e ≠ 0) (hb : b ≠ 0) :
    Rational.div (Rational.make a d) (Rational.make b e) = if 0 < b then Rational.make (a * e) (d * b.natAbs) else Rational.make (-(a * e)) (d * b.natAbs) := by
  have h2 := make_cross (n := b) he
  have h3 := make_den_pos (n := b) he
  have hn0 : (Rational.make b e).num ≠ 0 := by
    intro z
    rw [z, Int.zero_mul] at h2
    have : b * ((Rational.make b e).den : Int) ≠ 0 := Int.mul_ne_zero hb (by omega)
    omega
  have e0 : (0 : Int) < e := by omega
  have r0 : (0 : Int) < ((Rational.make b e).den : Int) := by omega
  have sgn : 0 < (Rational.make b e).num ↔ 0 < b := by
    constructor
    · intro z
      have z1 : 0 < (Rational.make b e).num * (e : Int) := Int.mul_pos z e0
      rw [h2] at z1
      exact Int.pos_of_mul_pos_left z1 r0 |> fun h => h
    · intro z
      have z1 : 0 < b * ((Rational.make b e).den : Int) := Int.mul_pos z r0
      rw [← h2] at z1
      exact Int.pos_of_mul_pos_left z1 e0 |> fun h => h
  have hb' : b.natAbs ≠ 0 := by omega
  have hn' : (Rational.make b e).num.natAbs ≠ 0 := by omega
  unfold Rational.div Rational.inverse
  rw [if_neg hn0]
  by_cases hp : 0 < b
  · have hp2 := sgn.mpr hp
    rw [if_neg (by omega), if_pos hp, mul_make hd hn']
    refine (make_eq (Nat.mul_ne_zero hd hn') (Nat.mul_ne_zero hd hb')).mpr ?_
    rw [Int.natCast_mul, Int.natCast_mul]
    have e1 : ((Rational.make b e).num.natAbs : Int) = (Rational.make b e).num := by omega
    have e2 : (b.natAbs : Int) = b := by omega
    rw [e1, e2]
    generalize (Rational.make b e).num = r at *
    generalize ((Rational.make b e).den : Int) = s at *
    grind
  · have hp2 : ¬ 0 < (Rational.make b e).num := fun z => hp (sgn.mp z)
    rw [if_pos (by omega), if_neg hp, mul_make hd hn']
    refine (make_eq (Nat.mul_ne_zero hd hn') (Nat.mul_ne_zero hd hb')).mpr ?_
    rw [Int.natCast_mul, Int.natCast_mul]
    have e1 : ((Rational.make b e).num.natAbs : Int) = -(Rational.make b e).num := by omega
    have e2 : (b.natAbs : Int) = -b := by omega
    rw [e1, e2]
    generalize (Rational.make b e).num = r at *
    generalize ((Rational.make b e).den : Int) = s at *
    grind
end MB

namespace MB
open Ks595

/-! ### blends over a common denominator -/
abbrev toR (d : Nat) (b : List Int) : List Rational := b.map fun x => Rational.make x d
def wsum (xs ys : List Int) : Int := (List.zipWith (fun x y => x * y) xs ys).sum
def within (x m : Int) : Bool := decide (0 ≤ x) && decide (x ≤ m)
def feas (q lo hi den : Int) (av pr b : List Int) : Bool :=
  (List.zipWith (fun x m => within x (den * m)) b av).all id && (decide (b.sum = den * q) && (decide (den * lo * q ≤ wsum b pr) && decide (wsum b pr ≤ den * hi * q)))

theorem foldl_add {d : Nat} (hd : d ≠ 0) : ∀ (l : List Int) (a : Int), (toR d l).foldl Rational.add (Rational.make a d) = Rational.make (a + l.sum) d
  | [], a => by simp
  | x :: r, a => by
    show (toR d r).foldl Rational.add (Rational.add (Rational.make a d) (Rational.make x d)) = _
    rw [add_same hd, foldl_add hd r, List.sum_cons, Int.add_assoc]
theorem sum_toR {d : Nat} (hd : d ≠ 0) (l : List Int) : Rational.sum (toR d l) = Rational.make l.sum d := by
  unfold Rational.sum
  rw [zero_is hd, foldl_add hd, Int.zero_add]
theorem mul_ofNat {x : Int} {d c : Nat} (hd : d ≠ 0) : Rational.mul (Rational.make x d) (Rational.ofNat c) = Rational.make (x * c) d := by
  rw [ofNat_is, mul_make hd (by decide), Nat.mul_one]

def avs (p : Problem) : List Int := p.components.map fun c => (c.amount : Int)
def csts (p : Problem) : List Int := p.components.map fun c => (c.cost : Int)
def prs (p : Problem) : List Int := p.components.map fun c => (c.property : Int)
theorem avs_len (p : Problem) : (avs p).length = p.components.length := List.length_map _
theorem csts_len (p : Problem) : (csts p).length = p.components.length := List.length_map _
theorem prs_len (p : Problem) : (prs p).length = p.components.length := List.length_map _

theorem weigh {p : Problem} {d : Nat} (hd : d ≠ 0) {b : List Int} (hb : b.length = p.components.length) (f : Component → Nat) :
    Rational.sum ((List.range p.components.length).map fun i => (toR d b).getD i Rational.zero * Rational.ofNat (f (componentAt p i))) = Rational.make (wsum b (p.components.map fun c => (f c : Int))) d := by
  have e : ((List.range p.components.length).map fun i => (toR d b).getD i Rational.zero * Rational.ofNat (f (componentAt p i))) = toR d (List.zipWith (fun x y => x * y) b (p.components.map fun c => (f c : Int))) := by
    refine List.ext_getElem (by simp [hb]) fun i h1 h2 => ?_
    have hi : i < p.components.length := by simpa using h1
    have hi2 : i < b.length := by omega
    simp only [List.getElem_map, List.getElem_range, List.getElem_zipWith]
    have g1 : (toR d b).getD i Rational.zero = Rational.make b[i] d := by
      rw [List.getD_eq_getElem?_getD, List.getElem?_map, List.getElem?_eq_getElem hi2]
      rfl
    have g2 : componentAt p i = p.components[i] := by
      unfold componentAt
      rw [List.getD_eq_getElem?_getD, List.getElem?_eq_getElem hi]
      rfl
    rw [g1, g2]
    exact mul_ofNat hd
  rw [e, sum_toR hd]
  rfl
theorem cost_toR {p : Problem} {d : Nat} (hd : d ≠ 0) {b : List Int} (hb : b.length = p.components.length) : costOf p (toR d b) = Rational.make (wsum b (csts p)) d := weigh hd hb Component.cost
theorem prop_toR {p : Problem} {d : Nat} (hd : d ≠ 0) {b : List Int} (hb : b.length = p.components.length) : propertyTotal p (toR d b) = Rational.make (wsum b (prs p)) d := weigh hd hb Component.property

theorem beq_iff (a b : Rational) : (a == b) = decide (a = b) := by
  by_cases h : a = b
  · rw [decide_eq_true h, h]
    exact beq_self_eq_true b
  · rw [decide_eq_false h]
    exact beq_eq_false_iff_ne.mpr h
theorem all_range {α β : Type} {n : Nat} {f : Nat → Bool} {g : α → β → Bool} {xs : List α} {ys : List β} (hx : xs.length = n) (hy : ys.length = n) (h : ∀ i (h1 : i < xs.length) (h2 : i < ys.length), f i = g xs[i] ys[i]) :
    (List.range n).all f = (List.zipWith g xs ys).all id := by
  have e : (List.range n).map f = List.zipWith g xs ys := by
    refine List.ext_getElem (by simp [hx, hy]) fun i h1 h2 => ?_
    simp only [List.getElem_map, List.getElem_range, List.getElem_zipWith]
    have hi : i < n := by simpa using h1
    exact h i (by omega) (by omega)
  rw [← e, List.all_map]
  rfl
theorem le_ofNat {x : Int} {d c : Nat} (hd : d ≠ 0) : Rational.le (Rational.make x d) (Rational.ofNat c) = decide (x ≤ d * c) := by
  rw [ofNat_den hd, le_same hd, Int.mul_comm]
theorem ofNat_le {x : Int} {d c : Nat} (hd : d ≠ 0) : Rational.le (Rational.ofNat c) (Rational.make x d) = decide ((d * c : Int) ≤ x) := by
  rw [ofNat_den hd, le_same hd, Int.mul_comm]
theorem feas_toR {p : Problem} {d : Nat} (hd : d ≠ 0) {b : List Int} (hb : b.length = p.components.length) :
    isFeasible p (toR d b) = feas p.quantity p.low p.high d (avs p) (prs p) b := by
  unfold isFeasible
  rw [show ((toR d b).length == p.components.length) = true by simp [hb], prop_toR hd hb, sum_toR hd, ofNat_le hd, le_ofNat hd]
  rw [all_range (xs := b) (ys := avs p) (g := fun x m => within x ((d : Int) * m)) hb (avs_len p)]
  · unfold feas
    rw [Bool.true_and, Bool.and_assoc, Bool.and_assoc]
    congr 1
    congr 1
    · rw [beq_iff, ofNat_den hd]
      refine decide_eq_decide.mpr ?_
      rw [eq_same hd, Int.mul_comm]
    · congr 1
      · refine decide_eq_decide.mpr ?_
        rw [Int.natCast_mul, Int.mul_assoc]
      · refine decide_eq_decide.mpr ?_
        rw [Int.natCast_mul, Int.mul_assoc]
  · intro i h1 h2
    have g1 : (toR d b).getD i Rational.zero = Rational.make b[i] d := by
      rw [List.getD_eq_getElem?_getD, List.getElem?_map, List.getElem?_eq_getElem h1]
      rfl
    have hi : i < p.components.length := by omega
    have g2 : componentAt p i = p.components[i] := by
      unfold componentAt
      rw [List.getD_eq_getElem?_getD, List.getElem?_eq_getElem hi]
      rfl
    have g3 : (avs p)[i] = (p.components[i].amount : Int) := List.getElem_map _
    rw [g1, g2, g3, zero_is hd, le_same hd, le_ofNat hd]
    rfl
end MB

namespace MB
open PySem PySem.Spec PyProof.Rows L2
/-! ### two rules of my own: a slice with a step; the order of two lists of whole numbers -/
def pickV (xs : List V) (lo hi st : Option Int) : List V :=
  (sliceRange (sliceBounds lo hi st xs.length).1 (sliceBounds lo hi st xs.length).2.1 (sliceBounds lo hi st xs.length).2.2).filterMap (xs[·]?)
theorem vals_places : ∀ {xs : List V} {us : List Value}, Vals xs us → ∀ js : List Nat, Vals (js.filterMap (xs[·]?)) (js.filterMap (us[·]?))
  | _, _, _, [] => .nil
  | xs, us, h, j :: js => by
    have ih := vals_places h js
    cases hn : xs[j]? with
    | some n =>
      obtain ⟨u, hv, r⟩ := h.get hn
      simp only [List.filterMap_cons, hn, hv]
      exact .cons r ih
    | none =>
      have hv := h.none_of hn
      simp only [List.filterMap_cons, hn, hv]
      exact ih
def pickU (us : List Value) (lo hi st : Option Int) : List Value :=
  (sliceRange (sliceBounds lo hi st us.length).1 (sliceBounds lo hi st us.length).2.1 (sliceBounds lo hi st us.length).2.2).filterMap (us[·]?)
theorem pick_eq (us : List Value) (lo hi st : Option Int) : slicePick us.toArray lo hi st = (pickU us lo hi st).toArray := by
  simp [slicePick, pickU]
theorem vals_pick {xs : List V} {us : List Value} (h : Vals xs us) (lo hi st : Option Int) : Vals (pickV xs lo hi st) (pickU us lo hi st) := by
  unfold pickV pickU
  rw [h.length]
  exact vals_places h _
def tSl3 (K : PySem.W.Frag) (te : TE) (tl th ts : TO) : TE := fun σ H Q => te σ H fun x H1 => tl σ H1 fun l H2 => th σ H2 fun u H3 => ts σ H3 fun k H4 =>
  ∃ a xs, x = .ref a ∧ SqL K H4 a xs ∧ k ≠ some 0 ∧ ∀ p, H4 p = none → Q (.ref p) (upd H4 p (.lst (pickV xs l u k)))
section
variable {X : Cx}
theorem pe_slice3 {e : Expr} {lo hi : Option Expr} {st : Expr} {te : TE} {tl th ts : TO} {p2 pos : Pos} (he : PE X e te) (hl : PO X lo tl) (hh : PO X hi th) (hs : PO X (some st) ts) :
    PE X (.Subscript e (.Slice lo hi (some st) p2) pos) (tSl3 X.K te tl th ts) := by
  refine ⟨fun pins s σ H Q I h => ?_⟩
  refine Subscript_ (thn (he.run pins s σ H _ I h) fun v s1 ⟨x, H1, I1, r1, q1⟩ => ?_)
  refine wpAny_Slice (thn (hl.run pins s1 σ H1 _ I1 q1) fun vl s2 ⟨l, H2, I2, pl, q2⟩ => thn (hh.run pins s2 σ H2 _ I2 q2) fun vu s3 ⟨u, H3, I3, pu, q3⟩ => thn (hs.run pins s3 σ H3 _ I3 q3) fun vk s4 ⟨k, H4, I4, pk, q4⟩ => ?_)
  obtain ⟨a, xs, rfl, hx, hk, q⟩ := q4
  cases r1
  have I5 : Inv X pins σ H4 { s4 with heap := s4.heap.push { cls := .type "slice", data := .fields #[vl, vu, vk] } } := I4.kept (t' := s4.toks) fun b ob q => Heap.get?_push_of_some _ q
  obtain ⟨its, r, ht, hz⟩ := I5.list hx
  have hlen := r.length
  show wpAny (model X.prog X.w) X.A (subscriptTail e (.Slice lo hi (some st) p2) (.ref a) (.ref s4.heap.objs.size)) (EP X pins σ Q) X.xe { s4 with heap := s4.heap.push { cls := .type "slice", data := .fields #[vl, vu, vk] } }
  refine tail_any (ops := [.ref a, .ref s4.heap.objs.size]) ht.isList.typeIs (PySem.slot_list_getitem.lookup) ?_ (by with_unfolding_all rfl)
  refine wpAny_getItem_list_slice ht.isList (Heap.IsSliceOf.new _ vl vu vk) pl pu pk hk ?_ (by rw [List.size_toArray]; omega)
  have rr := vals_pick r l u k
  have hle := slicePick_size_le its.toArray l u k
  rw [pick_eq] at hle ⊢
  refine ⟨.ref _, _, I5.laid (t' := s4.toks) (o := .lst (pickV xs l u k)) (fun b ob q => Heap.get?_push_of_some _ q) (Nat.le_refl _) ?_, rfl, q _ (I5.hok.fresh (Nat.le_refl _))⟩
  refine ⟨?_, _, 0, rr, Heap.get?_push_size _ rfl⟩
  have e := rr.length
  rw [List.size_toArray, List.size_toArray] at hle
  omega
def firstLtI (ns ms : List Int) : Bool := HT.lexLt ns ms
theorem firstLt_lex : ∀ (ns ms : List Int) (k : Nat) (f g : Nat → Int), (∀ j, j < ns.length → ns.getD j 0 = f (k + j)) → (∀ j, j < ms.length → ms.getD j 0 = g (k + j)) →
    SeqAt.firstLt (fun j => decide (f j = g j)) (fun j => decide (f j < g j)) (decide (ns.length < ms.length)) ((List.range (min ns.length ms.length)).map (k + ·)) = HT.lexLt ns ms
  | [], [], _, _, _, _, _ => rfl
  | [], _ :: _, _, _, _, _, _ => by
    rw [HT.lexLt_nil_cons]
    simp [SeqAt.firstLt]
  | _ :: _, [], _, _, _, _, _ => by
    rw [HT.lexLt_cons_nil]
    simp [SeqAt.firstLt]
  | x :: xs, y :: ys, k, f, g, hf, hg => by
    have fx : x = f k := by
      have := hf 0 (by simp)
      simpa using this
    have gy : y = g k := by
      have := hg 0 (by simp)
      simpa using this
    rw [HT.lexLt_cons]
    have e : (List.range (min (x :: xs).length (y :: ys).length)).map (k + ·) = k :: (List.range (min xs.length ys.length)).map ((k + 1) + ·) := by
      rw [List.length_cons, List.length_cons, Nat.add_min_add_right, List.range_succ_eq_map, List.map_cons, List.map_map]
      congr 1
      refine List.map_congr_left fun j _ => ?_
      show k + (j + 1) = k + 1 + j
      omega
    rw [e]
    have ih := firstLt_lex xs ys (k + 1) f g (fun j hj => by
      have := hf (j + 1) (by simpa using hj)
      rw [show k + 1 + j = k + (j + 1) by omega]
      simpa using this) (fun j hj => by
      have := hg (j + 1) (by simpa using hj)
      rw [show k + 1 + j = k + (j + 1) by omega]
      simpa using this)
    have hl : decide ((x :: xs).length < (y :: ys).length) = decide (xs.length < ys.length) := decide_eq_decide.mpr (by simp)
    rw [hl]
    by_cases c : x = y
    · rw [if_pos c, SeqAt.firstLt_yes (decide_eq_true (by rw [← fx, ← gy]; exact c))]
      exact ih
    · rw [if_neg c, SeqAt.firstLt_no (decide_eq_false (by rw [← fx, ← gy]; exact c)), ← fx, ← gy]
def rLtL (K : PySem.W.Frag) : R2 := fun x y H Q => ∃ a b ns ms, x = .ref a ∧ y = .ref b ∧ SqL K H a (ns.map V.int) ∧ SqL K H b (ms.map V.int) ∧ Q (.bl (HT.lexLt ns ms)) H
theorem op_ltL (hu : X.A.units < cLine) : OpR X (compareOp .Lt) (rLtL X.K) := by
  intro pins s σ H x y v u Q I rx ry h
  obtain ⟨a, b, ns, ms, rfl, rfl, ha, hb, q⟩ := h
  cases rx
  cases ry
  obtain ⟨its, r1, p1, _⟩ := I.list ha
  obtain ⟨its2, r2, p2, _⟩ := I.list hb
  have i1 : IntsAre its ns := intsAre_of r1
  have i2 : IntsAre its2 ms := intsAre_of r2
  have e1 : its.toArray.size = ns.length := by rw [List.size_toArray]; exact i1.length
  have e2 : its2.toArray.size = ms.length := by rw [List.size_toArray]; exact i2.length
  have at1 : ∀ j (h1 : j < its.toArray.size), ∃ t, its.toArray[j] = .int (ns.getD j 0) t := fun j h1 => PyProof.Rows.IntsAre.int_at i1 _ _ (by simp at h1; simp [h1])
  have at2 : ∀ j (h1 : j < its2.toArray.size), ∃ t, its2.toArray[j] = .int (ms.getD j 0) t := fun j h1 => PyProof.Rows.IntsAre.int_at i2 _ _ (by simp at h1; simp [h1])
  have R := SeqAt.RcLt.lists (A := X.A) (s := s) (e := fun j => decide (ns.getD j 0 = ms.getD j 0)) (r := fun j => decide (ns.getD j 0 < ms.getD j 0)) p1.isList p2.isList hu (fun j h1 h2 => by
    obtain ⟨t, et⟩ := at1 j h1
    obtain ⟨t', et'⟩ := at2 j h2
    rw [et, et']
    have z : (ns.getD j 0 == ms.getD j 0) = decide (ns.getD j 0 = ms.getD j 0) := by
      by_cases q : ns.getD j 0 = ms.getD j 0
      · rw [decide_eq_true q]; exact beq_iff_eq.mpr q
      · rw [decide_eq_false q]; exact beq_eq_false_iff_ne.mpr q
    rw [← z]
    exact SeqAt.EqAt.int_int _ _ _ _) (fun j h1 h2 _ => by
    obtain ⟨t, et⟩ := at1 j h1
    obtain ⟨t', et'⟩ := at2 j h2
    rw [et, et']
    exact fun _ _ _ _ h => PyProof.Rows.lt_int h)
  have e := firstLt_lex ns ms 0 (fun j => ns.getD j 0) (fun j => ms.getD j 0) (fun j _ => by rw [Nat.zero_add]) (fun j _ => by rw [Nat.zero_add])
  have e3 : (List.range (min ns.length ms.length)).map (0 + ·) = List.range (min ns.length ms.length) := by
    conv => rhs; rw [← List.map_id (List.range _)]
    exact List.map_congr_left fun j _ => Nat.zero_add j
  rw [e3] at e
  rw [e1, e2, e] at R
  exact R _ _ _ _ ⟨.bl (HT.lexLt ns ms), H, I, rfl, q⟩
end
end MB

namespace MB
open PySem PySem.Spec PyProof.Rows L2
/-! ### heaps and lists of whole numbers -/
theorem same_upd {H : Hp} {p : Addr} {o : HO} (h : H p = none) : Same H (upd H p o) := fun b x e => by
  rw [upd_ne (ne_of_none e h)]
  exact e
/-- all but p stands -/
def SameBut (p : Addr) (H H' : Hp) : Prop := ∀ b o, b ≠ p → H b = some o → H' b = some o
theorem SameBut.upd {H : Hp} {p : Addr} {o : HO} : SameBut p H (upd H p o) := fun b x n e => by
  rw [upd_ne n]
  exact e
theorem same_but {p : Addr} {H H' : Hp} (h : Same H H') : SameBut p H H' := fun b o _ e => h b o e
theorem SameBut.trans {p : Addr} {H H1 H2 : Hp} (a : SameBut p H H1) (b : SameBut p H1 H2) : SameBut p H H2 := fun c o n e => b c o n (a c o n e)
theorem SameBut.same {p : Addr} {H H' : Hp} (h : SameBut p H H') (n : H p = none) : Same H H' := fun b o e => h b o (ne_of_none e n) e
/-- a list of whole numbers that may be read -/
abbrev LI (K : PySem.W.Frag) (H : Hp) (p : Addr) (ns : List Int) : Prop := SqL K H p (ns.map V.int)
theorem li_of {K : PySem.W.Frag} {H : Hp} {p : Addr} {ns : List Int} (h : H p = some (.lst (ns.map V.int))) : LI K H p ns := .inl (.inl h)
theorem line_of {n : Nat} (h : n ≤ 100000) : n < sizeLine := Nat.lt_of_le_of_lt h (by decide)
theorem line_le {n : Nat} (h : n ≤ 100000) : n ≤ sizeLine := Nat.le_of_lt (line_of h)
theorem map_at {ns : List Int} {i : Nat} {x : V} (h : (ns.map V.int)[i]? = some x) : ∃ n, ns[i]? = some n ∧ x = .int n := by
  rw [List.getElem?_map] at h
  cases q : ns[i]? with
  | none => rw [q] at h; cases h
  | some n => rw [q] at h; exact ⟨n, rfl, (Option.some.inj h).symm⟩
theorem take_more {α : Type} {l : List α} {i : Nat} {x : α} (h : l[i]? = some x) : l.take (i + 1) = l.take i ++ [x] := by
  rw [List.take_add_one, h]
  rfl
theorem if_true_of {c : Bool} {A B : Prop} (hc : c = true) (h : A) : if c = true then A else B := by
  rw [if_pos hc]
  exact h
theorem if_false_of {c : Bool} {A B : Prop} (hc : c = false) (h : B) : if c = true then A else B := by
  rw [hc, if_neg Bool.false_ne_true]
  exact h
/-! ### comprehensions without a test -/
section
variable {J : It} {n : Nat} {G : Hp → Prop} {Y : Nat → Hp → V → Hp → Prop}
theorem lc_rel (w : Walk J n G Y) {g : TG} {te : TE} {vs : List Nat} {σ : L2.St} {H1 : Hp} {D : Addr} {Qd : Hp → Prop} (hD : H1 D = none) (hn : n ≤ 100000) (hG : ∀ H, Same H1 H → G H) (Rel : Nat → V → Hp → Prop)
    (hm : ∀ i y H H', SameBut D H H' → Rel i y H → Rel i y H')
    (hs : ∀ i x H H' (R : V → Hp → Prop) (Z : Hp → Prop), i < n → Same H1 H → (∃ acc, H D = some (.lst acc)) → Y i H x H' → (∀ y H4, Same H H4 → Rel i y H4 → R y H4) →
      g x (wipe σ vs) H' fun σ2 H2 => wipe σ2 vs = wipe σ vs ∧ if true = true then te σ2 H2 R else Z H2)
    (hd : ∀ H ys, Same H1 H → H D = some (.lst ys) → ys.length = n → (∀ i y, ys[i]? = some y → Rel i y H) → Qd H) :
    ∃ W : Nat → Nat → Hp → Prop, (∃ m, W 0 m (upd H1 D (.lst []))) ∧ ∀ i m H, W i m H →
      (J.stop i H ∧ Qd H) ∨ (J.go i H ∧ ∃ Nx : Hp → Prop, (∀ H', Nx H' → ∃ m', m' < m ∧ W (i + 1) m' H') ∧ ∀ x H', J.yld i H x H' → g x (wipe σ vs) H' fun σ2 H2 => wipe σ2 vs = wipe σ vs ∧ tYes σ2 H2 fun b H3 =>
        if b = true then te σ2 H3 fun y H4 => ∃ acc, H4 D = some (.lst acc) ∧ acc.length < sizeLine ∧ Nx (upd H4 D (.lst (acc ++ [y]))) else Nx H3) := by
  refine lc_it w (tt := tYes) (te := te) (fun i H => i ≤ n ∧ Same H1 H ∧ ∃ ys, H D = some (.lst ys) ∧ ys.length = i ∧ ∀ j y, ys[j]? = some y → Rel j y H) ?_ ?_ ?_ ?_
  · exact ⟨Nat.zero_le _, same_upd hD, [], upd_same, rfl, fun j y e => by simp at e⟩
  · intro i H _ p
    exact hG H p.2.1
  · intro i x H H' hi p y
    obtain ⟨_, sm, ys, hys, hl, hr⟩ := p
    refine hs i x H H' _ (fun H => i + 1 ≤ n ∧ Same H1 H ∧ ∃ ys, H D = some (.lst ys) ∧ ys.length = i + 1 ∧ ∀ j y, ys[j]? = some y → Rel j y H) hi sm ⟨ys, hys⟩ y ?_
    intro z H4 s4 rz
    refine ⟨ys, s4 _ _ hys, line_of (by omega), hi, ?_, ys ++ [z], upd_same, by simp [hl], ?_⟩
    · exact SameBut.same (SameBut.trans (same_but (Same.trans sm s4)) SameBut.upd) hD
    · intro j y' e
      by_cases hj : j < ys.length
      · rw [List.getElem?_append_left hj] at e
        exact hm j y' H _ (SameBut.trans (same_but s4) SameBut.upd) (hr j y' e)
      · have hj2 : j = i := by
          have h1 : j < (ys ++ [z]).length := (List.getElem?_eq_some_iff.mp e).1
          rw [List.length_append, List.length_singleton] at h1
          omega
        subst hj2
        rw [List.getElem?_append_right (by omega), hl, Nat.sub_self] at e
        have e2 : z = y' := Option.some.inj e
        subst e2
        exact hm _ _ H4 _ SameBut.upd rz
  · intro H p
    obtain ⟨_, sm, ys, hys, hl, hr⟩ := p
    exact hd H ys sm hys hl hr
theorem lc_map (w : Walk J n G Y) {g : TG} {te : TE} {vs : List Nat} {σ : L2.St} {H1 : Hp} {D : Addr} {Qd : Hp → Prop} (hD : H1 D = none) (hn : n ≤ 100000) (hG : ∀ H, Same H1 H → G H) (out : List V) (ho : out.length = n)
    (hs : ∀ i x H H' (z : V) (R : V → Hp → Prop) (Z : Hp → Prop), out[i]? = some z → Same H1 H → Y i H x H' → (∀ H4, Same H H4 → R z H4) →
      g x (wipe σ vs) H' fun σ2 H2 => wipe σ2 vs = wipe σ vs ∧ if true = true then te σ2 H2 R else Z H2)
    (hd : ∀ H, Same H1 H → H D = some (.lst out) → Qd H) :
    ∃ W : Nat → Nat → Hp → Prop, (∃ m, W 0 m (upd H1 D (.lst []))) ∧ ∀ i m H, W i m H →
      (J.stop i H ∧ Qd H) ∨ (J.go i H ∧ ∃ Nx : Hp → Prop, (∀ H', Nx H' → ∃ m', m' < m ∧ W (i + 1) m' H') ∧ ∀ x H', J.yld i H x H' → g x (wipe σ vs) H' fun σ2 H2 => wipe σ2 vs = wipe σ vs ∧ tYes σ2 H2 fun b H3 =>
        if b = true then te σ2 H3 fun y H4 => ∃ acc, H4 D = some (.lst acc) ∧ acc.length < sizeLine ∧ Nx (upd H4 D (.lst (acc ++ [y]))) else Nx H3) := by
  refine lc_rel w hD hn hG (fun i y _ => out[i]? = some y) (fun _ _ _ _ _ h => h) ?_ ?_
  · intro i x H H' R Z hi sm _ y hR
    have e : out[i]? = some out[i] := List.getElem?_eq_getElem (by omega)
    exact hs i x H H' _ R Z e sm y (fun H4 s4 => hR _ H4 s4 e)
  · intro H ys sm hys hl hr
    have e : ys = out := by
      refine List.ext_getElem (by omega) fun i h1 h2 => ?_
      have := hr i _ (List.getElem?_eq_getElem h1)
      rw [List.getElem?_eq_getElem h2] at this
      exact (Option.some.inj this).symm
    subst e
    exact hd H sm hys
end
end MB

namespace MB
open PySem PySem.Spec PyProof.Rows L2
/-! ### two more rules of my own: a chain of three comparisons; sorted(xs, reverse=True) of pairs -/
def tChain3 (r1 r2 r3 : R2) (ta tb tc td : TE) : TE := fun σ H Q => ta σ H fun x Ha => tb σ Ha fun y Hb => r1 x y Hb fun v Hc => ∃ k, v = .bl k ∧
  (if k = true then (tc σ Hc fun z Hd => r2 y z Hd fun v2 He => ∃ k2, v2 = .bl k2 ∧ (if k2 = true then (td σ He fun u Hf => r3 z u Hf Q) else Q (.bl false) He)) else Q (.bl false) Hc)
section
variable {X : Cx}
theorem pe_chain3 {a b c d : Expr} {ta tb tc td : TE} {o1 o2 o3 : CmpOp} {r1 r2 r3 : R2} {pos : Pos} (h1 : OpR X (compareOp o1) r1) (h2 : OpR X (compareOp o2) r2) (h3 : OpR X (compareOp o3) r3)
    (ha : PE X a ta) (hb : PE X b tb) (hc : PE X c tc) (hd : PE X d td) (hm : lastMarks [o1, o2, o3] [b, c, d] = false := by with_unfolding_all rfl) :
    PE X (.Compare a [o1, o2, o3] [b, c, d] pos) (tChain3 r1 r2 r3 ta tb tc td) := by
  refine ⟨fun pins s σ H Q I h => Compare_chain (thn (ha.run pins s σ H _ I h) ?_) hm⟩
  rintro va sa ⟨x, Ha, Ia, ra, qa⟩
  refine chain_link (thn (hb.run pins sa σ Ha _ Ia qa) ?_)
  rintro vb sb ⟨y, Hb, Ib, rb, qb⟩
  refine thn (h1 pins sb σ Hb x y va vb _ Ib ra rb qb) ?_
  rintro vt st ⟨v, Hc, Ic, rt, k, rfl, qc⟩
  cases rt
  refine wpAny_truthy_bool ?_
  cases k with
  | false => exact ite_ff ⟨.bl false, Hc, Ic, rfl, qc⟩
  | true =>
    refine ite_tt (chain_link (thn (hc.run pins st σ Hc _ Ic qc) ?_))
    rintro vc sc ⟨z, Hd, Id, rc, qd⟩
    refine thn (h2 pins sc σ Hd y z vb vc _ Id rb rc qd) ?_
    rintro vt2 st2 ⟨v2, He, Ie, rt2, k2, rfl, qe⟩
    cases rt2
    refine wpAny_truthy_bool ?_
    cases k2 with
    | false => exact ite_ff ⟨.bl false, He, Ie, rfl, qe⟩
    | true =>
      refine ite_tt (chain_last (thn (hd.run pins st2 σ He _ Ie qe) ?_))
      rintro vd sd ⟨u, Hf, If, rd, qf⟩
      exact h3 pins sd σ Hf z u vc vd Q If rc rd qf
/-- sorted(xs, reverse=True), xs a list of pairs of whole numbers: a new list, the sorted ones from the last to the first -/
def rSortedBack (K : PySem.W.Frag) : List V → List V → Hp → VK → Prop := fun vs zs H Q => ∃ (a : Addr) (xs : List V) (k : V → Int × Int), vs = [.ref a] ∧ zs = [.bl true] ∧ SqL K H a xs ∧
  (∀ x ∈ xs, ∃ t, x = .ref t ∧ H t = some (.tup [.int (k x).1, .int (k x).2])) ∧
  ∀ ys p, SrtO.Srtd (ltP k) ys → ys.Perm xs → H p = none → Q (.ref p) (upd H p (.lst ys.reverse))
theorem cr_sortedBack : CallRK X (.builtin "sorted") [Str.ofString "reverse"] (rSortedBack X.K) := by
  rintro pins s σ H vs zs us ws Q I rv rz ⟨a, xs, k, rfl, rfl, hs, hx, q⟩
  obtain rfl := Vals.ref1 rv
  obtain ⟨w1, rfl, rw1⟩ := vals1 rz
  obtain rfl : w1 = Value.bool true := rw1
  obtain ⟨its, rits, hl, hz⟩ := I.list hs
  have hrefs : ∀ x ∈ xs, ∃ t, x = V.ref t := fun x m => by
    obtain ⟨t, e, _⟩ := hx x m
    exact ⟨t, e⟩
  obtain ⟨exs, eits⟩ := refs_back rits hrefs
  have hp : ∀ v ∈ its, Srt.IsPair s.heap v (k (backV v)).1 (k (backV v)).2 := by
    intro v hv
    obtain ⟨t, rfl⟩ := eits v hv
    have m : V.ref t ∈ xs := by
      rw [exs]
      exact List.mem_map.mpr ⟨_, hv, rfl⟩
    obtain ⟨t', et, ht⟩ := hx _ m
    cases et
    obtain ⟨_, parts, rp, o, ho, hcl, n, hdt⟩ := I.hok _ _ ht
    obtain ⟨u1, u2, rfl, q1, q2⟩ := vals2 rp
    obtain ⟨t1, rfl⟩ := q1
    obtain ⟨t2, rfl⟩ := q2
    exact ⟨t, o, t1, t2, n, rfl, ho, hcl, hdt⟩
  have hlen : its.length ≤ sizeLine := by
    rw [← rits.length]
    exact hz
  refine SrtR.sorted_ordK (b := true) (ltv := fun u v => SrtO.lexB (k (backV u)) (k (backV v))) (fun _ => rfl) (PyProof.Rows.args_sorted_rev _ _) (fun _ => PyProof.Rows.args_list_sort_rev _ _) (SrtO.swo_lex fun u => k (backV u)) hl.isList hlen ?_ ?_
  · intro l2 h' a' ha' keep
    refine SrtO.pairs_sortableO (s := { s with heap := h' }) (by omega) (fun v m => (hp v m).keeps fun b o e _ => (keep b o e).2) ?_
    intro o e c
    have e2 : some o = some (seqObj "list" its.toArray 0) := e.symm.trans ha'
    cases e2
    exact absurd (Value.type.inj c) (by decide)
  · intro out so st
    have pm : out.Perm its := st.perm.trans (List.reverse_perm _)
    have refs : ∀ u ∈ out.reverse, ∃ b, u = Value.ref b := fun u m => eits u (pm.mem_iff.mp (List.mem_reverse.mp m))
    obtain ⟨ep, hnew⟩ := PyProof.Rows.sortedAll_at s.heap its out.toArray.reverse
    have pm2 : (out.map backV).Perm xs := by
      rw [exs]
      exact pm.map backV
    have l3 : (out.map backV).reverse.length ≤ sizeLine := by
      rw [List.length_reverse, pm2.length_eq]
      exact hz
    have ea : out.reverse.toArray = out.toArray.reverse := Array.ext' (by rw [Array.toList_reverse])
    have er : (out.map backV).reverse = out.reverse.map backV := by rw [List.map_reverse]
    refine ⟨.ref _, upd H (s.heap.objs.size + 1) (.lst (out.map backV).reverse), ?_, rfl, q _ _ (SrtO.srtd_map so) pm2 (I.hok.fresh (Nat.le_succ _))⟩
    refine I.laid (t' := s.toks) (fun _ _ => PyProof.Rows.sortedAll_old) (Nat.le_succ _) ⟨l3, out.reverse, ep, ?_, ?_⟩
    · rw [er]
      exact vals_back refs
    · rw [ea]
      exact hnew
end
end MB

namespace MB
open PySem PySem.Spec PyProof.Rows L2
def topS (i : Nat) : Stmt := PySem.Challenge.pw_meanblend_s02_check_blend.main.body.getD i (.Pass ⟨0, 0, 0, 0⟩)
abbrev s_check_blend : Stmt := topS 8
abbrev N_check_blend : List Str := ["quantity", "low", "high", "den", "components", "blend", "feasible", "cost", "property_total"]
theorem sc_check_blend : FnScope N_check_blend ["quantity", "low", "high", "den", "components", "blend"] (defScope s_check_blend) := ⟨rfl, rfl, rfl, by decide +kernel, rfl, by decide +kernel, by decide +kernel⟩
abbrev s_request_within_limits : Stmt := topS 9
abbrev N_request_within_limits : List Str := ["quantity", "low", "high", "components"]
theorem sc_request_within_limits : FnScope N_request_within_limits ["quantity", "low", "high", "components"] (defScope s_request_within_limits) := ⟨rfl, rfl, rfl, by decide +kernel, rfl, by decide +kernel, by decide +kernel⟩
abbrev s_bounds_within_limits : Stmt := topS 10
abbrev N_bounds_within_limits : List Str := ["low", "high"]
theorem sc_bounds_within_limits : FnScope N_bounds_within_limits ["low", "high"] (defScope s_bounds_within_limits) := ⟨rfl, rfl, rfl, by decide +kernel, rfl, by decide +kernel, by decide +kernel⟩
abbrev s_components_within_limits : Stmt := topS 11
abbrev N_components_within_limits : List Str := ["components", "place", "number"]
theorem sc_components_within_limits : FnScope N_components_within_limits ["components"] (defScope s_components_within_limits) := ⟨rfl, rfl, rfl, by decide +kernel, rfl, by decide +kernel, by decide +kernel⟩
abbrev s_blend_within_limits : Stmt := topS 12
abbrev N_blend_within_limits : List Str := ["den", "components", "blend", "amount"]
theorem sc_blend_within_limits : FnScope N_blend_within_limits ["den", "components", "blend"] (defScope s_blend_within_limits) := ⟨rfl, rfl, rfl, by decide +kernel, rfl, by decide +kernel, by decide +kernel⟩
abbrev s_within : Stmt := topS 13
abbrev N_within : List Str := ["number", "most"]
theorem sc_within : FnScope N_within ["number", "most"] (defScope s_within) := ⟨rfl, rfl, rfl, by decide +kernel, rfl, by decide +kernel, by decide +kernel⟩
abbrev s_is_feasible : Stmt := topS 14
abbrev N_is_feasible : List Str := ["quantity", "low", "high", "den", "components", "blend", "available", "total", "amount", "most"]
theorem sc_is_feasible : FnScope N_is_feasible ["quantity", "low", "high", "den", "components", "blend"] (defScope s_is_feasible) := ⟨rfl, rfl, rfl, by decide +kernel, rfl, by decide +kernel, by decide +kernel⟩
abbrev s_weighted_sum : Stmt := topS 15
abbrev N_weighted_sum : List Str := ["amounts", "weights", "amount", "weight"]
theorem sc_weighted_sum : FnScope N_weighted_sum ["amounts", "weights"] (defScope s_weighted_sum) := ⟨rfl, rfl, rfl, by decide +kernel, rfl, by decide +kernel, by decide +kernel⟩
abbrev s_rational_numbers : Stmt := topS 16
abbrev N_rational_numbers : List Str := ["den", "numbers", "answer", "number", "divisor"]
theorem sc_rational_numbers : FnScope N_rational_numbers ["den", "numbers"] (defScope s_rational_numbers) := ⟨rfl, rfl, rfl, by decide +kernel, rfl, by decide +kernel, by decide +kernel⟩
abbrev s_common_divisor : Stmt := topS 17
abbrev N_common_divisor : List Str := ["first", "second", "rest"]
theorem sc_common_divisor : FnScope N_common_divisor ["first", "second"] (defScope s_common_divisor) := ⟨rfl, rfl, rfl, by decide +kernel, rfl, by decide +kernel, by decide +kernel⟩
structure Txt (K : PySem.W.Frag) (mg : Str → Option Value) : Type where
  a_check_blend : Addr
  d_check_blend : FuncData
  F_check_blend : Fun K "check_blend" "check_blend" s_check_blend a_check_blend d_check_blend
  b_check_blend : Binds K d_check_blend ["quantity", "low", "high", "den", "components", "blend"] []
  g_check_blend : mg "check_blend" = some (.ref a_check_blend)
  a_request_within_limits : Addr
  d_request_within_limits : FuncData
  F_request_within_limits : Fun K "request_within_limits" "request_within_limits" s_request_within_limits a_request_within_limits d_request_within_limits
  b_request_within_limits : Binds K d_request_within_limits ["quantity", "low", "high", "components"] []
  g_request_within_limits : mg "request_within_limits" = some (.ref a_request_within_limits)
  a_bounds_within_limits : Addr
  d_bounds_within_limits : FuncData
  F_bounds_within_limits : Fun K "bounds_within_limits" "bounds_within_limits" s_bounds_within_limits a_bounds_within_limits d_bounds_within_limits
  b_bounds_within_limits : Binds K d_bounds_within_limits ["low", "high"] []
  g_bounds_within_limits : mg "bounds_within_limits" = some (.ref a_bounds_within_limits)
  a_components_within_limits : Addr
  d_components_within_limits : FuncData
  F_components_within_limits : Fun K "components_within_limits" "components_within_limits" s_components_within_limits a_components_within_limits d_components_within_limits
  b_components_within_limits : Binds K d_components_within_limits ["components"] []
  g_components_within_limits : mg "components_within_limits" = some (.ref a_components_within_limits)
  a_blend_within_limits : Addr
  d_blend_within_limits : FuncData
  F_blend_within_limits : Fun K "blend_within_limits" "blend_within_limits" s_blend_within_limits a_blend_within_limits d_blend_within_limits
  b_blend_within_limits : Binds K d_blend_within_limits ["den", "components", "blend"] []
  g_blend_within_limits : mg "blend_within_limits" = some (.ref a_blend_within_limits)
  a_within : Addr
  d_within : FuncData
  F_within : Fun K "within" "within" s_within a_within d_within
  b_within : Binds K d_within ["number", "most"] []
  g_within : mg "within" = some (.ref a_within)
  a_is_feasible : Addr
  d_is_feasible : FuncData
  F_is_feasible : Fun K "is_feasible" "is_feasible" s_is_feasible a_is_feasible d_is_feasible
  b_is_feasible : Binds K d_is_feasible ["quantity", "low", "high", "den", "components", "blend"] []
  g_is_feasible : mg "is_feasible" = some (.ref a_is_feasible)
  a_weighted_sum : Addr
  d_weighted_sum : FuncData
  F_weighted_sum : Fun K "weighted_sum" "weighted_sum" s_weighted_sum a_weighted_sum d_weighted_sum
  b_weighted_sum : Binds K d_weighted_sum ["amounts", "weights"] []
  g_weighted_sum : mg "weighted_sum" = some (.ref a_weighted_sum)
  a_rational_numbers : Addr
  d_rational_numbers : FuncData
  F_rational_numbers : Fun K "rational_numbers" "rational_numbers" s_rational_numbers a_rational_numbers d_rational_numbers
  b_rational_numbers : Binds K d_rational_numbers ["den", "numbers"] []
  g_rational_numbers : mg "rational_numbers" = some (.ref a_rational_numbers)
  a_common_divisor : Addr
  d_common_divisor : FuncData
  F_common_divisor : Fun K "common_divisor" "common_divisor" s_common_divisor a_common_divisor d_common_divisor
  b_common_divisor : Binds K d_common_divisor ["first", "second"] []
  g_common_divisor : mg "common_divisor" = some (.ref a_common_divisor)
  z_all : mg "all" = none
  z_enumerate : mg "enumerate" = none
  z_len : mg "len" = none
  z_sum : mg "sum" = none
  z_zip : mg "zip" = none
  t_MOST_BOUND : Tok
  c_MOST_BOUND : mg "MOST_BOUND" = some (.int 99 t_MOST_BOUND)
  t_MOST_COMPONENTS : Tok
  c_MOST_COMPONENTS : mg "MOST_COMPONENTS" = some (.int 4 t_MOST_COMPONENTS)
  t_MOST_DEN : Tok
  c_MOST_DEN : mg "MOST_DEN" = some (.int 99 t_MOST_DEN)
  t_MOST_IN_BLEND : Tok
  c_MOST_IN_BLEND : mg "MOST_IN_BLEND" = some (.int 9999 t_MOST_IN_BLEND)
  q_MOST_OF_COMPONENT : Addr
  c_MOST_OF_COMPONENT : mg "MOST_OF_COMPONENT" = some (.ref q_MOST_OF_COMPONENT)
  v_MOST_OF_COMPONENT : ∀ H : Hp, SqT K H q_MOST_OF_COMPONENT [.int 50, .int 99, .int 99]
  t_MOST_QUANTITY : Tok
  c_MOST_QUANTITY : mg "MOST_QUANTITY" = some (.int 99 t_MOST_QUANTITY)
  t_OUTSIDE_LIMITS : Tok
  c_OUTSIDE_LIMITS : mg "OUTSIDE_LIMITS" = some (.int 22 t_OUTSIDE_LIMITS)
section
variable {P : Program} {w : World} {K : PySem.W.Frag} {mg : Str → Option Value} {base : Heap}
/-! ### within -/
def sp_within (K : PySem.W.Frag) : Sp := fun vs H Q _ => ∃ n m : Int, vs = [.int n, .int m] ∧ Q (.bl (within n m)) H
theorem ok_within (T : Txt K mg) : FnOk P w K mg base CX0 1 T.a_within T.d_within ["number", "most"] (sp_within K) := by
  refine T.F_within.ok sc_within (fun vs H Q E h => ?_) (fun cdv A outer s H vs Q E hr h => ?_)
  · obtain ⟨n, m, rfl, _⟩ := h
    rfl
  · obtain ⟨n, m, rfl, q⟩ := h
    have hu := hu_of hr
    refine ⟨_, (pss_one (ps_ret (pe_chain op_le op_le pe_int (pv 0) (pv 1)))), ?_⟩
    refine ⟨_, rfl, 0, n, rfl, rfl, _, rfl, ite2 (fun h => ?_) (fun h => ?_)⟩
    · refine ⟨_, rfl, n, m, rfl, rfl, ?_⟩
      have e : within n m = decide (n ≤ m) := by
        unfold within
        rw [h, Bool.true_and]
      rw [e] at q
      exact q
    · have e : within n m = false := by
        unfold within
        rw [eq_false_of_ne_true h, Bool.false_and]
      rw [e] at q
      exact q
/-! ### common_divisor -/
def sp_common_divisor (K : PySem.W.Frag) : Sp := fun vs H Q _ => ∃ n m : Nat, vs = [.int n, .int m] ∧ Q (.int (Nat.gcd n m : Nat)) H
theorem ok_common_divisor (T : Txt K mg) : FnOk P w K mg base CX0 1 T.a_common_divisor T.d_common_divisor ["first", "second"] (sp_common_divisor K) := by
  refine T.F_common_divisor.ok sc_common_divisor (fun vs H Q E h => ?_) (fun cdv A outer s H vs Q E hr h => ?_)
  · obtain ⟨n, m, rfl, _⟩ := h
    rfl
  · obtain ⟨n, m, rfl, q⟩ := h
    have hu := hu_of hr
    refine ⟨_, (pss_cons (ps_while PassesOwn.never (pt_cmpR op_ne (pv 1) pe_int (nomark _)) (pss_cons (ps_set (i := 2) sc_common_divisor.nd rfl (Or.inl rfl) (pe_op op_modN (pv 0) (pv 1)))
      (pss_cons (ps_set (i := 0) sc_common_divisor.nd rfl (Or.inl rfl) (pv 1))
      (pss_one (ps_set (i := 1) sc_common_divisor.nd rfl (Or.inl rfl) (pv 2))))))
      (pss_one (ps_ret (pv 0)))), ?_⟩
    refine while_by (fun σ H' => H' = H ∧ ∃ (a b : Nat) (r : Option V), σ = [some (.int a), some (.int b), r] ∧ Nat.gcd a b = Nat.gcd n m)
      (fun (σ : L2.St) (_ : Hp) => match σ[1]? with | some (some (V.int b)) => b.toNat | _ => 0) ⟨rfl, n, m, none, rfl, rfl⟩ ?_ ?_
    · rintro σ H' ⟨rfl, a, b, r, rfl, e⟩
      refine ⟨_, rfl, rfl, _, rfl, ?_⟩
      by_cases hb : b = 0
      · subst hb
        refine iteF ?_
        refine ⟨_, rfl, ?_⟩
        rw [← e, Nat.gcd_zero_right] at q
        exact q
      · have hb2 : (V.int (b : Int) = V.int 0) = False := by
          refine eq_false fun z => hb ?_
          have := V.int.inj z
          omega
        have hb3 : (!decide (V.int (b : Int) = V.int 0)) = true := by
          rw [decide_eq_false (fun z => hb (by have := V.int.inj z; omega))]
          rfl
        rw [hb3]
        refine iteT ?_
        refine ⟨_, rfl, _, rfl, _, _, rfl, rfl, by omega, ?_⟩
        refine ⟨_, rfl, _, rfl, ?_⟩
        have fm : (a : Int).fmod (b : Int) = ((a % b : Nat) : Int) := by
          rw [Int.fmod_eq_emod_of_nonneg _ (by omega)]
          rfl
        refine ⟨⟨rfl, b, a % b, some (.int ((a : Int).fmod b)), ?_, ?_⟩, ?_⟩
        · rw [← fm]
          rfl
        · rw [← e, Nat.gcd_comm b, ← Nat.gcd_rec, Nat.gcd_comm]
        · show ((a : Int).fmod (b : Int)).toNat < ((b : Int)).toNat
          rw [fm]
          have := Nat.mod_lt a (Nat.pos_of_ne_zero hb)
          omega
    · intro σ H' R R' hR h
      obtain ⟨v, hv, h2, k, hk, h3⟩ := h
      exact ⟨v, hv, h2, k, hk, hR _ _ h3⟩
/-! ### whole numbers that are not huge; what stands in lists of them -/
def Bd (n : Int) : Prop := -(2 ^ 64) < n ∧ n < 2 ^ 64
theorem int_at {ns : List Int} {i : Nat} {n : Int} {x : V} (h : ns[i]? = some n) (f : (ns.map V.int)[i]? = some x) : x = .int n := by
  rw [List.getElem?_map, h] at f
  exact (Option.some.inj f).symm
theorem zip_at {xs ys : List Int} {f : Int → Int → Int} {i : Nat} {z : V} (h : ((List.zipWith f xs ys).map V.int)[i]? = some z) :
    ∃ x y, xs[i]? = some x ∧ ys[i]? = some y ∧ z = .int (f x y) := by
  obtain ⟨n, h1, rfl⟩ := map_at h
  rw [List.getElem?_zipWith] at h1
  split at h1
  · rename_i x y e1 e2
    exact ⟨x, y, e1, e2, by rw [← Option.some.inj h1]⟩
  · cases h1
/-! ### rational numbers in lowest terms -/
def ratI (d : Int) (ns : List Int) : List Int := ns.flatMap fun n => [n / (Nat.gcd n.natAbs d.natAbs : Nat), d / (Nat.gcd n.natAbs d.natAbs : Nat)]
theorem ratI_more {d n : Int} {ns : List Int} : ratI d (ns ++ [n]) = ratI d ns ++ [n / (Nat.gcd n.natAbs d.natAbs : Nat), d / (Nat.gcd n.natAbs d.natAbs : Nat)] := by
  unfold ratI
  rw [List.flatMap_append]
  simp
theorem ratI_len (d : Int) : ∀ ns : List Int, (ratI d ns).length = 2 * ns.length
  | [] => rfl
  | n :: r => by
    have ih := ratI_len d r
    unfold ratI at ih ⊢
    rw [List.flatMap_cons, List.length_append, ih, List.length_cons]
    simp
    omega
/-! ### weighted_sum -/
def sp_weighted_sum (K : PySem.W.Frag) : Sp := fun vs H Q _ => ∃ (a b : Addr) (xs ys : List Int), vs = [.ref a, .ref b] ∧ LI K H a xs ∧ LI K H b ys ∧ xs.length ≤ 1000 ∧ (∀ x ∈ xs, Bd x) ∧
  ∀ H', Same H H' → Q (.int (wsum xs ys)) H'
theorem ok_weighted_sum (T : Txt K mg) : FnOk P w K mg base CX0 1 T.a_weighted_sum T.d_weighted_sum ["amounts", "weights"] (sp_weighted_sum K) := by
  refine T.F_weighted_sum.ok sc_weighted_sum (fun vs H Q E h => ?_) (fun cdv A outer s H vs Q E hr h => ?_)
  · obtain ⟨a, b, xs, ys, rfl, _⟩ := h
    rfl
  · obtain ⟨a, b, xs, ys, rfl, ha, hb, hl, hbd, q⟩ := h
    have hu := hu_of hr
    refine ⟨_, (pss_one (ps_ret (pe_callB (cr_sum rfl) (by rfl) T.z_sum (by decide +kernel) (pa_cons (pe_lc (own := [("amount", 2), ("weight", 3)]) (g := (gTup K 2 (gCons (gName 2) (gCons (gName 3) gNil)))) (tt := tYes) rfl sc_weighted_sum.nd (pi_zip (by rfl) T.z_zip (pa_cons (pv 0) (pa_cons (pv 1) pa_nil))) (blkOk_by (own := [("amount", 2), ("weight", 3)]) (N := N_weighted_sum) (sc := defScope s_weighted_sum) (by decide +kernel)) (fun _ _ _ _ _ => (pg_tup rfl (pgs_cons (pg_name (i := 2) sc_weighted_sum.nd rfl (Or.inl rfl)) (pgs_cons (pg_name (i := 3) sc_weighted_sum.nd rfl (Or.inl rfl)) pgs_nil)))) (fun _ _ _ _ _ => pts_nil) (fun _ _ _ _ _ => (pe_op op_mul (pv 2) (pv 3)))) pa_nil)))), ?_⟩
    refine ⟨_, rfl, _, rfl, a, b, _, _, rfl, ha, hb, fun D hD => ?_⟩
    refine lc_map (walk_zip rfl) hD ?_ (fun H1 sm => ⟨Same.seq sm ha, Same.seq sm hb⟩) ((List.zipWith (fun x y => x * y) xs ys).map V.int) (by simp) ?_ ?_
    · rw [List.length_map, List.length_map]
      omega
    · intro i x H1 H2 z R Z hz sm y hR
      obtain ⟨x1, y1, e1, e2, rfl⟩ := zip_at hz
      obtain ⟨t, x2, y2, rfl, nt, rfl, f1, f2⟩ := y
      have g1 : x2 = .int x1 := int_at e1 f1
      have g2 : y2 = .int y1 := int_at e2 f2
      subst g1 g2
      refine ⟨t, _, rfl, .inl (.inl upd_same), rfl, _, _, rfl, _, _, rfl, rfl, rfl, iteT ?_⟩
      refine ⟨_, rfl, _, rfl, _, _, rfl, rfl, .inl (hbd x1 (List.mem_of_getElem? e1)), ?_⟩
      exact hR _ (same_upd nt)
    · intro H1 sm hD1
      refine ⟨D, _, rfl, .inl (.inl hD1), ?_⟩
      exact q H1 sm
/-! ### rational_numbers -/
def sp_rational_numbers (K : PySem.W.Frag) : Sp := fun vs H Q _ => ∃ (d : Int) (a : Addr) (ns : List Int), vs = [.int d, .ref a] ∧ 0 < d ∧ d < 1000000 ∧ LI K H a ns ∧ ns.length ≤ 1000 ∧ (∀ n ∈ ns, 0 ≤ n) ∧
  ∀ H' r, Same H H' → H r = none → H' r = some (.lst ((ratI d ns).map V.int)) → Q (.ref r) H'
theorem ok_rational_numbers (T : Txt K mg) : FnOk P w K mg base CX0 2 T.a_rational_numbers T.d_rational_numbers ["den", "numbers"] (sp_rational_numbers K) := by
  have G_common_divisor : FnOk P w K mg base CX0 1 T.a_common_divisor T.d_common_divisor ["first", "second"] (sp_common_divisor K) := ok_common_divisor T
  refine T.F_rational_numbers.ok sc_rational_numbers (fun vs H Q E h => ?_) (fun cdv A outer s H vs Q E hr h => ?_)
  · obtain ⟨d, a, ns, rfl, _⟩ := h
    rfl
  · obtain ⟨d, a, ns, rfl, hd0, hd1, ha, hl, hpos, q⟩ := h
    have hu := hu_of hr
    refine ⟨_, (pss_cons (ps_set (i := 2) sc_rational_numbers.nd rfl (Or.inl rfl) (pe_lst pa_nil))
      (pss_cons (ps_for PassesOwn.never rfl (pi_list (pv 1)) (pg_name (i := 3) sc_rational_numbers.nd rfl (Or.inl rfl)) (pss_cons (ps_set (i := 4) sc_rational_numbers.nd rfl (Or.inl rfl) (pe_call G_common_divisor (hr.mono (by decide)) rfl T.g_common_divisor T.F_common_divisor.kp T.b_common_divisor .nil pass0 (pa_cons (pv 3) (pa_cons (pv 0) pa_nil))))
      (pss_one (ps_expr (pe_bm PySem.F.plainAttrs_list PySem.F.slot_list_extend PySem.F.type_list_extend mt_extend (pv 2) (pa_cons (pe_lst (pa_cons (pe_op op_fdivN (pv 3) (pv 4)) (pa_cons (pe_op op_fdivN (pv 0) (pv 4)) pa_nil))) pa_nil))))))
      (pss_one (ps_ret (pv 2))))), ?_⟩
    refine ⟨Nat.zero_le _, fun o no => ?_⟩
    refine ⟨_, rfl, a, rfl, ⟨_, Same.seq (same_upd no) ha⟩, ?_⟩
    refine for_it (walk_list (xs := ns.map V.int)) (fun i σ H1 => i ≤ ns.length ∧ Same H H1 ∧ (∃ y3 y4, σ = [some (.int d), some (.ref a), some (.ref o), y3, y4]) ∧ H1 o = some (.lst ((ratI d (ns.take i)).map V.int))) ?_ ?_ ?_ ?_
    · exact ⟨Nat.zero_le _, same_upd no, ⟨none, none, rfl⟩, upd_same⟩
    · intro i σ H1 _ p
      exact Same.seq p.2.1 ha
    · intro i x σ H1 H2 hi p y
      obtain ⟨_, sm, ⟨y3, y4, rfl⟩, ho⟩ := p
      obtain ⟨rfl, e⟩ := y
      obtain ⟨n, e1, rfl⟩ := map_at e
      have n0 : 0 ≤ n := hpos n (List.mem_of_getElem? e1)
      have gpos : 0 < Nat.gcd n.natAbs d.natAbs := Nat.gcd_pos_of_pos_right _ (by omega)
      have gle : Nat.gcd n.natAbs d.natAbs ≤ d.natAbs := Nat.gcd_le_right _ (by omega)
      have en : ((n.natAbs : Nat) : Int) = n := by omega
      have ed : ((d.natAbs : Nat) : Int) = d := by omega
      have f1 : n.fdiv (Nat.gcd n.natAbs d.natAbs : Nat) = n / (Nat.gcd n.natAbs d.natAbs : Nat) := Int.fdiv_eq_ediv_of_nonneg _ (by omega)
      have f2 : d.fdiv (Nat.gcd n.natAbs d.natAbs : Nat) = d / (Nat.gcd n.natAbs d.natAbs : Nat) := Int.fdiv_eq_ediv_of_nonneg _ (by omega)
      refine ⟨_, rfl, _, rfl, n.natAbs, d.natAbs, ?_, ?_⟩
      · rw [en, ed]
        rfl
      refine ⟨_, rfl, .inl ⟨rfl, _, .inl (.inl ho)⟩, ?_⟩
      have hb : (((Nat.gcd n.natAbs d.natAbs : Nat) : Int) ≠ 0) ∧ ((Nat.gcd n.natAbs d.natAbs : Nat) : Int).natAbs < 1073741824 := by omega
      refine ⟨_, rfl, _, rfl, _, _, rfl, rfl, hb, _, rfl, _, rfl, _, _, rfl, rfl, hb, (by show 2 ≤ sizeLine; decide), fun l nl => ?_⟩
      have lo : l ≠ o := fun z => by
        rw [z, ho] at nl
        cases nl
      refine ⟨o, l, _, _, rfl, rfl, (upd_ne lo.symm).trans ho, upd_same, ?_, ?_⟩
      · rw [List.length_map, ratI_len, List.length_take]
        exact line_le (by simp; omega)
      · refine ⟨by rw [List.length_map] at hi; exact hi, ?_, ⟨_, _, rfl⟩, ?_⟩
        · exact SameBut.same (SameBut.trans (same_but (Same.trans sm (same_upd nl))) SameBut.upd) no
        · rw [upd_same, take_more e1, ratI_more, List.map_append, ← f1, ← f2]
          rfl
    · intro σ H1 p
      obtain ⟨_, sm, ⟨y3, y4, rfl⟩, ho⟩ := p
      rw [List.length_map, List.take_length] at ho
      exact ⟨_, rfl, q H1 o sm no ho⟩
/-! ### every third number of a list -/
abbrev pk (j : Int) (ns : List Int) : List Int := pickNums ns (some j) none (some 3)
theorem pickV_map (ns : List Int) (lo hi st : Option Int) : pickV (ns.map V.int) lo hi st = (pickNums ns lo hi st).map V.int := by
  unfold pickV pickNums
  rw [List.length_map, List.map_filterMap]
  congr 1
  funext j
  rw [List.getElem?_map]
theorem zipB_at {xs ys : List Int} {f : Int → Int → Bool} {i : Nat} {z : V} (h : ((List.zipWith f xs ys).map V.bl)[i]? = some z) :
    ∃ x y, xs[i]? = some x ∧ ys[i]? = some y ∧ z = .bl (f x y) := by
  rw [List.getElem?_map, List.getElem?_zipWith] at h
  split at h
  · rename_i x y e1 e2
    exact ⟨x, y, e1, e2, (Option.some.inj h).symm⟩
  · cases h
/-! ### is_feasible -/
def sp_is_feasible (K : PySem.W.Frag) : Sp := fun vs H Q _ => ∃ (q lo hi d : Int) (c b : Addr) (ns bs : List Int), vs = [.int q, .int lo, .int hi, .int d, .ref c, .ref b] ∧ Bd q ∧ Bd d ∧ LI K H c ns ∧ LI K H b bs ∧ bs.length ≤ 1000 ∧ (∀ x ∈ bs, Bd x) ∧
  ∀ H', Same H H' → Q (.bl (feas q lo hi d (pk 0 ns) (pk 2 ns) bs)) H'
theorem ok_is_feasible (T : Txt K mg) : FnOk P w K mg base CX0 2 T.a_is_feasible T.d_is_feasible ["quantity", "low", "high", "den", "components", "blend"] (sp_is_feasible K) := by
  have G_within : FnOk P w K mg base CX0 1 T.a_within T.d_within ["number", "most"] (sp_within K) := ok_within T
  have G_weighted_sum : FnOk P w K mg base CX0 1 T.a_weighted_sum T.d_weighted_sum ["amounts", "weights"] (sp_weighted_sum K) := ok_weighted_sum T
  refine T.F_is_feasible.ok sc_is_feasible (fun vs H Q E h => ?_) (fun cdv A outer s H vs Q E hr h => ?_)
  · obtain ⟨q, lo, hi, d, c, b, ns, bs, rfl, _⟩ := h
    rfl
  · obtain ⟨q, lo, hi, d, c, b, ns, bs, rfl, hq, hd, hc, hb, hl, hbs, k⟩ := h
    have hu := hu_of hr
    refine ⟨_, (pss_cons (ps_set (i := 6) sc_is_feasible.nd rfl (Or.inl rfl) (pe_slice3 (pv 4) (po_some pe_int) po_none (po_some pe_int)))
      (pss_cons (ps_if (pt_not (pt_val (pe_callB (cr_all rfl) (by rfl) T.z_all (by decide +kernel) (pa_cons (pe_lc (own := [("amount", 8), ("most", 9)]) (g := (gTup K 2 (gCons (gName 8) (gCons (gName 9) gNil)))) (tt := tYes) rfl sc_is_feasible.nd (pi_zip (by rfl) T.z_zip (pa_cons (pv 5) (pa_cons (pv 6) pa_nil))) (blkOk_by (own := [("amount", 8), ("most", 9)]) (N := N_is_feasible) (sc := defScope s_is_feasible) (by decide +kernel)) (fun _ _ _ _ _ => (pg_tup rfl (pgs_cons (pg_name (i := 8) sc_is_feasible.nd rfl (Or.inl rfl)) (pgs_cons (pg_name (i := 9) sc_is_feasible.nd rfl (Or.inl rfl)) pgs_nil)))) (fun _ _ _ _ _ => pts_nil) (fun _ _ _ _ _ => (pe_call G_within (hr.mono (by decide)) rfl T.g_within T.F_within.kp T.b_within .nil pass0 (pa_cons (pv 8) (pa_cons (pe_op op_mul (pv 3) (pv 9)) pa_nil))))) pa_nil)))) (pss_one (ps_ret pe_bl)) pss_nil)
      (pss_cons (ps_if (pt_cmpR op_ne (pe_callB (cr_sum rfl) (by rfl) T.z_sum (by decide +kernel) (pa_cons (pv 5) pa_nil)) (pe_op op_mul (pv 3) (pv 0)) (nomark _)) (pss_one (ps_ret pe_bl)) pss_nil)
      (pss_cons (ps_set (i := 7) sc_is_feasible.nd rfl (Or.inl rfl) (pe_call G_weighted_sum (hr.mono (by decide)) rfl T.g_weighted_sum T.F_weighted_sum.kp T.b_weighted_sum .nil pass0 (pa_cons (pv 5) (pa_cons (pe_slice3 (pv 4) (po_some pe_int) po_none (po_some pe_int)) pa_nil))))
      (pss_one (ps_ret (pe_chain op_le op_le (pe_op op_mul (pe_op op_mul (pv 3) (pv 1)) (pv 0)) (pv 7) (pe_op op_mul (pe_op op_mul (pv 3) (pv 2)) (pv 0))))))))), ?_⟩
    -- available = components[0::3]
    refine ⟨_, rfl, 0, rfl, 3, rfl, c, _, rfl, hc, by decide, fun av nav => ?_⟩
    obtain ⟨avl, hav⟩ : ∃ a, a = pk 0 ns := ⟨_, rfl⟩
    rw [pickV_map, show pickNums ns (some 0) none (some 3) = avl from hav.symm]
    rw [← hav] at k
    have sav : Same H (upd H av (.lst (avl.map V.int))) := same_upd nav
    -- all([..])
    refine ⟨_, rfl, _, rfl, b, av, _, _, rfl, Same.seq sav hb, .inl (.inl upd_same), fun D hD => ?_⟩
    refine lc_map (walk_zip rfl) hD ?_ (fun H1 sm => ⟨Same.seq sm (Same.seq sav hb), Same.seq sm (.inl (.inl upd_same))⟩) ((List.zipWith (fun x m => within x (d * m)) bs avl).map V.bl) (by simp) ?_ ?_
    · rw [List.length_map, List.length_map]
      omega
    · intro i x H1 H2 z R Z hz sm y hR
      obtain ⟨x1, y1, e1, e2, rfl⟩ := zipB_at hz
      obtain ⟨t, x2, y2, rfl, nt, rfl, f1, f2⟩ := y
      have g1 : x2 = .int x1 := int_at e1 f1
      have g2 : y2 = .int y1 := int_at e2 f2
      subst g1 g2
      refine ⟨t, _, rfl, .inl (.inl upd_same), rfl, _, _, rfl, _, _, rfl, rfl, rfl, iteT ?_⟩
      refine ⟨_, rfl, _, rfl, _, rfl, _, _, rfl, rfl, .inl hd, x1, d * y1, rfl, ?_⟩
      exact hR _ (same_upd nt)
    intro H1 sm hD1
    have s1 : Same H H1 := Same.trans sav sm
    refine ⟨D, _, rfl, .inl (.inl hD1), _, rfl, ?_⟩
    cases hall : (List.zipWith (fun x m => within x (d * m)) bs avl).all id with
    | false =>
      refine iteT ?_
      have e : feas q lo hi d avl (pk 2 ns) bs = false := by
        unfold feas
        rw [hall, Bool.false_and]
      rw [e] at k
      exact k H1 s1
    | true =>
      refine iteF ?_
      -- if sum(blend) != den * quantity
      refine ⟨_, rfl, b, bs, rfl, Same.seq s1 hb, _, rfl, _, rfl, _, _, rfl, rfl, .inl hd, rfl, _, rfl, ?_⟩
      by_cases hs : bs.sum = d * q
      · have e0 : (!decide (V.int bs.sum = V.int (d * q))) = false := by
          rw [hs, decide_eq_true rfl]
          rfl
        refine if_false_of e0 ?_
        -- total = weighted_sum(blend, components[2::3])
        refine ⟨_, rfl, _, rfl, 2, rfl, 3, rfl, c, _, rfl, Same.seq s1 hc, by decide, fun pr npr => ?_⟩
        obtain ⟨prl, hpr⟩ : ∃ a, a = pk 2 ns := ⟨_, rfl⟩
        rw [pickV_map, show pickNums ns (some 2) none (some 3) = prl from hpr.symm]
        rw [← hpr] at k
        have s2 : Same H1 (upd H1 pr (.lst (prl.map V.int))) := same_upd npr
        refine ⟨b, pr, bs, prl, rfl, Same.seq (Same.trans s1 s2) hb, .inl (.inl upd_same), hl, hbs, fun H3 s3 => ?_⟩
        have s13 : Same H H3 := Same.trans s1 (Same.trans s2 s3)
        -- return ..
        refine ⟨_, rfl, _, rfl, _, _, rfl, rfl, .inl hd, _, rfl, _, _, rfl, rfl, .inr hq, _, rfl, _, _, rfl, rfl, _, rfl, ?_⟩
        have e1 : feas q lo hi d avl prl bs = (decide (d * lo * q ≤ wsum bs prl) && decide (wsum bs prl ≤ d * hi * q)) := by
          unfold feas
          rw [hall, hs, decide_eq_true rfl, Bool.true_and, Bool.true_and]
        rw [e1] at k
        by_cases h1 : d * lo * q ≤ wsum bs prl
        · rw [decide_eq_true h1] at k ⊢
          refine iteT ?_
          refine ⟨_, rfl, _, rfl, _, _, rfl, rfl, .inl hd, _, rfl, _, _, rfl, rfl, .inr hq, _, _, rfl, rfl, ?_⟩
          rw [Bool.true_and] at k
          exact k H3 s13
        · rw [decide_eq_false h1] at k ⊢
          refine iteF ?_
          rw [Bool.false_and] at k
          exact k H3 s13
      · have e0 : (!decide (V.int bs.sum = V.int (d * q))) = true := by
          rw [decide_eq_false (fun z => hs (V.int.inj z))]
          rfl
        refine if_true_of e0 ?_
        have e : feas q lo hi d avl (pk 2 ns) bs = false := by
          unfold feas
          rw [decide_eq_false hs, Bool.false_and, Bool.and_false]
        rw [e] at k
        exact k H1 s1
/-! ### the limits -/
def lim : Nat → Int
  | 0 => 50
  | _ => 99
def oks (ns : List Int) : List Bool := ns.mapIdx fun i x => within x (lim (i % 3))
def compsOk (ns : List Int) : Bool := decide (ns.length % 3 = 0) && (decide (ns.length ≤ 12) && (oks ns).all id)
def sp_components_within_limits (K : PySem.W.Frag) : Sp := fun vs H Q _ => ∃ (c : Addr) (ns : List Int), vs = [.ref c] ∧ LI K H c ns ∧ ns.length ≤ 1000 ∧ ∀ H', Same H H' → Q (.bl (compsOk ns)) H'
theorem lim_at {i : Nat} : ([V.int 50, V.int 99, V.int 99] : List V)[i % 3]? = some (.int (lim (i % 3))) := by
  have h : i % 3 = 0 ∨ i % 3 = 1 ∨ i % 3 = 2 := by omega
  rcases h with h | h | h <;> rw [h] <;> rfl
theorem ok_components_within_limits (T : Txt K mg) : FnOk P w K mg base CX0 2 T.a_components_within_limits T.d_components_within_limits ["components"] (sp_components_within_limits K) := by
  have G_within : FnOk P w K mg base CX0 1 T.a_within T.d_within ["number", "most"] (sp_within K) := ok_within T
  refine T.F_components_within_limits.ok sc_components_within_limits (fun vs H Q E h => ?_) (fun cdv A outer s H vs Q E hr h => ?_)
  · obtain ⟨c, ns, rfl, _⟩ := h
    rfl
  · obtain ⟨c, ns, rfl, hc, hl, k⟩ := h
    have hu := hu_of hr
    refine ⟨_, (pss_cons (ps_if (PW.pt (pw_or (pt_cmpR op_ne (pe_op op_modN (pe_callB call_len_seq (by rfl) T.z_len PySem.boot_len (pa_cons (pv 0) pa_nil)) pe_int) pe_int (nomark _)) (pw_or1 (pt_cmpR op_gt (pe_callB call_len_seq (by rfl) T.z_len PySem.boot_len (pa_cons (pv 0) pa_nil)) (pe_op op_mul pe_int (pe_glob (v := V.int 4) rfl T.c_MOST_COMPONENTS ⟨_, rfl⟩)) (nomark _))))) (pss_one (ps_ret pe_bl)) pss_nil)
      (pss_one (ps_ret (pe_callB (cr_all rfl) (by rfl) T.z_all (by decide +kernel) (pa_cons (pe_lc (own := [("place", 1), ("number", 2)]) (g := (gTup K 2 (gCons (gName 1) (gCons (gName 2) gNil)))) (tt := tYes) rfl sc_components_within_limits.nd (pi_enum (by rfl) T.z_enumerate (pa_cons (pv 0) pa_nil)) (blkOk_by (own := [("place", 1), ("number", 2)]) (N := N_components_within_limits) (sc := defScope s_components_within_limits) (by decide +kernel)) (fun _ _ _ _ _ => (pg_tup rfl (pgs_cons (pg_name (i := 1) sc_components_within_limits.nd rfl (Or.inl rfl)) (pgs_cons (pg_name (i := 2) sc_components_within_limits.nd rfl (Or.inl rfl)) pgs_nil)))) (fun _ _ _ _ _ => pts_nil) (fun _ _ _ _ _ => (pe_call G_within (hr.mono (by decide)) rfl T.g_within T.F_within.kp T.b_within .nil pass0 (pa_cons (pv 2) (pa_cons (pe_ix (show IxR _ (rIxT K) from ix_tup) (pe_glob (v := V.ref T.q_MOST_OF_COMPONENT) rfl T.c_MOST_OF_COMPONENT rfl) (pe_op op_modN (pv 1) pe_int) (fun _ _ => rfl)) pa_nil))))) pa_nil))))), ?_⟩
    have fm : ((ns.map V.int).length : Int).fmod 3 = ((ns.length % 3 : Nat) : Int) := by
      rw [List.length_map, Int.fmod_eq_emod_of_nonneg _ (by decide)]
      rfl
    refine ⟨_, rfl, c, ns.map V.int, rfl, .inl hc, _, _, rfl, rfl, (by show (3 : Int) ≠ 0; decide), rfl, _, rfl, ?_⟩
    by_cases h3 : ns.length % 3 = 0
    · have e0 : (!decide (V.int (((ns.map V.int).length : Int).fmod 3) = V.int 0)) = false := by
        rw [fm, h3]
        rfl
      refine if_false_of e0 ?_
      refine ⟨_, rfl, c, ns.map V.int, rfl, .inl hc, _, _, rfl, rfl, .inl (by decide), _, _, rfl, rfl, _, rfl, ?_⟩
      by_cases h12 : ns.length ≤ 12
      · have e1 : decide ((3 : Int) * 4 < ((ns.map V.int).length : Int)) = false := by
          rw [List.length_map]
          exact decide_eq_false (by omega)
        refine if_false_of e1 ?_
        refine ⟨_, rfl, c, _, rfl, hc, fun D hD => ?_⟩
        refine lc_map walk_enum hD ?_ (fun H1 sm => Same.seq sm hc) ((oks ns).map V.bl) (by simp [oks]) ?_ ?_
        · rw [List.length_map]
          omega
        · intro i x H1 H2 z R Z hz sm y hR
          obtain ⟨t, x2, y2, rfl, nt, rfl, f1, f2⟩ := y
          have g1 : x2 = .int (i : Nat) := (Option.some.inj f1).symm
          obtain ⟨n, e1, g2⟩ := map_at f2
          subst g1 g2
          have ez : z = .bl (within n (lim (i % 3))) := by
            unfold oks at hz
            rw [List.getElem?_map, List.getElem?_mapIdx, e1] at hz
            exact (Option.some.inj hz).symm
          subst ez
          have fi : ((i : Nat) : Int).fmod 3 = ((i % 3 : Nat) : Int) := by
            rw [Int.fmod_eq_emod_of_nonneg _ (by decide)]
            rfl
          refine ⟨t, _, rfl, .inl (.inl upd_same), rfl, _, _, rfl, _, _, rfl, rfl, rfl, iteT ?_⟩
          refine ⟨_, rfl, _, rfl, _, _, rfl, rfl, (by show (3 : Int) ≠ 0; decide), T.q_MOST_OF_COMPONENT, _, _, _, rfl, rfl, T.v_MOST_OF_COMPONENT _, at_of fi lim_at, n, lim (i % 3), rfl, ?_⟩
          exact hR _ (same_upd nt)
        · intro H1 sm hD1
          refine ⟨D, _, rfl, .inl (.inl hD1), ?_⟩
          have e : compsOk ns = (oks ns).all id := by
            unfold compsOk
            rw [decide_eq_true h3, decide_eq_true h12, Bool.true_and, Bool.true_and]
          rw [e] at k
          exact k H1 sm
      · have e1 : decide ((3 : Int) * 4 < ((ns.map V.int).length : Int)) = true := by
          rw [List.length_map]
          exact decide_eq_true (by omega)
        refine if_true_of e1 ?_
        have e : compsOk ns = false := by
          unfold compsOk
          rw [decide_eq_false h12, Bool.false_and, Bool.and_false]
        rw [e] at k
        exact k H (Same.refl H)
    · have e0 : (!decide (V.int (((ns.map V.int).length : Int).fmod 3) = V.int 0)) = true := by
        rw [fm, decide_eq_false (fun z => h3 (by have := V.int.inj z; omega))]
        rfl
      refine if_true_of e0 ?_
      have e : compsOk ns = false := by
        unfold compsOk
        rw [decide_eq_false h3, Bool.false_and]
      rw [e] at k
      exact k H (Same.refl H)
/-! ### the limits of a whole request -/
def reqOk (q lo hi : Int) (ns : List Int) : Bool := within q 99 && (within lo 99 && (within hi 99 && (decide (lo ≤ hi) && compsOk ns)))
/-! ### bounds_within_limits -/
def boundsOk (lo hi : Int) : Bool := decide (0 ≤ lo) && (decide (lo ≤ hi) && decide (hi ≤ 99))
theorem bounds_parts {lo hi : Int} : boundsOk lo hi = true ↔ 0 ≤ lo ∧ lo ≤ hi ∧ hi ≤ 99 := by
  unfold boundsOk
  rw [Bool.and_eq_true, Bool.and_eq_true, decide_eq_true_eq, decide_eq_true_eq, decide_eq_true_eq]
def sp_bounds_within_limits (K : PySem.W.Frag) : Sp := fun vs H Q _ => ∃ lo hi : Int, vs = [.int lo, .int hi] ∧ Q (.bl (boundsOk lo hi)) H
theorem ok_bounds_within_limits (T : Txt K mg) : FnOk P w K mg base CX0 1 T.a_bounds_within_limits T.d_bounds_within_limits ["low", "high"] (sp_bounds_within_limits K) := by
  refine T.F_bounds_within_limits.ok sc_bounds_within_limits (fun vs H Q E h => ?_) (fun cdv A outer s H vs Q E hr h => ?_)
  · obtain ⟨lo, hi, rfl, _⟩ := h
    rfl
  · obtain ⟨lo, hi, rfl, q⟩ := h
    have hu := hu_of hr
    refine ⟨_, (pss_one (ps_ret (pe_chain3 op_le op_le op_le pe_int (pv 0) (pv 1) (pe_glob (v := V.int 99) rfl T.c_MOST_BOUND ⟨_, rfl⟩)))), ?_⟩
    refine ⟨_, rfl, 0, lo, rfl, rfl, _, rfl, ite2 (fun c1 => ?_) (fun c1 => ?_)⟩
    · refine ⟨_, rfl, lo, hi, rfl, rfl, _, rfl, ite2 (fun c2 => ?_) (fun c2 => ?_)⟩
      · refine ⟨hi, 99, rfl, rfl, ?_⟩
        have e : boundsOk lo hi = decide (hi ≤ 99) := by
          unfold boundsOk
          rw [c1, c2, Bool.true_and, Bool.true_and]
        rw [e] at q
        exact q
      · have e : boundsOk lo hi = false := by
          unfold boundsOk
          rw [eq_false_of_ne_true c2, Bool.false_and, Bool.and_false]
        rw [e] at q
        exact q
    · have e : boundsOk lo hi = false := by
        unfold boundsOk
        rw [eq_false_of_ne_true c1, Bool.false_and]
      rw [e] at q
      exact q
/-! ### request_within_limits -/
theorem reqOk_bounds (q lo hi : Int) (ns : List Int) : reqOk q lo hi ns = (within q 99 && (boundsOk lo hi && compsOk ns)) := by
  have e : (within lo 99 && (within hi 99 && (decide (lo ≤ hi) && compsOk ns))) = (boundsOk lo hi && compsOk ns) := by
    cases compsOk ns with
    | false => rw [Bool.and_false, Bool.and_false, Bool.and_false, Bool.and_false]
    | true =>
      rw [Bool.eq_iff_iff]
      simp only [Bool.and_true, Bool.and_eq_true, bounds_parts, within, decide_eq_true_eq]
      omega
  unfold reqOk
  rw [e]
def sp_request_within_limits (K : PySem.W.Frag) : Sp := fun vs H Q _ => ∃ (q lo hi : Int) (c : Addr) (ns : List Int), vs = [.int q, .int lo, .int hi, .ref c] ∧ LI K H c ns ∧ ns.length ≤ 1000 ∧ ∀ H', Same H H' → Q (.bl (reqOk q lo hi ns)) H'
theorem ok_request_within_limits (T : Txt K mg) : FnOk P w K mg base CX0 3 T.a_request_within_limits T.d_request_within_limits ["quantity", "low", "high", "components"] (sp_request_within_limits K) := by
  have G_within : FnOk P w K mg base CX0 1 T.a_within T.d_within ["number", "most"] (sp_within K) := ok_within T
  have G_bounds_within_limits : FnOk P w K mg base CX0 1 T.a_bounds_within_limits T.d_bounds_within_limits ["low", "high"] (sp_bounds_within_limits K) := ok_bounds_within_limits T
  have G_components_within_limits : FnOk P w K mg base CX0 2 T.a_components_within_limits T.d_components_within_limits ["components"] (sp_components_within_limits K) := ok_components_within_limits T
  refine T.F_request_within_limits.ok sc_request_within_limits (fun vs H Q E h => ?_) (fun cdv A outer s H vs Q E hr h => ?_)
  · obtain ⟨q, lo, hi, c, ns, rfl, _⟩ := h
    rfl
  · obtain ⟨q, lo, hi, c, ns, rfl, hc, hl, k⟩ := h
    have hu := hu_of hr
    refine ⟨_, (pss_cons (ps_if (PW.pt (pw_or (pt_not (pt_val (pe_call G_within (hr.mono (by decide)) rfl T.g_within T.F_within.kp T.b_within .nil pass0 (pa_cons (pv 0) (pa_cons (pe_glob (v := V.int 99) rfl T.c_MOST_QUANTITY ⟨_, rfl⟩) pa_nil))))) (pw_or1 (pt_not (pt_val (pe_call G_bounds_within_limits (hr.mono (by decide)) rfl T.g_bounds_within_limits T.F_bounds_within_limits.kp T.b_bounds_within_limits .nil pass0 (pa_cons (pv 1) (pa_cons (pv 2) pa_nil)))))))) (pss_one (ps_ret pe_bl)) pss_nil)
      (pss_one (ps_ret (pe_call G_components_within_limits (hr.mono (by decide)) rfl T.g_components_within_limits T.F_components_within_limits.kp T.b_components_within_limits .nil pass0 (pa_cons (pv 3) pa_nil))))), ?_⟩
    rw [reqOk_bounds] at k
    refine ⟨_, rfl, q, 99, rfl, _, rfl, ?_⟩
    cases h1 : within q 99 with
    | false =>
      rw [h1, Bool.false_and] at k
      exact iteT (k H (Same.refl H))
    | true =>
      rw [h1, Bool.true_and] at k
      refine iteF ?_
      refine ⟨_, rfl, _, rfl, lo, hi, rfl, _, rfl, ?_⟩
      cases h2 : boundsOk lo hi with
      | false =>
        rw [h2, Bool.false_and] at k
        exact iteT (k H (Same.refl H))
      | true =>
        rw [h2, Bool.true_and] at k
        refine iteF ?_
        exact ⟨_, rfl, c, ns, rfl, hc, hl, fun H' sm => k H' sm⟩
/-! ### about limits -/
theorem within_iff {x m : Int} : within x m = true ↔ 0 ≤ x ∧ x ≤ m := by
  unfold within
  rw [Bool.and_eq_true, decide_eq_true_eq, decide_eq_true_eq]
theorem all_within {bs : List Int} {m : Int} (h : (bs.map fun x => within x m).all id = true) : ∀ x ∈ bs, 0 ≤ x ∧ x ≤ m := fun x hx => by
  rw [List.all_map, List.all_eq_true] at h
  exact within_iff.mp (h x hx)
theorem bd_of {x : Int} (h0 : -1000000000 ≤ x) (h1 : x ≤ 1000000000) : Bd x := by
  unfold Bd
  omega
theorem pickNums_mem {ns : List Int} {lo hi st : Option Int} {x : Int} (h : x ∈ pickNums ns lo hi st) : x ∈ ns := by
  unfold pickNums at h
  obtain ⟨j, _, e⟩ := List.mem_filterMap.mp h
  exact List.mem_of_getElem? e
theorem lim_le (i : Nat) : lim i ≤ 99 := by
  unfold lim
  split <;> decide
theorem comps_bd {ns : List Int} (h : compsOk ns = true) : ∀ x ∈ ns, 0 ≤ x ∧ x ≤ 99 := fun x hx => by
  unfold compsOk at h
  rw [Bool.and_eq_true, Bool.and_eq_true] at h
  have h3 := h.2.2
  rw [List.all_eq_true] at h3
  obtain ⟨i, hi⟩ := List.mem_iff_getElem?.mp hx
  have hm : within x (lim (i % 3)) ∈ oks ns := by
    refine List.mem_of_getElem? (i := i) ?_
    unfold oks
    rw [List.getElem?_mapIdx, hi]
    rfl
  have := within_iff.mp (h3 _ hm)
  have := lim_le (i % 3)
  omega
theorem reqOk_parts {q lo hi : Int} {ns : List Int} (h : reqOk q lo hi ns = true) : (0 ≤ q ∧ q ≤ 99) ∧ (0 ≤ lo ∧ lo ≤ 99) ∧ (0 ≤ hi ∧ hi ≤ 99) ∧ lo ≤ hi ∧ compsOk ns = true := by
  unfold reqOk at h
  rw [Bool.and_eq_true, Bool.and_eq_true, Bool.and_eq_true, Bool.and_eq_true, decide_eq_true_eq] at h
  exact ⟨within_iff.mp h.1, within_iff.mp h.2.1, within_iff.mp h.2.2.1, h.2.2.2.1, h.2.2.2.2⟩
theorem wsum_nonneg : ∀ {xs ys : List Int}, (∀ x ∈ xs, 0 ≤ x) → (∀ y ∈ ys, 0 ≤ y) → 0 ≤ wsum xs ys
  | [], _, _, _ => by simp [wsum]
  | _ :: _, [], _, _ => by simp [wsum]
  | x :: xs, y :: ys, hx, hy => by
    have ih := wsum_nonneg (xs := xs) (ys := ys) (fun z hz => hx z (List.mem_cons_of_mem _ hz)) fun z hz => hy z (List.mem_cons_of_mem _ hz)
    have h := Int.mul_nonneg (hx x List.mem_cons_self) (hy y List.mem_cons_self)
    unfold wsum at ih ⊢
    rw [List.zipWith_cons_cons, List.sum_cons]
    omega
/-! ### blend_within_limits -/
def blendOk (d : Int) (ns bs : List Int) : Bool := decide (d ≠ 0) && (within d 99 && (decide ((3 : Int) * (bs.length : Int) = (ns.length : Int)) && (bs.map fun x => within x 9999).all id))
def sp_blend_within_limits (K : PySem.W.Frag) : Sp := fun vs H Q _ => ∃ (d : Int) (c b : Addr) (ns bs : List Int), vs = [.int d, .ref c, .ref b] ∧ LI K H c ns ∧ LI K H b bs ∧ bs.length ≤ 1000 ∧ ∀ H', Same H H' → Q (.bl (blendOk d ns bs)) H'
theorem ok_blend_within_limits (T : Txt K mg) : FnOk P w K mg base CX0 2 T.a_blend_within_limits T.d_blend_within_limits ["den", "components", "blend"] (sp_blend_within_limits K) := by
  have G_within : FnOk P w K mg base CX0 1 T.a_within T.d_within ["number", "most"] (sp_within K) := ok_within T
  refine T.F_blend_within_limits.ok sc_blend_within_limits (fun vs H Q E h => ?_) (fun cdv A outer s H vs Q E hr h => ?_)
  · obtain ⟨d, c, b, ns, bs, rfl, _⟩ := h
    rfl
  · obtain ⟨d, c, b, ns, bs, rfl, hc, hb, hl, k⟩ := h
    have hu := hu_of hr
    refine ⟨_, (pss_cons (ps_if (PW.pt (pw_or (pt_cmpR op_eq (pv 0) pe_int (nomark _)) (pw_or1 (pt_not (pt_val (pe_call G_within (hr.mono (by decide)) rfl T.g_within T.F_within.kp T.b_within .nil pass0 (pa_cons (pv 0) (pa_cons (pe_glob (v := V.int 99) rfl T.c_MOST_DEN ⟨_, rfl⟩) pa_nil)))))))) (pss_one (ps_ret pe_bl)) pss_nil)
      (pss_cons (ps_if (pt_cmpR op_ne (pe_op op_mul pe_int (pe_callB call_len_seq (by rfl) T.z_len PySem.boot_len (pa_cons (pv 2) pa_nil))) (pe_callB call_len_seq (by rfl) T.z_len PySem.boot_len (pa_cons (pv 1) pa_nil)) (nomark _)) (pss_one (ps_ret pe_bl)) pss_nil)
      (pss_one (ps_ret (pe_callB (cr_all rfl) (by rfl) T.z_all (by decide +kernel) (pa_cons (pe_lc (own := [("amount", 3)]) (g := (gName 3)) (tt := tYes) rfl sc_blend_within_limits.nd (pi_list (pv 2)) (blkOk_by (own := [("amount", 3)]) (N := N_blend_within_limits) (sc := defScope s_blend_within_limits) (by decide +kernel)) (fun _ _ _ _ _ => (pg_name (i := 3) sc_blend_within_limits.nd rfl (Or.inl rfl))) (fun _ _ _ _ _ => pts_nil) (fun _ _ _ _ _ => (pe_call G_within (hr.mono (by decide)) rfl T.g_within T.F_within.kp T.b_within .nil pass0 (pa_cons (pv 3) (pa_cons (pe_glob (v := V.int 9999) rfl T.c_MOST_IN_BLEND ⟨_, rfl⟩) pa_nil))))) pa_nil)))))), ?_⟩
    have bad : blendOk d ns bs = false → Q (.bl false) H := fun e => by
      have := k H (Same.refl H)
      rw [e] at this
      exact this
    refine ⟨_, rfl, rfl, _, rfl, ?_⟩
    by_cases h0 : d = 0
    · have e0 : decide (V.int d = V.int 0) = true := by
        rw [h0]
        exact decide_eq_true rfl
      refine if_true_of e0 ?_
      exact iteT (bad (by unfold blendOk; rw [h0]; rfl))
    · have e0 : decide (V.int d = V.int 0) = false := decide_eq_false fun z => h0 (V.int.inj z)
      refine if_false_of e0 ?_
      refine ⟨_, rfl, d, 99, rfl, _, rfl, ?_⟩
      cases h1 : within d 99 with
      | false => exact iteT (bad (by unfold blendOk; rw [h1]; simp))
      | true =>
        refine iteF ?_
        refine ⟨_, rfl, b, bs.map V.int, rfl, .inl hb, _, _, rfl, rfl, .inl (by decide), _, rfl, c, ns.map V.int, rfl, .inl hc, rfl, _, rfl, ?_⟩
        rw [List.length_map, List.length_map]
        by_cases h2 : (3 : Int) * (bs.length : Int) = (ns.length : Int)
        · have e2 : (!decide (V.int ((3 : Int) * (bs.length : Int)) = V.int (ns.length : Int))) = false := by
            rw [h2, decide_eq_true rfl]
            rfl
          refine if_false_of e2 ?_
          refine ⟨_, rfl, b, rfl, ⟨_, hb⟩, fun D hD => ?_⟩
          refine lc_map (walk_list (xs := bs.map V.int)) hD ?_ (fun H1 sm => Same.seq sm hb) ((bs.map fun x => within x 9999).map V.bl) (by simp) ?_ ?_
          · rw [List.length_map]
            omega
          · intro i x H1 H2 z R Z hz sm y hR
            obtain ⟨rfl, e⟩ := y
            obtain ⟨n, e1, rfl⟩ := map_at e
            have ez : z = .bl (within n 9999) := by
              rw [List.getElem?_map, List.getElem?_map, e1] at hz
              exact (Option.some.inj hz).symm
            subst ez
            refine ⟨rfl, iteT ?_⟩
            refine ⟨_, rfl, n, 9999, rfl, ?_⟩
            exact hR _ (Same.refl _)
          · intro H1 sm hD1
            refine ⟨D, _, rfl, .inl (.inl hD1), ?_⟩
            have e : blendOk d ns bs = (bs.map fun x => within x 9999).all id := by
              unfold blendOk
              rw [h1, decide_eq_true h2, decide_eq_true h0, Bool.true_and, Bool.true_and, Bool.true_and]
            rw [e] at k
            exact k H1 sm
        · have e2 : (!decide (V.int ((3 : Int) * (bs.length : Int)) = V.int (ns.length : Int))) = true := by
            rw [decide_eq_false (fun z => h2 (V.int.inj z))]
            rfl
          refine if_true_of e2 ?_
          exact bad (by unfold blendOk; rw [decide_eq_false h2]; simp)
/-! ### check_blend -/
def chkM (q lo hi d : Int) (ns bs : List Int) : List Int :=
  if reqOk q lo hi ns = true then (if blendOk d ns bs = true then (if feas q lo hi d (pk 0 ns) (pk 2 ns) bs = true then 1 else 0) :: ratI d [wsum bs (pk 1 ns), wsum bs (pk 2 ns)] else [-22]) else [-22]
def sp_check_blend (K : PySem.W.Frag) : Sp := fun vs H Q _ => ∃ (q lo hi d : Int) (c b : Addr) (ns bs : List Int), vs = [.int q, .int lo, .int hi, .int d, .ref c, .ref b] ∧ LI K H c ns ∧ LI K H b bs ∧ ns.length ≤ 1000 ∧ bs.length ≤ 1000 ∧
  ∀ H' r, H' r = some (.lst ((chkM q lo hi d ns bs).map V.int)) → Q (.ref r) H'
/-! ### the request, read -/
theorem pk_of {ns : List Int} {j : Int} {n : Nat} {js : List Nat} {r : List Int} (hn : ns.length = n) (h : sliceRange (sliceBounds (some j) none (some 3) n).1 (sliceBounds (some j) none (some 3) n).2.1 (sliceBounds (some j) none (some 3) n).2.2 = js)
   (e : js.filterMap (ns[·]?) = r) : pickNums ns (some j) none (some 3) = r := by
  unfold pickNums
  rw [hn, h, e]
def compsOf : List Int → List Ks595.Component
  | a :: b :: c :: r => ⟨a.toNat, b.toNat, c.toNat⟩ :: compsOf r
  | _ => []
theorem shape : ∀ {ns : List Int}, ns.length % 3 = 0 → ns.length ≤ 12 → ns = [] ∨ (∃ a b c, ns = [a, b, c]) ∨ (∃ a b c d e f, ns = [a, b, c, d, e, f]) ∨
    (∃ a b c d e f g h i, ns = [a, b, c, d, e, f, g, h, i]) ∨ (∃ a b c d e f g h i j k l, ns = [a, b, c, d, e, f, g, h, i, j, k, l])
  | [], _, _ => .inl rfl
  | [_], h, _ => by simp at h
  | [_, _], h, _ => by simp at h
  | [a, b, c], _, _ => .inr (.inl ⟨a, b, c, rfl⟩)
  | [_, _, _, _], h, _ => by simp at h
  | [_, _, _, _, _], h, _ => by simp at h
  | [a, b, c, d, e, f], _, _ => .inr (.inr (.inl ⟨a, b, c, d, e, f, rfl⟩))
  | [_, _, _, _, _, _, _], h, _ => by simp at h
  | [_, _, _, _, _, _, _, _], h, _ => by simp at h
  | [a, b, c, d, e, f, g, h, i], _, _ => .inr (.inr (.inr (.inl ⟨a, b, c, d, e, f, g, h, i, rfl⟩)))
  | [_, _, _, _, _, _, _, _, _, _], h, _ => by simp at h
  | [_, _, _, _, _, _, _, _, _, _, _], h, _ => by simp at h
  | [a, b, c, d, e, f, g, h, i, j, k, l], _, _ => .inr (.inr (.inr (.inr ⟨a, b, c, d, e, f, g, h, i, j, k, l, rfl⟩)))
  | _ :: _ :: _ :: _ :: _ :: _ :: _ :: _ :: _ :: _ :: _ :: _ :: _ :: r, _, h => by
    simp only [List.length_cons] at h
    omega
theorem pk_comps {ns : List Int} (h3 : ns.length % 3 = 0) (h12 : ns.length ≤ 12) (h0 : ∀ x ∈ ns, 0 ≤ x) :
    pk 0 ns = (compsOf ns).map (fun c => (c.amount : Int)) ∧ pk 1 ns = (compsOf ns).map (fun c => (c.cost : Int)) ∧ pk 2 ns = (compsOf ns).map (fun c => (c.property : Int)) ∧ ns.length = 3 * (compsOf ns).length := by
  rcases shape h3 h12 with rfl | ⟨a, b, c, rfl⟩ | ⟨a, b, c, d, e, f, rfl⟩ | ⟨a, b, c, d, e, f, g, h, i, rfl⟩ | ⟨a, b, c, d, e, f, g, h, i, j, k, l, rfl⟩
  · exact ⟨rfl, rfl, rfl, rfl⟩
  · simp only [List.mem_cons, List.not_mem_nil, or_false, forall_eq_or_imp, forall_eq] at h0
    refine ⟨pk_of (n := 3) (js := [0]) rfl (by decide +kernel) ?_, pk_of (n := 3) (js := [1]) rfl (by decide +kernel) ?_, pk_of (n := 3) (js := [2]) rfl (by decide +kernel) ?_, rfl⟩ <;>
      (simp [compsOf]; omega)
  · simp only [List.mem_cons, List.not_mem_nil, or_false, forall_eq_or_imp, forall_eq] at h0
    refine ⟨pk_of (n := 6) (js := [0, 3]) rfl (by decide +kernel) ?_, pk_of (n := 6) (js := [1, 4]) rfl (by decide +kernel) ?_, pk_of (n := 6) (js := [2, 5]) rfl (by decide +kernel) ?_, rfl⟩ <;>
      (simp [compsOf]; omega)
  · simp only [List.mem_cons, List.not_mem_nil, or_false, forall_eq_or_imp, forall_eq] at h0
    refine ⟨pk_of (n := 9) (js := [0, 3, 6]) rfl (by decide +kernel) ?_, pk_of (n := 9) (js := [1, 4, 7]) rfl (by decide +kernel) ?_, pk_of (n := 9) (js := [2, 5, 8]) rfl (by decide +kernel) ?_, rfl⟩ <;>
      (simp [compsOf]; omega)
  · simp only [List.mem_cons, List.not_mem_nil, or_false, forall_eq_or_imp, forall_eq] at h0
    refine ⟨pk_of (n := 12) (js := [0, 3, 6, 9]) rfl (by decide +kernel) ?_, pk_of (n := 12) (js := [1, 4, 7, 10]) rfl (by decide +kernel) ?_, pk_of (n := 12) (js := [2, 5, 8, 11]) rfl (by decide +kernel) ?_, rfl⟩ <;>
      (simp [compsOf]; omega)
/-- the limits of the components, from the k-th component on -/
def oksFrom (k : Nat) (ns : List Int) : List Bool := ns.mapIdx fun i x => within x (lim ((k + i) % 3))
theorem oksFrom_zero (ns : List Int) : oksFrom 0 ns = oks ns := by
  unfold oksFrom oks
  congr 1
  funext i x
  rw [Nat.zero_add]
theorem oksFrom_cons (k : Nat) (x : Int) (r : List Int) : oksFrom k (x :: r) = within x (lim (k % 3)) :: oksFrom (k + 1) r := by
  unfold oksFrom
  rw [List.mapIdx_cons]
  congr 1
  congr 1
  funext i y
  rw [show k + (i + 1) = k + 1 + i by omega]
theorem within_nat {x m : Int} (h : 0 ≤ x) : within x m = decide (x ≤ m) := by
  unfold within
  rw [decide_eq_true h, Bool.true_and]
theorem parse_comps : ∀ (ns : List Int) (k : Nat), k % 3 = 0 → (∀ x ∈ ns, 0 ≤ x) →
    Ks595.parseComponents (ns.map Int.toNat) = if ns.length % 3 = 0 ∧ (oksFrom k ns).all id = true then some (compsOf ns) else none
  | [], k, _, _ => by
    rw [if_pos ⟨rfl, rfl⟩]
    rfl
  | [x], k, _, _ => by
    rw [if_neg (fun z => by have := z.1; simp at this)]
    rfl
  | [x, y], k, _, _ => by
    rw [if_neg (fun z => by have := z.1; simp at this)]
    rfl
  | a :: b :: c :: r, k, hk, h0 => by
    have ih := parse_comps r (k + 3) (by omega) fun x hx => h0 x (by simp [hx])
    have ha : 0 ≤ a := h0 a (by simp)
    have hb : 0 ≤ b := h0 b (by simp)
    have hc : 0 ≤ c := h0 c (by simp)
    have hl : (a :: b :: c :: r).length % 3 = r.length % 3 := by
      simp only [List.length_cons]
      omega
    have e0 : lim (k % 3) = 50 := by rw [hk]; rfl
    have e1 : lim ((k + 1) % 3) = 99 := by rw [show (k + 1) % 3 = 1 by omega]; rfl
    have e2 : lim ((k + 1 + 1) % 3) = 99 := by rw [show (k + 1 + 1) % 3 = 2 by omega]; rfl
    rw [oksFrom_cons, oksFrom_cons, oksFrom_cons, e0, e1, e2, hl]
    show (if 50 < a.toNat ∨ 99 < b.toNat ∨ 99 < c.toNat then none else (Ks595.parseComponents (r.map Int.toNat)).map fun components => ⟨a.toNat, b.toNat, c.toNat⟩ :: components) = _
    rw [ih, within_nat ha, within_nat hb, within_nat hc]
    by_cases hbad : 50 < a.toNat ∨ 99 < b.toNat ∨ 99 < c.toNat
    · rw [if_pos hbad, if_neg]
      intro z
      have z2 := z.2
      simp only [List.all_cons, id, Bool.and_eq_true, decide_eq_true_eq] at z2
      omega
    · rw [if_neg hbad]
      have w1 : decide (a ≤ 50) = true := decide_eq_true (by omega)
      have w2 : decide (b ≤ 99) = true := decide_eq_true (by omega)
      have w3 : decide (c ≤ 99) = true := decide_eq_true (by omega)
      rw [w1, w2, w3]
      simp only [List.all_cons, id, Bool.true_and]
      rw [show k + 1 + 1 + 1 = k + 3 by omega]
      by_cases hg : r.length % 3 = 0 ∧ (oksFrom (k + 3) r).all id = true
      · rw [if_pos hg, if_pos hg]
        rfl
      · rw [if_neg hg, if_neg hg]
        rfl
def prob (q lo hi : Int) (ns : List Int) : Ks595.Problem := ⟨compsOf ns, q.toNat, lo.toNat, hi.toNat⟩
theorem compsOf_len : ∀ ns : List Int, (compsOf ns).length = ns.length / 3
  | [] => rfl
  | [_] => by simp [compsOf]
  | [_, _] => by simp [compsOf]
  | a :: b :: c :: r => by
    show (compsOf r).length + 1 = _
    rw [compsOf_len r]
    simp only [List.length_cons]
    omega
theorem parse_prob {q lo hi : Int} {ns : List Int} (hq : 0 ≤ q) (hlo : 0 ≤ lo) (hhi : 0 ≤ hi) (h0 : ∀ x ∈ ns, 0 ≤ x) :
    Ks595.parseProblem q.toNat lo.toNat hi.toNat (ns.map Int.toNat) = if reqOk q lo hi ns = true then some (prob q lo hi ns) else none := by
  unfold Ks595.parseProblem
  rw [parse_comps ns 0 rfl h0, oksFrom_zero]
  unfold reqOk compsOk
  rw [within_nat hq, within_nat hlo, within_nat hhi]
  simp only [Bool.and_eq_true, decide_eq_true_eq]
  by_cases hg : ns.length % 3 = 0 ∧ (oks ns).all id = true
  · rw [if_pos hg]
    show (if Ks595.maxComponents < (compsOf ns).length ∨ 99 < q.toNat ∨ hi.toNat < lo.toNat ∨ 99 < hi.toNat then none else some (prob q lo hi ns)) = _
    rw [compsOf_len]
    unfold Ks595.maxComponents
    by_cases hbad : 4 < ns.length / 3 ∨ 99 < q.toNat ∨ hi.toNat < lo.toNat ∨ 99 < hi.toNat
    · rw [if_pos hbad, if_neg]
      intro z
      omega
    · rw [if_neg hbad, if_pos]
      refine ⟨by omega, by omega, by omega, by omega, hg.1, by omega, hg.2⟩
  · rw [if_neg hg, if_neg]
    intro z
    exact hg ⟨z.2.2.2.2.1, z.2.2.2.2.2.2⟩
theorem prob_parts {q lo hi : Int} {ns : List Int} (h : reqOk q lo hi ns = true) :
    avs (prob q lo hi ns) = pk 0 ns ∧ csts (prob q lo hi ns) = pk 1 ns ∧ prs (prob q lo hi ns) = pk 2 ns ∧ ns.length = 3 * (prob q lo hi ns).components.length ∧
    ((prob q lo hi ns).quantity : Int) = q ∧ ((prob q lo hi ns).low : Int) = lo ∧ ((prob q lo hi ns).high : Int) = hi := by
  obtain ⟨⟨q0, q1⟩, ⟨l0, l1⟩, ⟨i0, i1⟩, li, hcok⟩ := reqOk_parts h
  have hns := comps_bd hcok
  unfold compsOk at hcok
  rw [Bool.and_eq_true, Bool.and_eq_true, decide_eq_true_eq, decide_eq_true_eq] at hcok
  obtain ⟨e0, e1, e2, e3⟩ := pk_comps hcok.1 hcok.2.1 fun x hx => (hns x hx).1
  refine ⟨e0.symm, e1.symm, e2.symm, e3, ?_, ?_, ?_⟩
  · show ((q.toNat : Nat) : Int) = q
    omega
  · show ((lo.toNat : Nat) : Int) = lo
    omega
  · show ((hi.toNat : Nat) : Int) = hi
    omega
theorem pairs_ratI {d : Nat} (hd : d ≠ 0) : ∀ ns : List Int, Ks595.pairs (ns.map fun n => Ks595.Rational.make n d) = ratI (d : Int) ns
  | [] => rfl
  | n :: r => by
    have ih := pairs_ratI hd r
    unfold Ks595.pairs ratI at ih ⊢
    rw [List.map_cons, List.flatMap_cons, List.flatMap_cons, ih]
    have e : Ks595.Rational.make n d = ⟨n / (Nat.gcd n.natAbs d : Nat), d / Nat.gcd n.natAbs d⟩ := if_neg hd
    rw [e, Int.natAbs_natCast]
    rfl
theorem pk_parts {ns : List Int} (h : compsOk ns = true) : (pk 0 ns).length ≤ 4 ∧ (pk 1 ns).length = (pk 0 ns).length ∧ (pk 2 ns).length = (pk 0 ns).length := by
  have hns := comps_bd h
  unfold compsOk at h
  rw [Bool.and_eq_true, Bool.and_eq_true, decide_eq_true_eq, decide_eq_true_eq] at h
  obtain ⟨e0, e1, e2, e3⟩ := pk_comps h.1 h.2.1 fun x hx => (hns x hx).1
  rw [e0, e1, e2, List.length_map, List.length_map, List.length_map]
  omega
theorem chk_spec {q lo hi d : Int} {ns bs : List Int} (hq : 0 ≤ q) (hlo : 0 ≤ lo) (hhi : 0 ≤ hi) (hd : 0 ≤ d) (h0 : ∀ x ∈ ns, 0 ≤ x) (hb : ∀ x ∈ bs, 0 ≤ x) : PyKs595.check_blend q lo hi d ns bs = chkM q lo hi d ns bs := by
  have e0 : PyKs595.check_blend q lo hi d ns bs = Ks595Neutral.integers (Ks595.withProblem q.toNat lo.toNat hi.toNat (ns.map Int.toNat) fun p =>
    if (bs.map Int.toNat).length ≠ p.components.length ∨ d.toNat < 1 ∨ 99 < d.toNat ∨ ((bs.map Int.toNat).any fun x => decide (9999 < x)) = true then Ks595.number (-22)
    else { value := if Ks595.isFeasible p ((bs.map Int.toNat).map fun (v : Nat) => Ks595.Rational.make (v : Int) d.toNat) = true then 1 else 0,
           rest := Ks595.pairs [Ks595.costOf p ((bs.map Int.toNat).map fun (v : Nat) => Ks595.Rational.make (v : Int) d.toNat), Ks595.propertyTotal p ((bs.map Int.toNat).map fun (v : Nat) => Ks595.Rational.make (v : Int) d.toNat)] }) := rfl
  rw [e0]
  unfold Ks595.withProblem chkM
  rw [parse_prob hq hlo hhi h0]
  by_cases h1 : reqOk q lo hi ns = true
  · rw [if_pos h1, if_pos h1]
    obtain ⟨ea, ec, ep, el, eq, elo, ehi⟩ := prob_parts h1
    generalize prob q lo hi ns = p at *
    dsimp only
    have hany : ((bs.map Int.toNat).any fun x => decide (9999 < x)) = true ↔ ¬ (bs.map fun x => within x 9999).all id = true := by
      rw [List.any_map, List.any_eq_true, List.all_map, List.all_eq_true]
      constructor
      · rintro ⟨x, hx, h⟩ z
        have h' : 9999 < x.toNat := of_decide_eq_true h
        have := within_iff.mp (z x hx)
        omega
      · intro z
        refine Classical.byContradiction fun n => z fun x hx => ?_
        refine within_iff.mpr ⟨hb x hx, ?_⟩
        refine Classical.byContradiction fun n2 => n ⟨x, hx, ?_⟩
        exact decide_eq_true (show 9999 < x.toNat by omega)
    by_cases h2 : blendOk d ns bs = true
    · rw [if_pos h2]
      unfold blendOk at h2
      rw [Bool.and_eq_true, Bool.and_eq_true, Bool.and_eq_true, decide_eq_true_eq, decide_eq_true_eq] at h2
      obtain ⟨d0, dw, hlen, hall⟩ := h2
      obtain ⟨d1, d2⟩ := within_iff.mp dw
      have hbl : bs.length = p.components.length := by omega
      have hdn : d.toNat ≠ 0 := by omega
      have edn : ((d.toNat : Nat) : Int) = d := by omega
      rw [if_neg]
      · have ex : (bs.map Int.toNat).map (fun (v : Nat) => Ks595.Rational.make (v : Int) d.toNat) = toR d.toNat bs := by
          rw [List.map_map]
          refine List.map_congr_left fun x hx => ?_
          have := hb x hx
          show Ks595.Rational.make ((x.toNat : Nat) : Int) d.toNat = _
          rw [show ((x.toNat : Nat) : Int) = x by omega]
        rw [ex, feas_toR hdn hbl, cost_toR hdn hbl, prop_toR hdn hbl, edn, ea, ec, ep, eq, elo, ehi]
        have er := pairs_ratI hdn [wsum bs (pk 1 ns), wsum bs (pk 2 ns)]
        rw [edn] at er
        rw [← er]
        rfl
      · intro z
        rcases z with z | z | z | z
        · rw [List.length_map] at z
          exact z hbl
        · omega
        · omega
        · exact hany.mp z hall
    · rw [if_neg h2, if_pos]
      · rfl
      · refine Classical.byContradiction fun n => h2 ?_
        rw [not_or, not_or, not_or] at n
        obtain ⟨n1, n2, n3, n4⟩ := n
        have n4' : (bs.map fun x => within x 9999).all id = true := Classical.byContradiction fun z => n4 (hany.mpr z)
        rw [List.length_map] at n1
        unfold blendOk
        rw [n4', within_nat hd, decide_eq_true (show d ≠ 0 by omega), decide_eq_true (show d ≤ 99 by omega), decide_eq_true (show (3 : Int) * (bs.length : Int) = (ns.length : Int) by omega)]
        rfl
  · rw [if_neg h1, if_neg h1]
    rfl
theorem join_int {c : Bool} {σ : L2.St} {H : Hp} {Q : VK} (h : Q (.int (if c = true then 1 else 0)) H) : if c = true then tC (.int 1) σ H Q else tC (.int 0) σ H Q := by
  cases c with
  | true => exact iteT h
  | false => exact iteF h
theorem ok_check_blend (T : Txt K mg) : FnOk P w K mg base CX0 4 T.a_check_blend T.d_check_blend ["quantity", "low", "high", "den", "components", "blend"] (sp_check_blend K) := by
  have G_request_within_limits : FnOk P w K mg base CX0 3 T.a_request_within_limits T.d_request_within_limits ["quantity", "low", "high", "components"] (sp_request_within_limits K) := ok_request_within_limits T
  have G_blend_within_limits : FnOk P w K mg base CX0 2 T.a_blend_within_limits T.d_blend_within_limits ["den", "components", "blend"] (sp_blend_within_limits K) := ok_blend_within_limits T
  have G_is_feasible : FnOk P w K mg base CX0 2 T.a_is_feasible T.d_is_feasible ["quantity", "low", "high", "den", "components", "blend"] (sp_is_feasible K) := ok_is_feasible T
  have G_weighted_sum : FnOk P w K mg base CX0 1 T.a_weighted_sum T.d_weighted_sum ["amounts", "weights"] (sp_weighted_sum K) := ok_weighted_sum T
  have G_rational_numbers : FnOk P w K mg base CX0 2 T.a_rational_numbers T.d_rational_numbers ["den", "numbers"] (sp_rational_numbers K) := ok_rational_numbers T
  refine T.F_check_blend.ok sc_check_blend (fun vs H Q E h => ?_) (fun cdv A outer s H vs Q E hr h => ?_)
  · obtain ⟨q, lo, hi, d, c, b, ns, bs, rfl, _⟩ := h
    rfl
  · obtain ⟨q, lo, hi, d, c, b, ns, bs, rfl, hc, hb, hl, hl2, k⟩ := h
    have hu := hu_of hr
    refine ⟨_, (pss_cons (ps_if (pt_not (pt_val (pe_call G_request_within_limits (hr.mono (by decide)) rfl T.g_request_within_limits T.F_request_within_limits.kp T.b_request_within_limits .nil pass0 (pa_cons (pv 0) (pa_cons (pv 1) (pa_cons (pv 2) (pa_cons (pv 4) pa_nil))))))) (pss_one (ps_ret (pe_lst (pa_cons (pe_un un_neg (pe_glob (v := V.int 22) rfl T.c_OUTSIDE_LIMITS ⟨_, rfl⟩)) pa_nil)))) pss_nil)
      (pss_cons (ps_if (pt_not (pt_val (pe_call G_blend_within_limits (hr.mono (by decide)) rfl T.g_blend_within_limits T.F_blend_within_limits.kp T.b_blend_within_limits .nil pass0 (pa_cons (pv 3) (pa_cons (pv 4) (pa_cons (pv 5) pa_nil)))))) (pss_one (ps_ret (pe_lst (pa_cons (pe_un un_neg (pe_glob (v := V.int 22) rfl T.c_OUTSIDE_LIMITS ⟨_, rfl⟩)) pa_nil)))) pss_nil)
      (pss_cons (ps_set (i := 6) sc_check_blend.nd rfl (Or.inl rfl) (pe_ifExp (pt_val (pe_call G_is_feasible (hr.mono (by decide)) rfl T.g_is_feasible T.F_is_feasible.kp T.b_is_feasible .nil pass0 (pa_cons (pv 0) (pa_cons (pv 1) (pa_cons (pv 2) (pa_cons (pv 3) (pa_cons (pv 4) (pa_cons (pv 5) pa_nil)))))))) pe_int pe_int))
      (pss_cons (ps_set (i := 7) sc_check_blend.nd rfl (Or.inl rfl) (pe_call G_weighted_sum (hr.mono (by decide)) rfl T.g_weighted_sum T.F_weighted_sum.kp T.b_weighted_sum .nil pass0 (pa_cons (pv 5) (pa_cons (pe_slice3 (pv 4) (po_some pe_int) po_none (po_some pe_int)) pa_nil))))
      (pss_cons (ps_set (i := 8) sc_check_blend.nd rfl (Or.inl rfl) (pe_call G_weighted_sum (hr.mono (by decide)) rfl T.g_weighted_sum T.F_weighted_sum.kp T.b_weighted_sum .nil pass0 (pa_cons (pv 5) (pa_cons (pe_slice3 (pv 4) (po_some pe_int) po_none (po_some pe_int)) pa_nil))))
      (pss_one (ps_ret (pe_op op_cat (pe_lst (pa_cons (pv 6) pa_nil)) (pe_call G_rational_numbers (hr.mono (by decide)) rfl T.g_rational_numbers T.F_rational_numbers.kp T.b_rational_numbers .nil pass0 (pa_cons (pv 3) (pa_cons (pe_lst (pa_cons (pv 7) (pa_cons (pv 8) pa_nil))) pa_nil))))))))))), ?_⟩
    refine ⟨_, rfl, _, rfl, _, rfl, _, rfl, q, lo, hi, c, ns, rfl, hc, hl, fun H1 s1 => ⟨_, rfl, ?_⟩⟩
    cases h1 : reqOk q lo hi ns with
    | false =>
      refine iteT ?_
      refine ⟨_, rfl, (by show 1 ≤ sizeLine; decide), fun r nr => ?_⟩
      refine k _ r ?_
      unfold chkM
      rw [h1, if_neg Bool.false_ne_true, upd_same]
      rfl
    | true =>
      refine iteF ?_
      refine ⟨_, rfl, _, rfl, _, rfl, d, c, b, ns, bs, rfl, Same.seq s1 hc, Same.seq s1 hb, hl2, fun H2 s2 => ⟨_, rfl, ?_⟩⟩
      cases h2 : blendOk d ns bs with
      | false =>
        refine iteT ?_
        refine ⟨_, rfl, (by show 1 ≤ sizeLine; decide), fun r nr => ?_⟩
        refine k _ r ?_
        unfold chkM
        rw [h1, h2, if_pos rfl, if_neg Bool.false_ne_true, upd_same]
        rfl
      | true =>
        refine iteF ?_
        obtain ⟨⟨q0, q1⟩, ⟨l0, l1⟩, ⟨i0, i1⟩, li, hcok⟩ := reqOk_parts h1
        have hb2 := h2
        unfold blendOk at hb2
        rw [Bool.and_eq_true, Bool.and_eq_true, Bool.and_eq_true, decide_eq_true_eq, decide_eq_true_eq] at hb2
        obtain ⟨d0, dw, hlen, hall⟩ := hb2
        obtain ⟨d1, d2⟩ := within_iff.mp dw
        have hbs := all_within hall
        have bbs : ∀ x ∈ bs, Bd x := fun x hx => bd_of (by have := hbs x hx; omega) (by have := hbs x hx; omega)
        have hns := comps_bd hcok
        have s12 : Same H H2 := Same.trans s1 s2
        refine ⟨_, rfl, _, rfl, _, rfl, _, rfl, _, rfl, _, rfl, q, lo, hi, d, c, b, ns, bs, rfl, bd_of (by omega) (by omega), bd_of (by omega) (by omega), Same.seq s12 hc, Same.seq s12 hb, hl2, bbs, fun H3 s3 => ⟨_, rfl, ?_⟩⟩
        have s13 : Same H H3 := Same.trans s12 s3
        have go : ∀ f : Int, f = (if feas q lo hi d (pk 0 ns) (pk 2 ns) bs = true then 1 else 0) →
            ∀ H' r, H' r = some (.lst ((f :: ratI d [wsum bs (pk 1 ns), wsum bs (pk 2 ns)]).map V.int)) → Q (.ref r) H' := fun f hf H' r hr' => by
          refine k H' r ?_
          rw [hr', hf]
          unfold chkM
          rw [if_pos h1, if_pos h2]
        refine join_int ?_
        obtain ⟨f, hf⟩ : ∃ f : Int, f = (if feas q lo hi d (pk 0 ns) (pk 2 ns) bs = true then 1 else 0) := ⟨_, rfl⟩
        rw [← hf]
        -- cost
        refine ⟨_, rfl, _, rfl, 1, rfl, 3, rfl, c, _, rfl, Same.seq s13 hc, by decide, fun p1 np1 => ?_⟩
        rw [pickV_map, show pickNums ns (some 1) none (some 3) = pk 1 ns from rfl]
        have t1 := same_upd (o := .lst ((pk 1 ns).map V.int)) np1
        refine ⟨b, p1, bs, pk 1 ns, rfl, Same.seq (Same.trans s13 t1) hb, .inl (.inl upd_same), hl2, bbs, fun H4 s4 => ?_⟩
        have s14 : Same H H4 := Same.trans s13 (Same.trans t1 s4)
        -- property_total
        refine ⟨_, rfl, _, rfl, 2, rfl, 3, rfl, c, _, rfl, Same.seq s14 hc, by decide, fun p2 np2 => ?_⟩
        rw [pickV_map, show pickNums ns (some 2) none (some 3) = pk 2 ns from rfl]
        have t2 := same_upd (o := .lst ((pk 2 ns).map V.int)) np2
        refine ⟨b, p2, bs, pk 2 ns, rfl, Same.seq (Same.trans s14 t2) hb, .inl (.inl upd_same), hl2, bbs, fun H5 s5 => ?_⟩
        -- [feasible] + rational_numbers(den, [cost, property_total])
        refine ⟨_, rfl, (by show 1 ≤ sizeLine; decide), fun l1 nl1 => ?_⟩
        refine ⟨_, rfl, _, rfl, _, rfl, (by show 2 ≤ sizeLine; decide), fun l2 nl2 => ?_⟩
        have pos : ∀ n ∈ [wsum bs (pk 1 ns), wsum bs (pk 2 ns)], 0 ≤ n := fun n hn => by
          have w1 : 0 ≤ wsum bs (pk 1 ns) := wsum_nonneg (fun x hx => (hbs x hx).1) fun x hx => (hns x (pickNums_mem hx)).1
          have w2 : 0 ≤ wsum bs (pk 2 ns) := wsum_nonneg (fun x hx => (hbs x hx).1) fun x hx => (hns x (pickNums_mem hx)).1
          simp only [List.mem_cons, List.not_mem_nil, or_false] at hn
          rcases hn with rfl | rfl <;> assumption
        refine ⟨d, l2, [wsum bs (pk 1 ns), wsum bs (pk 2 ns)], rfl, by omega, by omega, .inl (.inl upd_same), by simp, pos, fun H6 r s6 nr hr6 => ?_⟩
        refine ⟨l1, r, _, _, rfl, rfl, s6 _ _ (same_upd nl2 _ _ upd_same), hr6, ?_, fun r2 nr2 => ?_⟩
        · rw [List.length_map, ratI_len]
          exact line_le (by simp)
        · refine go f hf _ r2 ?_
          rw [upd_same]
          rfl
end
theorem all_mk {P : Program} {w : World} {K : PySem.W.Frag} {h : Heap} {mg : Str → Option Value} {fa : Addr} (X : K.In h) (G : h.Ns mainGlobals mg) (hfa : mg "check_blend" = some (.ref fa))
    {f0 : Addr} {od0 an0 : Option Addr} {sl0 : Array (Option Value)} {oc0 kV0 dc0 pm0 cd0 ct0 : Value}
    (a0 : PySem.W.nsIn K mainGlobals "check_blend" = some (some (.ref f0))) (l0 : K.lookup f0 = some ⟨oc0, od0, .func (PySem.W.fnOf "check_blend" "check_blend" (defArgs s_check_blend) (defBody s_check_blend) (defScope s_check_blend) .none kV0 dc0 pm0 an0 cd0 ct0), sl0⟩) (c0 : PySem.W.codeIn K cd0 "check_blend" = true) (k0 : PySem.W.keepIn K (.ref f0) = true)
    {f1 : Addr} {od1 an1 : Option Addr} {sl1 : Array (Option Value)} {oc1 kV1 dc1 pm1 cd1 ct1 : Value}
    (a1 : PySem.W.nsIn K mainGlobals "request_within_limits" = some (some (.ref f1))) (l1 : K.lookup f1 = some ⟨oc1, od1, .func (PySem.W.fnOf "request_within_limits" "request_within_limits" (defArgs s_request_within_limits) (defBody s_request_within_limits) (defScope s_request_within_limits) .none kV1 dc1 pm1 an1 cd1 ct1), sl1⟩) (c1 : PySem.W.codeIn K cd1 "request_within_limits" = true) (k1 : PySem.W.keepIn K (.ref f1) = true)
    {f2 : Addr} {od2 an2 : Option Addr} {sl2 : Array (Option Value)} {oc2 kV2 dc2 pm2 cd2 ct2 : Value}
    (a2 : PySem.W.nsIn K mainGlobals "bounds_within_limits" = some (some (.ref f2))) (l2 : K.lookup f2 = some ⟨oc2, od2, .func (PySem.W.fnOf "bounds_within_limits" "bounds_within_limits" (defArgs s_bounds_within_limits) (defBody s_bounds_within_limits) (defScope s_bounds_within_limits) .none kV2 dc2 pm2 an2 cd2 ct2), sl2⟩) (c2 : PySem.W.codeIn K cd2 "bounds_within_limits" = true) (k2 : PySem.W.keepIn K (.ref f2) = true)
    {f3 : Addr} {od3 an3 : Option Addr} {sl3 : Array (Option Value)} {oc3 kV3 dc3 pm3 cd3 ct3 : Value}
    (a3 : PySem.W.nsIn K mainGlobals "components_within_limits" = some (some (.ref f3))) (l3 : K.lookup f3 = some ⟨oc3, od3, .func (PySem.W.fnOf "components_within_limits" "components_within_limits" (defArgs s_components_within_limits) (defBody s_components_within_limits) (defScope s_components_within_limits) .none kV3 dc3 pm3 an3 cd3 ct3), sl3⟩) (c3 : PySem.W.codeIn K cd3 "components_within_limits" = true) (k3 : PySem.W.keepIn K (.ref f3) = true)
    {f4 : Addr} {od4 an4 : Option Addr} {sl4 : Array (Option Value)} {oc4 kV4 dc4 pm4 cd4 ct4 : Value}
    (a4 : PySem.W.nsIn K mainGlobals "blend_within_limits" = some (some (.ref f4))) (l4 : K.lookup f4 = some ⟨oc4, od4, .func (PySem.W.fnOf "blend_within_limits" "blend_within_limits" (defArgs s_blend_within_limits) (defBody s_blend_within_limits) (defScope s_blend_within_limits) .none kV4 dc4 pm4 an4 cd4 ct4), sl4⟩) (c4 : PySem.W.codeIn K cd4 "blend_within_limits" = true) (k4 : PySem.W.keepIn K (.ref f4) = true)
    {f5 : Addr} {od5 an5 : Option Addr} {sl5 : Array (Option Value)} {oc5 kV5 dc5 pm5 cd5 ct5 : Value}
    (a5 : PySem.W.nsIn K mainGlobals "within" = some (some (.ref f5))) (l5 : K.lookup f5 = some ⟨oc5, od5, .func (PySem.W.fnOf "within" "within" (defArgs s_within) (defBody s_within) (defScope s_within) .none kV5 dc5 pm5 an5 cd5 ct5), sl5⟩) (c5 : PySem.W.codeIn K cd5 "within" = true) (k5 : PySem.W.keepIn K (.ref f5) = true)
    {f6 : Addr} {od6 an6 : Option Addr} {sl6 : Array (Option Value)} {oc6 kV6 dc6 pm6 cd6 ct6 : Value}
    (a6 : PySem.W.nsIn K mainGlobals "is_feasible" = some (some (.ref f6))) (l6 : K.lookup f6 = some ⟨oc6, od6, .func (PySem.W.fnOf "is_feasible" "is_feasible" (defArgs s_is_feasible) (defBody s_is_feasible) (defScope s_is_feasible) .none kV6 dc6 pm6 an6 cd6 ct6), sl6⟩) (c6 : PySem.W.codeIn K cd6 "is_feasible" = true) (k6 : PySem.W.keepIn K (.ref f6) = true)
    {f7 : Addr} {od7 an7 : Option Addr} {sl7 : Array (Option Value)} {oc7 kV7 dc7 pm7 cd7 ct7 : Value}
    (a7 : PySem.W.nsIn K mainGlobals "weighted_sum" = some (some (.ref f7))) (l7 : K.lookup f7 = some ⟨oc7, od7, .func (PySem.W.fnOf "weighted_sum" "weighted_sum" (defArgs s_weighted_sum) (defBody s_weighted_sum) (defScope s_weighted_sum) .none kV7 dc7 pm7 an7 cd7 ct7), sl7⟩) (c7 : PySem.W.codeIn K cd7 "weighted_sum" = true) (k7 : PySem.W.keepIn K (.ref f7) = true)
    {f8 : Addr} {od8 an8 : Option Addr} {sl8 : Array (Option Value)} {oc8 kV8 dc8 pm8 cd8 ct8 : Value}
    (a8 : PySem.W.nsIn K mainGlobals "rational_numbers" = some (some (.ref f8))) (l8 : K.lookup f8 = some ⟨oc8, od8, .func (PySem.W.fnOf "rational_numbers" "rational_numbers" (defArgs s_rational_numbers) (defBody s_rational_numbers) (defScope s_rational_numbers) .none kV8 dc8 pm8 an8 cd8 ct8), sl8⟩) (c8 : PySem.W.codeIn K cd8 "rational_numbers" = true) (k8 : PySem.W.keepIn K (.ref f8) = true)
    {f9 : Addr} {od9 an9 : Option Addr} {sl9 : Array (Option Value)} {oc9 kV9 dc9 pm9 cd9 ct9 : Value}
    (a9 : PySem.W.nsIn K mainGlobals "common_divisor" = some (some (.ref f9))) (l9 : K.lookup f9 = some ⟨oc9, od9, .func (PySem.W.fnOf "common_divisor" "common_divisor" (defArgs s_common_divisor) (defBody s_common_divisor) (defScope s_common_divisor) .none kV9 dc9 pm9 an9 cd9 ct9), sl9⟩) (c9 : PySem.W.codeIn K cd9 "common_divisor" = true) (k9 : PySem.W.keepIn K (.ref f9) = true)
    (z_all : PySem.W.nsIn K mainGlobals "all" = some none)
    (z_enumerate : PySem.W.nsIn K mainGlobals "enumerate" = some none)
    (z_len : PySem.W.nsIn K mainGlobals "len" = some none)
    (z_sum : PySem.W.nsIn K mainGlobals "sum" = some none)
    (z_zip : PySem.W.nsIn K mainGlobals "zip" = some none)
    {t_MOST_BOUND : Tok} (c_MOST_BOUND : PySem.W.nsIn K mainGlobals "MOST_BOUND" = some (some (.int 99 t_MOST_BOUND)))
    {t_MOST_COMPONENTS : Tok} (c_MOST_COMPONENTS : PySem.W.nsIn K mainGlobals "MOST_COMPONENTS" = some (some (.int 4 t_MOST_COMPONENTS)))
    {t_MOST_DEN : Tok} (c_MOST_DEN : PySem.W.nsIn K mainGlobals "MOST_DEN" = some (some (.int 99 t_MOST_DEN)))
    {t_MOST_IN_BLEND : Tok} (c_MOST_IN_BLEND : PySem.W.nsIn K mainGlobals "MOST_IN_BLEND" = some (some (.int 9999 t_MOST_IN_BLEND)))
    {q_MOST_OF_COMPONENT : Addr} {t_MOST_OF_COMPONENT0 t_MOST_OF_COMPONENT1 t_MOST_OF_COMPONENT2 : Tok} {o_MOST_OF_COMPONENT : Option Addr} {y_MOST_OF_COMPONENT : Nat} {w_MOST_OF_COMPONENT : Array (Option Value)}
    (c_MOST_OF_COMPONENT : PySem.W.nsIn K mainGlobals "MOST_OF_COMPONENT" = some (some (.ref q_MOST_OF_COMPONENT))) (l_MOST_OF_COMPONENT : K.lookup q_MOST_OF_COMPONENT = some ⟨.type "tuple", o_MOST_OF_COMPONENT, .seq #[.int 50 t_MOST_OF_COMPONENT0, .int 99 t_MOST_OF_COMPONENT1, .int 99 t_MOST_OF_COMPONENT2] y_MOST_OF_COMPONENT, w_MOST_OF_COMPONENT⟩)
    {t_MOST_QUANTITY : Tok} (c_MOST_QUANTITY : PySem.W.nsIn K mainGlobals "MOST_QUANTITY" = some (some (.int 99 t_MOST_QUANTITY)))
    {t_OUTSIDE_LIMITS : Tok} (c_OUTSIDE_LIMITS : PySem.W.nsIn K mainGlobals "OUTSIDE_LIMITS" = some (some (.int 22 t_OUTSIDE_LIMITS)))
    : ∃ fd : FuncData, (∀ (s : Shared) (us : List Value), us.length = (["quantity", "low", "high", "den", "components", "blend"] : List Str).length → BindsTo s fd ⟨us, []⟩ ((["quantity", "low", "high", "den", "components", "blend"] : List Str).zip us)) ∧ ∀ base : Heap, K.In base → base.Ns mainGlobals mg → FnOk P w K mg base CX0 4 fa fd ["quantity", "low", "high", "den", "components", "blend"] (sp_check_blend K) := by
  have e := hfa.symm.trans (PySem.W.mg_of X G a0)
  cases e
  have F0 := fun_mk (st := s_check_blend) l0 c0 k0
  have b0 := F0.binds (ps := ["quantity", "low", "high", "den", "components", "blend"]) fun _ _ _ _ _ _ us hl => match us, hl with | [_, _, _, _, _, _], _ => rfl
  have F1 := fun_mk (st := s_request_within_limits) l1 c1 k1
  have b1 := F1.binds (ps := ["quantity", "low", "high", "components"]) fun _ _ _ _ _ _ us hl => match us, hl with | [_, _, _, _], _ => rfl
  have F2 := fun_mk (st := s_bounds_within_limits) l2 c2 k2
  have b2 := F2.binds (ps := ["low", "high"]) fun _ _ _ _ _ _ us hl => match us, hl with | [_, _], _ => rfl
  have F3 := fun_mk (st := s_components_within_limits) l3 c3 k3
  have b3 := F3.binds (ps := ["components"]) fun _ _ _ _ _ _ us hl => match us, hl with | [_], _ => rfl
  have F4 := fun_mk (st := s_blend_within_limits) l4 c4 k4
  have b4 := F4.binds (ps := ["den", "components", "blend"]) fun _ _ _ _ _ _ us hl => match us, hl with | [_, _, _], _ => rfl
  have F5 := fun_mk (st := s_within) l5 c5 k5
  have b5 := F5.binds (ps := ["number", "most"]) fun _ _ _ _ _ _ us hl => match us, hl with | [_, _], _ => rfl
  have F6 := fun_mk (st := s_is_feasible) l6 c6 k6
  have b6 := F6.binds (ps := ["quantity", "low", "high", "den", "components", "blend"]) fun _ _ _ _ _ _ us hl => match us, hl with | [_, _, _, _, _, _], _ => rfl
  have F7 := fun_mk (st := s_weighted_sum) l7 c7 k7
  have b7 := F7.binds (ps := ["amounts", "weights"]) fun _ _ _ _ _ _ us hl => match us, hl with | [_, _], _ => rfl
  have F8 := fun_mk (st := s_rational_numbers) l8 c8 k8
  have b8 := F8.binds (ps := ["den", "numbers"]) fun _ _ _ _ _ _ us hl => match us, hl with | [_, _], _ => rfl
  have F9 := fun_mk (st := s_common_divisor) l9 c9 k9
  have b9 := F9.binds (ps := ["first", "second"]) fun _ _ _ _ _ _ us hl => match us, hl with | [_, _], _ => rfl
  exact ⟨_, fun s us hu => match us, hu with | [_, _, _, _, _, _], _ => .of_eq rfl, fun base _ _ => ok_check_blend (⟨_, _, F0, b0, PySem.W.mg_of X G a0, _, _, F1, b1, PySem.W.mg_of X G a1, _, _, F2, b2, PySem.W.mg_of X G a2, _, _, F3, b3, PySem.W.mg_of X G a3, _, _, F4, b4, PySem.W.mg_of X G a4, _, _, F5, b5, PySem.W.mg_of X G a5, _, _, F6, b6, PySem.W.mg_of X G a6, _, _, F7, b7, PySem.W.mg_of X G a7, _, _, F8, b8, PySem.W.mg_of X G a8, _, _, F9, b9, PySem.W.mg_of X G a9, PySem.W.mg_none_of X G z_all, PySem.W.mg_none_of X G z_enumerate, PySem.W.mg_none_of X G z_len, PySem.W.mg_none_of X G z_sum, PySem.W.mg_none_of X G z_zip, _, PySem.W.mg_of X G c_MOST_BOUND, _, PySem.W.mg_of X G c_MOST_COMPONENTS, _, PySem.W.mg_of X G c_MOST_DEN, _, PySem.W.mg_of X G c_MOST_IN_BLEND, _, PySem.W.mg_of X G c_MOST_OF_COMPONENT, fun H => .inr ⟨_, _, _, l_MOST_OF_COMPONENT, rfl, rfl, (by show 3 ≤ sizeLine; decide), (.cons ⟨_, rfl⟩ (.cons ⟨_, rfl⟩ (.cons ⟨_, rfl⟩ .nil)))⟩, _, PySem.W.mg_of X G c_MOST_QUANTITY, _, PySem.W.mg_of X G c_OUTSIDE_LIMITS⟩ : Txt K mg)⟩
theorem int_dw {K : PySem.W.Frag} {H : Hp} {v : V} {n : Int} (h : Dw K H v (PySem.W.WData.int n)) : v = .int n := by
  cases h
  rfl
theorem list_dw {K : PySem.W.Frag} {H : Hp} {v : V} {ns : List Int} (h : Dw K H v (PySem.W.WData.list (ns.map PySem.W.WData.int))) : ∃ a, v = .ref a ∧ LI K H a ns := by
  cases h with
  | lst hs ha =>
    have e := L2.ints_dw ns _ ha
    subst e
    exact ⟨_, rfl, hs⟩
end MB
open PySem PySem.W PyProof.Rows
set_option maxRecDepth 100000 in
set_option maxHeartbeats 8000000 in
theorem PySem.Challenge.cw_meanblend_s02_check_blend_holds : PySem.Challenge.rw_meanblend_s02_check_blend.Holds := by
  w_on; k_headS; (case hw => exact ⟨[.int 0, .int 0, .int 0, .int 1, .list [], .list []], by decide +kernel, by decide +kernel⟩)
  k_fillS
  refine L2.walk_specK (r := PySem.Challenge.rw_meanblend_s02_check_blend) (k := 4) (CX := L2.CX0) (ps := ["quantity", "low", "high", "den", "components", "blend"]) (sp := MB.sp_check_blend) (by decide +kernel) rfl rfl ⟨rfl, by decide, by decide⟩ (fun w h Y => PySem.W.kIn_of Y) ?F ?S (fun _ _ _ _ z => z)
  case F =>
    intro w mg fa h Y KX G hmg
    refine' MB.all_mk KX G hmg ?a0 ?l0 ?c0 ?k0 ?a1 ?l1 ?c1 ?k1 ?a2 ?l2 ?c2 ?k2 ?a3 ?l3 ?c3 ?k3 ?a4 ?l4 ?c4 ?k4 ?a5 ?l5 ?c5 ?k5 ?a6 ?l6 ?c6 ?k6 ?a7 ?l7 ?c7 ?k7 ?a8 ?l8 ?c8 ?k8 ?a9 ?l9 ?c9 ?k9 ?z_all ?z_enumerate ?z_len ?z_sum ?z_zip ?c_MOST_BOUND ?c_MOST_COMPONENTS ?c_MOST_DEN ?c_MOST_IN_BLEND ?c_MOST_OF_COMPONENT ?l_MOST_OF_COMPONENT ?c_MOST_QUANTITY ?c_OUTSIDE_LIMITS
    (case a0 => k_is)
    (case l0 => k_is)
    (case c0 => k_is)
    (case k0 => k_is)
    (case a1 => k_is)
    (case l1 => k_is)
    (case c1 => k_is)
    (case k1 => k_is)
    (case a2 => k_is)
    (case l2 => k_is)
    (case c2 => k_is)
    (case k2 => k_is)
    (case a3 => k_is)
    (case l3 => k_is)
    (case c3 => k_is)
    (case k3 => k_is)
    (case a4 => k_is)
    (case l4 => k_is)
    (case c4 => k_is)
    (case k4 => k_is)
    (case a5 => k_is)
    (case l5 => k_is)
    (case c5 => k_is)
    (case k5 => k_is)
    (case a6 => k_is)
    (case l6 => k_is)
    (case c6 => k_is)
    (case k6 => k_is)
    (case a7 => k_is)
    (case l7 => k_is)
    (case c7 => k_is)
    (case k7 => k_is)
    (case a8 => k_is)
    (case l8 => k_is)
    (case c8 => k_is)
    (case k8 => k_is)
    (case a9 => k_is)
    (case l9 => k_is)
    (case c9 => k_is)
    (case k9 => k_is)
    (case z_all => k_is)
    (case z_enumerate => k_is)
    (case z_len => k_is)
    (case z_sum => k_is)
    (case z_zip => k_is)
    (case c_MOST_BOUND => k_is)
    (case c_MOST_COMPONENTS => k_is)
    (case c_MOST_DEN => k_is)
    (case c_MOST_IN_BLEND => k_is)
    (case c_MOST_OF_COMPONENT => k_is)
    (case l_MOST_OF_COMPONENT => k_is)
    (case c_MOST_QUANTITY => k_is)
    (case c_OUTSIDE_LIMITS => k_is)
  case S =>
    intro K H xs a hO hwi hask hx
    obtain ⟨q, lo, hi, d, ns, bs, u⟩ := a
    cases hx with
    | cons h1 hx =>
      cases hx with
      | cons h2 hx =>
        cases hx with
        | cons h3 hx =>
          cases hx with
          | cons h4 hx =>
            cases hx with
            | cons h5 hx =>
              cases hx with
              | cons h6 hx =>
                cases hx
                have e1 := MB.int_dw h1
                have e2 := MB.int_dw h2
                have e3 := MB.int_dw h3
                have e4 := MB.int_dw h4
                obtain ⟨a5, e5, l5⟩ := MB.list_dw (ns := ns) h5
                obtain ⟨a6, e6, l6⟩ := MB.list_dw (ns := bs) h6
                subst e1 e2 e3 e4 e5 e6
                have hw : (Codec.inInt 0 4294967295 q && (Codec.inInt 0 4294967295 lo && (Codec.inInt 0 4294967295 hi && (Codec.inInt 0 4294967295 d && ((Codec.inLen 0 15 ns && ns.all (Codec.inInt 0 4294967295)) && ((Codec.inLen 0 6 bs && bs.all (Codec.inInt 0 4294967295)) && true)))))) = true := hwi
                simp only [Bool.and_eq_true] at hw
                obtain ⟨w1, w2, w3, w4, ⟨w5, w6⟩, ⟨w7, w8⟩, _⟩ := hw
                have n5 : ns.length ≤ 15 := (Codec.inNat_iff.mp w5).2
                have n7 : bs.length ≤ 6 := (Codec.inNat_iff.mp w7).2
                have p6 : ∀ x ∈ ns, 0 ≤ x := fun x hx => (Codec.inInt_iff.mp (List.all_eq_true.mp w6 x hx)).1
                have p8 : ∀ x ∈ bs, 0 ≤ x := fun x hx => (Codec.inInt_iff.mp (List.all_eq_true.mp w8 x hx)).1
                refine ⟨q, lo, hi, d, a5, a6, ns, bs, rfl, l5, l6, by omega, by omega, fun H' r hr => ?_⟩
                rw [← MB.chk_spec (Codec.inInt_iff.mp w1).1 (Codec.inInt_iff.mp w2).1 (Codec.inInt_iff.mp w3).1 (Codec.inInt_iff.mp w4).1 p6 p8] at hr
                exact .lst (L2.SqL.of hr) (L2.dw_ints _)
