import PyProof.Rows.All
import Wide.All
import OpenK.AllK
import Wide.FinOn
import PyProof.EqAt
import PyProof.EqKinds
import PyProof.TupleCall
import Open.SpecLaws
import KE.OsGo
import PySem.Challenge.RW_wholepolygons_s01_answers
import HandS.ForSpec
import HandS.Comp
import HandS.Iter
import HandS.Rev
import HandS.TupSets
import HandS.TryMany
import HandS.Small
import KE.KDictZip
import KE.KItemsList
import HandS.SortOrd
import HandS.SortRule
import HandS.Walk
import HandS.Zip
import KE.DatumOrd
set_option linter.all false
set_option maxHeartbeats 1000000
namespace Hl
open Sq68
/-- the turn at b from a to c -/
def ori (a b c : Point) : Int := (b.1 - a.1) * (c.2 - a.2) - (b.2 - a.2) * (c.1 - a.1)
/-- a measure along a fixed direction -/
def lam (f p : Point) : Int := f.1 * p.1 + f.2 * p.2
theorem id_b (f a b c d : Point) : ori a b d * (lam f c - lam f b) = ori b c d * (lam f b - lam f a) + ori a b c * (lam f d - lam f b) := by
  unfold ori lam; grind
theorem id_c (f a b c d : Point) : ori a c d * (lam f c - lam f b) = ori b c d * (lam f c - lam f a) + ori a b c * (lam f d - lam f c) := by
  unfold ori lam; grind
theorem id_a (f a b c d : Point) : ori a b d * (lam f c - lam f a) = ori a c d * (lam f b - lam f a) + ori a b c * (lam f d - lam f a) := by
  unfold ori lam; grind
theorem id_d (f a b c d : Point) : ori a c d * (lam f d - lam f b) = ori b c d * (lam f d - lam f a) + ori a b d * (lam f d - lam f c) := by
  unfold ori lam; grind
theorem id_p (f a b a' b' p : Point) : ori a b p * (lam f b' - lam f a') = ori a b a' * (lam f b' - lam f p) + ori a b b' * (lam f p - lam f a') - ori a' p b' * (lam f b - lam f a) := by
  unfold ori lam; grind
theorem ori_cyc (a b c : Point) : ori b c a = ori a b c := by unfold ori; grind
theorem ori_swap (a b c : Point) : ori b a c = - ori a b c := by unfold ori; grind
theorem pos_of {x y : Int} (hy : 0 < y) (h : 0 < x * y) : 0 < x := Int.pos_of_mul_pos_left h hy
theorem nonpos_of {x y : Int} (hy : 0 < y) (h : x * y ≤ 0) : x ≤ 0 := by
  rcases Int.lt_or_le 0 x with h1 | h1
  · have := Int.mul_pos h1 hy; omega
  · exact h1
theorem nonneg_of {x y : Int} (hy : 0 < y) (h : 0 ≤ x * y) : 0 ≤ x := by
  rcases Int.lt_or_le x 0 with h1 | h1
  · have := Int.mul_neg_of_neg_of_pos h1 hy; omega
  · exact h1
theorem mul_nn {x y : Int} (hx : 0 ≤ x) (hy : 0 ≤ y) : 0 ≤ x * y := Int.mul_nonneg hx hy
theorem mul_np {x y : Int} (hx : x ≤ 0) (hy : 0 ≤ y) : x * y ≤ 0 := Int.mul_nonpos_of_nonpos_of_nonneg hx hy
section
variable {f a b c d p q : Point}
/-- two left turns one behind the other -/
theorem s_abd (h1 : lam f a < lam f b) (h2 : lam f b < lam f c) (h3 : lam f c < lam f d) (u : 0 < ori a b c) (v : 0 < ori b c d) : 0 < ori a b d := by
  have e := id_b f a b c d
  have x1 := Int.mul_pos v (show 0 < lam f b - lam f a by omega)
  have x2 := Int.mul_pos u (show 0 < lam f d - lam f b by omega)
  exact pos_of (show 0 < lam f c - lam f b by omega) (by omega)
theorem s_acd (h1 : lam f a < lam f b) (h2 : lam f b < lam f c) (h3 : lam f c < lam f d) (u : 0 < ori a b c) (v : 0 < ori b c d) : 0 < ori a c d := by
  have e := id_c f a b c d
  have x1 := Int.mul_pos v (show 0 < lam f c - lam f a by omega)
  have x2 := Int.mul_pos u (show 0 < lam f d - lam f c by omega)
  exact pos_of (show 0 < lam f c - lam f b by omega) (by omega)
/-- b over a q, p over a b: p over a q -/
theorem s_apq (h1 : lam f a < lam f p) (h2 : lam f p < lam f b) (h3 : lam f b < lam f q) (u : ori a p b ≤ 0) (v : ori a b q ≤ 0) : ori a p q ≤ 0 := by
  have e := id_a f a p b q
  have x1 := mul_np v (show 0 ≤ lam f p - lam f a by omega)
  have x2 := mul_np u (show 0 ≤ lam f q - lam f a by omega)
  exact nonpos_of (show 0 < lam f b - lam f a by omega) (by omega)
/-- b over a q, p over b q: p over a q -/
theorem s_apq2 (h1 : lam f a < lam f b) (h2 : lam f b < lam f p) (h3 : lam f p < lam f q) (u : ori b p q ≤ 0) (v : ori a b q ≤ 0) : ori a p q ≤ 0 := by
  have e := id_d f a b p q
  have x1 := mul_np u (show 0 ≤ lam f q - lam f a by omega)
  have x2 := mul_np v (show 0 ≤ lam f q - lam f p by omega)
  exact nonpos_of (show 0 < lam f q - lam f b by omega) (by omega)
end
/-! ### the stack, top first -/
def pops (q : Point) : List Point → List Point
  | b :: a :: s => if ori a b q ≤ 0 then pops q (a :: s) else b :: a :: s
  | s => s
def stack (l s : List Point) : List Point := l.foldl (fun s q => q :: pops q s) s
def way (l : List Point) : List Point := (stack l []).reverse
def hull (l : List Point) : List Point := (way l).dropLast ++ (way l.reverse).dropLast
def Desc (f : Point) (s : List Point) : Prop := s.Pairwise fun x y => lam f y < lam f x
def Asc (f : Point) (s : List Point) : Prop := s.Pairwise fun x y => lam f x < lam f y
/-- every two edges of the stack turn left -/
def Cvx (s : List Point) : Prop := ∀ u c b a v, s = u ++ c :: b :: a :: v → 0 < ori a b c
/-- p is one of the stack's, or over one of its edges -/
def Cov (f : Point) (s : List Point) (p : Point) : Prop := p ∈ s ∨ ∃ u b a v, s = u ++ b :: a :: v ∧ lam f a < lam f p ∧ lam f p < lam f b ∧ ori a p b ≤ 0
theorem Cvx.tail {x : Point} {s : List Point} (h : Cvx (x :: s)) : Cvx s := fun u c b a v e => h (x :: u) c b a v (by rw [e]; rfl)
theorem Cov.cons {f x p : Point} {s : List Point} (h : Cov f s p) : Cov f (x :: s) p := by
  rcases h with h | ⟨u, b, a, v, e, h⟩
  · exact .inl (List.mem_cons_of_mem _ h)
  · exact .inr ⟨x :: u, b, a, v, by rw [e]; rfl, h⟩
theorem cov_cons {f x p : Point} {s : List Point} (h : Cov f (x :: s) p) : p = x ∨ (∃ a v, s = a :: v ∧ lam f a < lam f p ∧ lam f p < lam f x ∧ ori a p x ≤ 0) ∨ Cov f s p := by
  rcases h with h | ⟨u, b, a, v, e, h⟩
  · rcases List.mem_cons.1 h with h | h
    · exact .inl h
    · exact .inr (.inr (.inl h))
  · cases u with
    | nil =>
      simp only [List.nil_append, List.cons.injEq] at e
      obtain ⟨rfl, rfl⟩ := e
      exact .inr (.inl ⟨a, v, rfl, h⟩)
    | cons y u =>
      simp only [List.cons_append, List.cons.injEq] at e
      obtain ⟨rfl, rfl⟩ := e
      exact .inr (.inr (.inr ⟨u, b, a, v, rfl, h⟩))
theorem cov_pop {f q b a p : Point} {s : List Point} (D : Desc f (q :: b :: a :: s)) (t : ori a b q ≤ 0) (h : Cov f (q :: b :: a :: s) p) : Cov f (q :: a :: s) p := by
  have dqb : lam f b < lam f q := (List.pairwise_cons.1 D).1 b (by simp)
  have dba : lam f a < lam f b := (List.pairwise_cons.1 (List.pairwise_cons.1 D).2).1 a (by simp)
  rcases cov_cons h with rfl | ⟨a', v, e, h1, h2, h3⟩ | h
  · exact .inl (by simp)
  · simp only [List.cons.injEq] at e
    obtain ⟨rfl, rfl⟩ := e
    exact .inr ⟨[], q, a, s, rfl, by omega, h2, s_apq2 dba h1 h2 h3 t⟩
  · rcases cov_cons h with rfl | ⟨a', v, e, h1, h2, h3⟩ | h
    · exact .inr ⟨[], q, a, s, rfl, dba, dqb, t⟩
    · simp only [List.cons.injEq] at e
      obtain ⟨rfl, rfl⟩ := e
      exact .inr ⟨[], q, a, s, rfl, h1, by omega, s_apq h1 h2 dqb h3 t⟩
    · exact h.cons
theorem desc_pop {f q b : Point} {s : List Point} (D : Desc f (q :: b :: s)) : Desc f (q :: s) := by
  have h := List.pairwise_cons.1 D
  exact List.pairwise_cons.2 ⟨fun x hx => h.1 x (List.mem_cons_of_mem _ hx), (List.pairwise_cons.1 h.2).2⟩
/-- what putting one more onto the stack keeps -/
theorem pops_ok (f q : Point) : ∀ (s : List Point), s ≠ [] → Desc f (q :: s) → Cvx s →
    Desc f (q :: pops q s) ∧ Cvx (q :: pops q s) ∧ pops q s ≠ [] ∧ (pops q s).getLast? = s.getLast? ∧ (∀ x ∈ pops q s, x ∈ s) ∧ ∀ p, Cov f (q :: s) p → Cov f (q :: pops q s) p
  | [], h, _, _ => absurd rfl h
  | [b], _, D, _ => by
    refine ⟨D, ?_, by simp [pops], rfl, fun x h => h, fun p h => h⟩
    intro u c b' a v e
    have := congrArg List.length e
    simp [pops] at this
    omega
  | b :: a :: s, _, D, C => by
    unfold pops
    by_cases t : ori a b q ≤ 0
    · rw [if_pos t]
      obtain ⟨h1, h2, h3, h4, h5, h6⟩ := pops_ok f q (a :: s) (by simp) (desc_pop D) C.tail
      refine ⟨h1, h2, h3, by rw [h4]; simp, fun x hx => List.mem_cons_of_mem _ (h5 x hx), fun p hp => h6 p (cov_pop D t hp)⟩
    · rw [if_neg t]
      refine ⟨D, ?_, by simp, rfl, fun x h => h, fun p h => h⟩
      intro u c b' a' v e
      cases u with
      | nil =>
        simp only [List.nil_append, List.cons.injEq] at e
        obtain ⟨rfl, rfl, rfl, rfl⟩ := e
        omega
      | cons y u =>
        simp only [List.cons_append, List.cons.injEq] at e
        exact C u c b' a' v e.2
theorem stack_ok (f : Point) : ∀ (l s : List Point), s ≠ [] → Desc f s → Cvx s → Asc f l → (∀ x ∈ s, ∀ y ∈ l, lam f x < lam f y) →
    Desc f (stack l s) ∧ Cvx (stack l s) ∧ stack l s ≠ [] ∧ (stack l s).getLast? = s.getLast? ∧ (∀ x ∈ stack l s, x ∈ s ∨ x ∈ l) ∧ (∀ p, Cov f s p → Cov f (stack l s) p) ∧ (∀ p ∈ l, Cov f (stack l s) p) ∧ (stack l s).head? = (l.getLast?).or s.head?
  | [], s, hs, D, C, _, _ => ⟨D, C, hs, rfl, fun x h => .inl h, fun p h => h, fun p h => (by cases h), by simp [stack]⟩
  | q :: l, s, hs, D, C, A, hlt => by
    have A' := List.pairwise_cons.1 A
    have Dq : Desc f (q :: s) := List.pairwise_cons.2 ⟨fun x hx => hlt x hx q (by simp), D⟩
    obtain ⟨h1, h2, h3, h4, h5, h6⟩ := pops_ok f q s hs Dq C
    have e : stack (q :: l) s = stack l (q :: pops q s) := rfl
    rw [e]
    obtain ⟨g1, g2, g3, g4, g5, g6, g7, g8⟩ := stack_ok f l (q :: pops q s) (by simp) h1 h2 A'.2 (by
      intro x hx y hy
      rcases List.mem_cons.1 hx with rfl | hx
      · exact A'.1 y hy
      · exact hlt x (h5 x hx) y (List.mem_cons_of_mem _ hy))
    refine ⟨g1, g2, g3, ?_, ?_, fun p hp => g6 p (h6 p hp.cons), ?_, ?_⟩
    · rw [g4, List.getLast?_cons, h4]
      cases hq : s.getLast? with
      | none => exact absurd (List.getLast?_eq_none_iff.1 hq) hs
      | some z => rfl
    · intro x hx
      rcases g5 x hx with hx | hx
      · rcases List.mem_cons.1 hx with rfl | hx
        · exact .inr (by simp)
        · exact .inl (h5 x hx)
      · exact .inr (List.mem_cons_of_mem _ hx)
    · intro p hp
      rcases List.mem_cons.1 hp with rfl | hp
      · exact g6 _ (.inl (by simp))
      · exact g7 p hp
    · rw [g8]
      cases l with
      | nil => simp
      | cons y l => simp [List.getLast?_cons]
/-- the way of points in order: what it is -/
structure Way (f : Point) (P W : List Point) : Prop where
  asc : Asc f W
  cvx : ∀ u a b c v, W = u ++ a :: b :: c :: v → 0 < ori a b c
  cov : ∀ p ∈ P, p ∈ W ∨ ∃ u a b v, W = u ++ a :: b :: v ∧ lam f a < lam f p ∧ lam f p < lam f b ∧ ori a p b ≤ 0
  sub : ∀ x ∈ W, x ∈ P
  head : W.head? = P.head?
  last : W.getLast? = P.getLast?
theorem way_ok (f : Point) (P : List Point) (A : Asc f P) : Way f P (way P) := by
  cases P with
  | nil =>
    refine ⟨List.Pairwise.nil, ?_, fun p h => (by cases h), fun p h => h, rfl, rfl⟩
    intro u a b c v e
    have := congrArg List.length e
    simp [way, stack] at this
  | cons x l =>
    have A' := List.pairwise_cons.1 A
    have e : way (x :: l) = (stack l [x]).reverse := rfl
    obtain ⟨g1, g2, g3, g4, g5, g6, g7, g8⟩ := stack_ok f l [x] (by simp) (List.pairwise_singleton _ _) (by
      intro u c b a v e
      have := congrArg List.length e
      simp at this
      omega) A'.2 (by
      intro y hy z hz
      rw [List.mem_singleton.1 hy]
      exact A'.1 z hz)
    rw [e]
    refine ⟨List.pairwise_reverse.2 g1, ?_, ?_, ?_, ?_, ?_⟩
    · intro u a b c v e
      refine g2 v.reverse c b a u.reverse ?_
      have := congrArg List.reverse e
      simpa using this
    · intro p hp
      have : Cov f (stack l [x]) p := by
        rcases List.mem_cons.1 hp with rfl | hp
        · exact g6 _ (.inl (by simp))
        · exact g7 p hp
      rcases this with h | ⟨u, b, a, v, e, h⟩
      · exact .inl (by simpa using h)
      · refine .inr ⟨v.reverse, a, b, u.reverse, ?_, h⟩
        rw [e]
        simp
    · intro y hy
      rcases g5 y (by simpa using hy) with h | h
      · rw [List.mem_singleton.1 h]; simp
      · exact List.mem_cons_of_mem _ h
    · rw [List.head?_reverse, g4]
      rfl
    · rw [List.getLast?_reverse, g8]
      cases l with
      | nil => rfl
      | cons y l => simp [List.getLast?_cons]
/-! ### from turns of neighbours to all turns -/
theorem after {f : Point} : ∀ (l : List Point) (a b : Point), Asc f (a :: b :: l) → (∀ u x y z v, a :: b :: l = u ++ x :: y :: z :: v → 0 < ori x y z) → ∀ w ∈ l, 0 < ori a b w
  | [], _, _, _, _, w, h => by cases h
  | c :: l, a, b, A, C, w, h => by
    have A1 := List.pairwise_cons.1 A
    have A2 := List.pairwise_cons.1 A1.2
    have t : 0 < ori a b c := C [] a b c l rfl
    rcases List.mem_cons.1 h with rfl | h
    · exact t
    · have A3 := List.pairwise_cons.1 A2.2
      have t2 := after l b c A1.2 (fun u x y z v e => C (a :: u) x y z v (by rw [e]; rfl)) w h
      exact s_abd (A1.1 b (by simp)) (A2.1 c (by simp)) (A3.1 w h) t t2
theorem ahead {f : Point} : ∀ (u : List Point) (x a b : Point) (v : List Point), Asc f (x :: u ++ a :: b :: v) → (∀ u' p q r v', x :: u ++ a :: b :: v = u' ++ p :: q :: r :: v' → 0 < ori p q r) → 0 < ori x a b
  | [], x, a, b, v, A, C => C [] x a b v rfl
  | y :: u, x, a, b, v, A, C => by
    have A1 := List.pairwise_cons.1 A
    have A2 := List.pairwise_cons.1 A1.2
    have t := ahead u y a b v A1.2 (fun u' p q r v' e => C (x :: u') p q r v' (by
      rw [List.cons_append] at e ⊢
      show x :: y :: (u ++ a :: b :: v) = _
      rw [List.cons_append, e]))
    have t2 := after (u ++ a :: b :: v) x y A C a (by simp)
    have ab : lam f a < lam f b := by
      have : Asc f (a :: b :: v) := by
        have h := A2.2
        exact (List.pairwise_append.1 h).2.1
      exact (List.pairwise_cons.1 this).1 b (by simp)
    exact s_acd (A1.1 y (by simp)) (A2.1 a (by simp)) ab t2 t
theorem ori_aab (a b : Point) : ori a b a = 0 := by unfold ori; grind
theorem ori_abb (a b : Point) : ori a b b = 0 := by unfold ori; grind
/-- all others of a way are to the left of each of its edges -/
theorem Way.left {f : Point} {P W : List Point} (H : Way f P W) {u v : List Point} {a b : Point} (e : W = u ++ a :: b :: v) : (∀ w ∈ u, 0 < ori a b w) ∧ ∀ w ∈ v, 0 < ori a b w := by
  have A : Asc f (u ++ a :: b :: v) := e ▸ H.asc
  refine ⟨fun w hw => ?_, fun w hw => ?_⟩
  · obtain ⟨u1, u2, rfl⟩ := List.append_of_mem hw
    rw [List.append_assoc] at A
    have A' : Asc f (w :: u2 ++ a :: b :: v) := (List.pairwise_append.1 A).2.1
    have t := ahead u2 w a b v A' (fun u' p q r v' e' => H.cvx (u1 ++ u') p q r v' (by
      rw [e, List.append_assoc, e', List.append_assoc]))
    rw [ori_cyc]
    exact t
  · have A' : Asc f (a :: b :: v) := (List.pairwise_append.1 A).2.1
    exact after v a b A' (fun u' p q r v' e' => H.cvx (u ++ u') p q r v' (by rw [e, e', List.append_assoc])) w hw
/-- three of a way, in order -/
theorem Way.tri {f : Point} {P W : List Point} (H : Way f P W) {u v : List Point} {a x w : Point} (e : W = u ++ x :: v) (ha : a ∈ u) (hw : w ∈ v) : 0 < ori a x w := by
  cases v with
  | nil => cases hw
  | cons y v =>
    have A : Asc f (u ++ x :: y :: v) := e ▸ H.asc
    have Ap := List.pairwise_append.1 A
    have Av := List.pairwise_cons.1 Ap.2.1
    obtain ⟨h1, h2⟩ := H.left e
    have t : 0 < ori a x y := by have := h1 a ha; rw [ori_cyc] at this; exact this
    rcases List.mem_cons.1 hw with rfl | hw
    · exact t
    · exact s_abd (Ap.2.2 a ha x (by simp)) (Av.1 y (by simp)) ((List.pairwise_cons.1 Av.2).1 w hw) t (h2 w hw)
/-- an edge of a polygon round some points: none to the right of it, and those on its line are between its ends -/
structure Edge (f : Point) (P : List Point) (a b : Point) : Prop where
  ne : a ≠ b
  left : ∀ p ∈ P, 0 ≤ ori a b p
  mid : ∀ p ∈ P, ori a b p = 0 → (lam f a ≤ lam f p ∧ lam f p ≤ lam f b) ∨ (lam f b ≤ lam f p ∧ lam f p ≤ lam f a)
  lne : lam f a ≠ lam f b
theorem Way.edge {f : Point} {P W : List Point} (H : Way f P W) {u v : List Point} {a b : Point} (e : W = u ++ a :: b :: v) : Edge f P a b := by
  obtain ⟨hu, hv⟩ := H.left e
  have A : Asc f (u ++ a :: b :: v) := e ▸ H.asc
  have ab : lam f a < lam f b := (List.pairwise_cons.1 (List.pairwise_append.1 A).2.1).1 b (by simp)
  have hw : ∀ w ∈ W, 0 ≤ ori a b w ∧ (ori a b w = 0 → w = a ∨ w = b) := by
    intro w hw
    rw [e] at hw
    rcases List.mem_append.1 hw with h | h
    · have := hu w h; exact ⟨by omega, fun z => by omega⟩
    · rcases List.mem_cons.1 h with rfl | h
      · exact ⟨by rw [ori_aab]; omega, fun _ => .inl rfl⟩
      · rcases List.mem_cons.1 h with rfl | h
        · exact ⟨by rw [ori_abb]; omega, fun _ => .inr rfl⟩
        · have := hv w h; exact ⟨by omega, fun z => by omega⟩
  have key : ∀ p ∈ P, 0 ≤ ori a b p ∧ (ori a b p = 0 → lam f a ≤ lam f p ∧ lam f p ≤ lam f b) := by
    intro p hp
    rcases H.cov p hp with h | ⟨u', a', b', v', e', h1, h2, h3⟩
    · refine ⟨(hw p h).1, fun z => ?_⟩
      rcases (hw p h).2 z with rfl | rfl
      · omega
      · omega
    · have ma : a' ∈ W := by rw [e']; simp
      have mb : b' ∈ W := by rw [e']; simp
      have ia := hw a' ma
      have ib := hw b' mb
      have id := id_p f a b a' b' p
      have x1 := mul_nn ia.1 (show 0 ≤ lam f b' - lam f p by omega)
      have x2 := mul_nn ib.1 (show 0 ≤ lam f p - lam f a' by omega)
      have x3 := mul_np h3 (show 0 ≤ lam f b - lam f a by omega)
      refine ⟨nonneg_of (show 0 < lam f b' - lam f a' by omega) (by omega), fun z => ?_⟩
      rw [z, Int.zero_mul] at id
      have za : ori a b a' = 0 := by
        rcases Int.mul_eq_zero.1 (show ori a b a' * (lam f b' - lam f p) = 0 by omega) with h | h
        · exact h
        · omega
      have zb : ori a b b' = 0 := by
        rcases Int.mul_eq_zero.1 (show ori a b b' * (lam f p - lam f a') = 0 by omega) with h | h
        · exact h
        · omega
      rcases ia.2 za with rfl | rfl <;> rcases ib.2 zb with rfl | rfl <;> omega
  exact ⟨fun h => by rw [h] at ab; omega, fun p hp => (key p hp).1, fun p hp z => .inl ((key p hp).2 z), by omega⟩
/-! ### going round -/
def Lk (R : Point → Point → Prop) : List Point → Prop
  | a :: b :: l => R a b ∧ Lk R (b :: l)
  | _ => True
theorem lk_of {R : Point → Point → Prop} : ∀ W : List Point, (∀ u a b v, W = u ++ a :: b :: v → R a b) → Lk R W
  | [], _ => trivial
  | [_], _ => trivial
  | a :: b :: l, h => ⟨h [] a b l rfl, lk_of (b :: l) fun u x y v e => h (a :: u) x y v (by rw [e]; rfl)⟩
theorem lk_join {R : Point → Point → Prop} : ∀ (A : List Point) (x : Point) (B : List Point), Lk R (A ++ [x]) → Lk R (x :: B) → Lk R (A ++ x :: B)
  | [], _, _, _, h => h
  | [a], x, B, h1, h2 => ⟨h1.1, h2⟩
  | a :: b :: A, x, B, h1, h2 => ⟨h1.1, lk_join (b :: A) x B h1.2 h2⟩
theorem Lk.imp {R S : Point → Point → Prop} : ∀ W : List Point, (∀ a b, a ∈ W → b ∈ W → R a b → S a b) → Lk R W → Lk S W
  | [], _, _ => trivial
  | [_], _, _ => trivial
  | a :: b :: l, h, k => ⟨h a b (by simp) (by simp) k.1, Lk.imp (b :: l) (fun x y hx hy => h x y (List.mem_cons_of_mem _ hx) (List.mem_cons_of_mem _ hy)) k.2⟩
theorem lk_zip {R : Point → Point → Prop} : ∀ (l : List Point) (p z : Point), Lk R (p :: l ++ [z]) → ∀ e ∈ (p :: l).zip (l ++ [z]), R e.1 e.2
  | [], p, z, h, e, he => by
    simp only [List.nil_append, List.zip_cons_cons, List.zip_nil_right, List.mem_singleton] at he
    rw [he]; exact h.1
  | q :: l, p, z, h, e, he => by
    simp only [List.cons_append, List.zip_cons_cons, List.mem_cons] at he
    rcases he with rfl | he
    · exact h.1
    · exact lk_zip l q z h.2 e (by simpa using he)
theorem lk_edges {R : Point → Point → Prop} {p : Point} {l : List Point} (h : Lk R (p :: l ++ [p])) : ∀ e ∈ edges (p :: l), R e.1 e.2 := lk_zip l p p h
theorem lk_zip_of {R : Point → Point → Prop} : ∀ (l : List Point) (p z : Point), (∀ e ∈ (p :: l).zip (l ++ [z]), R e.1 e.2) → Lk R (p :: l ++ [z])
  | [], p, z, h => ⟨h (p, z) (by simp), trivial⟩
  | q :: l, p, z, h => ⟨h (p, q) (by simp), lk_zip_of l q z fun e he => h e (by
      simp only [List.cons_append, List.zip_cons_cons, List.mem_cons]
      exact .inr (by simpa using he))⟩
theorem find_only {α : Type} {p : α → Bool} {b : α} : ∀ {l : List α}, b ∈ l → p b = true → (∀ x ∈ l, p x = true → x = b) → l.find? p = some b
  | [], h, _, _ => by cases h
  | x :: l, h, hp, hu => by
    by_cases e : p x = true
    · rw [List.find?_cons_of_pos e, hu x (by simp) e]
    · rw [List.find?_cons_of_neg e]
      rcases List.mem_cons.1 h with rfl | h
      · exact absurd hp e
      · exact find_only h hp fun y hy => hu y (List.mem_cons_of_mem _ hy)
theorem sq_nn (x : Int) : 0 ≤ x * x := by
  rcases Int.le_total 0 x with h | h
  · exact Int.mul_nonneg h h
  · exact Int.mul_nonneg_of_nonpos_of_nonpos h h
theorem sq_pos {x : Int} (h : x ≠ 0) : 0 < x * x := by
  have := sq_nn x
  rcases Int.lt_or_le 0 (x * x) with z | z
  · exact z
  · rcases Int.mul_eq_zero.1 (show x * x = 0 by omega) with q | q <;> exact absurd q h
/-- u and v in one line -/
theorem par (f u v : Point) (h : u.1 * v.2 - u.2 * v.1 = 0) : lam f u * v.1 = lam f v * u.1 ∧ lam f u * v.2 = lam f v * u.2 := by
  unfold lam; constructor <;> grind
theorem lam_sub (f a b : Point) : lam f (sub b a) = lam f b - lam f a := by unfold lam sub; grind
theorem not_beyond {f a b p : Point} (hn : lam f a ≠ lam f b) (z : ori a b p = 0) (h : (lam f a ≤ lam f p ∧ lam f p ≤ lam f b) ∨ (lam f b ≤ lam f p ∧ lam f p ≤ lam f a)) :
    (sub p a).1 * (sub b a).1 + (sub p a).2 * (sub b a).2 ≤ (sub b a).1 * (sub b a).1 + (sub b a).2 * (sub b a).2 := by
  obtain ⟨e1, e2⟩ := par f (sub b a) (sub p a) z
  have la := lam_sub f a b
  have lp := lam_sub f a p
  generalize sub b a = u at *
  generalize sub p a = v at *
  have e : lam f u * (v.1 * u.1 + v.2 * u.2) = lam f v * (u.1 * u.1 + u.2 * u.2) := by grind
  have nn : 0 ≤ u.1 * u.1 + u.2 * u.2 := by have := sq_nn u.1; have := sq_nn u.2; omega
  generalize u.1 * u.1 + u.2 * u.2 = N at *
  generalize v.1 * u.1 + v.2 * u.2 = D at *
  rcases Int.lt_or_le 0 (lam f u) with hp | hp
  · have k := mul_nn nn (show 0 ≤ lam f u - lam f v by omega)
    have k2 : 0 ≤ (N - D) * lam f u := by grind
    have := nonneg_of hp k2
    omega
  · have hp' : 0 < - lam f u := by omega
    have k := mul_nn nn (show 0 ≤ lam f v - lam f u by omega)
    have k2 : 0 ≤ (N - D) * (- lam f u) := by grind
    have := nonneg_of hp' k2
    omega
theorem only_one {f a b c : Point} (hn : lam f a ≠ lam f b) (hc : c ≠ a) (z : ori a b c = 0) (h : (lam f a ≤ lam f c ∧ lam f c ≤ lam f b) ∨ (lam f b ≤ lam f c ∧ lam f c ≤ lam f a))
    (k : (sub b a).1 * (sub c a).1 + (sub b a).2 * (sub c a).2 ≤ (sub c a).1 * (sub c a).1 + (sub c a).2 * (sub c a).2) : c = b := by
  obtain ⟨e1, e2⟩ := par f (sub b a) (sub c a) z
  have la := lam_sub f a b
  have lp := lam_sub f a c
  have vne : ¬ ((sub c a).1 = 0 ∧ (sub c a).2 = 0) := fun q => hc (by
    have q1 : c.1 - a.1 = 0 := q.1
    have q2 : c.2 - a.2 = 0 := q.2
    exact Prod.ext (by omega) (by omega))
  have fin : (sub b a).1 = (sub c a).1 → (sub b a).2 = (sub c a).2 → c = b := fun q1 q2 => by
    have q1 : b.1 - a.1 = c.1 - a.1 := q1
    have q2 : b.2 - a.2 = c.2 - a.2 := q2
    exact Prod.ext (by omega) (by omega)
  generalize sub b a = u at *
  generalize sub c a = v at *
  have e : lam f u * (v.1 * v.1 + v.2 * v.2) = lam f v * (u.1 * v.1 + u.2 * v.2) := by grind
  have pp : 0 < v.1 * v.1 + v.2 * v.2 := by
    have z1 := sq_nn v.1
    have z2 := sq_nn v.2
    by_cases q : v.1 = 0
    · have := sq_pos (x := v.2) (fun q2 => vne ⟨q, q2⟩); omega
    · have := sq_pos q; omega
  generalize hN : v.1 * v.1 + v.2 * v.2 = N at *
  generalize hD : u.1 * v.1 + u.2 * v.2 = D at *
  have un : lam f u ≠ 0 := by omega
  have uv : lam f u = lam f v := by
    rcases Int.lt_or_le 0 (lam f u) with hp | hp
    · have k1 := mul_nn (show 0 ≤ N - D by omega) (show 0 ≤ lam f v by omega)
      have k2 : 0 ≤ (lam f v - lam f u) * N := by grind
      have := nonneg_of pp k2
      omega
    · have k1 := mul_nn (show 0 ≤ N - D by omega) (show 0 ≤ - lam f v by omega)
      have k2 : 0 ≤ (lam f u - lam f v) * N := by grind
      have := nonneg_of pp k2
      omega
  rw [← uv] at e1 e2
  have := Int.eq_of_mul_eq_mul_left un e1
  have := Int.eq_of_mul_eq_mul_left un e2
  exact fin (by omega) (by omega)
theorem next_eq {f : Point} {P : List Point} {a b : Point} (E : Edge f P a b) (hb : b ∈ P) : next P a = some b := by
  unfold next
  refine find_only hb ?_ ?_
  · simp only [Bool.and_eq_true, bne_iff_ne, ne_eq, noneRight, List.all_eq_true, decide_eq_true_eq, Bool.or_eq_true]
    refine ⟨fun h => E.ne h.symm, fun p hp => E.left p hp, fun p hp => ?_⟩
    by_cases z : ori a b p = 0
    · exact .inr (not_beyond E.lne z (E.mid p hp z))
    · exact .inl z
  · intro c hc h
    simp only [Bool.and_eq_true, bne_iff_ne, ne_eq, noneRight, List.all_eq_true, decide_eq_true_eq, Bool.or_eq_true] at h
    obtain ⟨h1, h2, h3⟩ := h
    have x1 : 0 ≤ ori a c b := h2 b hb
    have x2 := E.left c hc
    have x3 : ori a c b = - ori a b c := by unfold ori; grind
    have z : ori a b c = 0 := by omega
    refine only_one E.lne h1 z (E.mid c hc z) ?_
    rcases h3 b hb with q | q
    · exact absurd (show ori a c b = 0 by omega) q
    · exact q
theorem round_eq {P : List Point} {s : Point} : ∀ (l : List Point) (a : Point) (n : Nat), Lk (fun x y => next P x = some y) (a :: l ++ [s]) → s ∉ l → l.length < n → round P s n a = a :: l
  | [], a, n + 1, h, _, _ => by
    unfold round
    rw [h.1]
    simp
  | b :: l, a, n + 1, h, hs, hn => by
    unfold round
    rw [h.1]
    have hb : b ≠ s := fun e => hs (by rw [e]; simp)
    simp only [hb, if_false]
    rw [round_eq l b n h.2 (fun q => hs (List.mem_cons_of_mem _ q)) (by simpa using hn)]
  | _, _, 0, _, _, h => by omega
theorem len_le {α : Type} [DecidableEq α] : ∀ (c P : List α), c.Nodup → (∀ x ∈ c, x ∈ P) → c.length ≤ P.length
  | [], _, _, _ => Nat.zero_le _
  | x :: c, P, h, k => by
    have h' := List.nodup_cons.1 h
    have := len_le c (P.erase x) h'.2 fun y hy => (List.mem_erase_of_ne (fun (e : y = x) => h'.1 (by rw [← e]; exact hy))).2 (k y (List.mem_cons_of_mem _ hy))
    have hx := k x (by simp)
    rw [List.length_erase_of_mem hx] at this
    have := List.length_pos_of_mem hx
    simp
    omega
/-! ### below and above, joined -/
def neg (f : Point) : Point := (-f.1, -f.2)
theorem lam_neg (f p : Point) : lam (neg f) p = - lam f p := by unfold lam neg; grind
theorem Edge.of_neg {f : Point} {P : List Point} {a b : Point} (E : Edge (neg f) P a b) : Edge f P a b := by
  refine ⟨E.ne, E.left, fun p hp z => ?_, ?_⟩
  · have := E.mid p hp z
    simp only [lam_neg] at this
    omega
  · have := E.lne
    simp only [lam_neg] at this
    omega
theorem Edge.rev {f : Point} {P : List Point} {a b : Point} (E : Edge f P.reverse a b) : Edge f P a b :=
  ⟨E.ne, fun p hp => E.left p (by simpa using hp), fun p hp => E.mid p (by simpa using hp), E.lne⟩
theorem asc_rev {f : Point} {P : List Point} (A : Asc f P) : Asc (neg f) P.reverse := by
  refine List.pairwise_reverse.2 (A.imp fun {a b} h => ?_)
  rw [lam_neg, lam_neg]
  omega
theorem Asc.inj {f : Point} {P : List Point} (A : Asc f P) : ∀ x ∈ P, ∀ y ∈ P, lam f x = lam f y → x = y := by
  induction P with
  | nil => intro x h; cases h
  | cons a l ih =>
    have A' := List.pairwise_cons.1 A
    intro x hx y hy e
    rcases List.mem_cons.1 hx with h1 | h1 <;> rcases List.mem_cons.1 hy with h2 | h2
    · rw [h1, h2]
    · have := A'.1 y h2; rw [h1] at e; omega
    · have := A'.1 x h1; rw [h2] at e; omega
    · exact ih A'.2 x h1 y h2 e
theorem Asc.nodup {f : Point} {P : List Point} (A : Asc f P) : P.Nodup := A.imp fun {a b} h e => by rw [e] at h; omega
/-- what a polygon's corners are to its points, and to one another -/
structure Poly (f : Point) (P c : List Point) : Prop where
  lk : ∃ p l, c = p :: l ∧ Lk (Edge f P) (p :: l ++ [p])
  nd : c.Nodup
  sub : ∀ x ∈ c, x ∈ P
  first : c.head? = P.head?
theorem split_ends {W : List Point} {a b : Point} (h1 : W.head? = some a) (h2 : W.getLast? = some b) (h : a ≠ b) : ∃ l, W = a :: l ++ [b] := by
  cases W with
  | nil => cases h1
  | cons x l =>
    simp only [List.head?_cons, Option.some.injEq] at h1
    subst h1
    cases hl : l.reverse with
    | nil =>
      have : l = [] := by simpa using hl
      subst this
      simp only [List.getLast?_singleton, Option.some.injEq] at h2
      exact absurd h2 h
    | cons y m =>
      have e : l = m.reverse ++ [y] := by
        have := congrArg List.reverse hl
        simpa using this
      subst e
      have : y = b := by
        have h3 : (x :: (m.reverse ++ [y])).getLast? = some y := by
          rw [← List.cons_append, List.getLast?_append]; simp
        rw [h3] at h2
        exact Option.some.inj h2
      subst this
      exact ⟨m.reverse, rfl⟩
theorem hull_ok {f : Point} {P : List Point} (A : Asc f P) (h2 : 2 ≤ P.length) : Poly f P (hull P) := by
  have W1 := way_ok f P A
  have W2 := way_ok (neg f) P.reverse (asc_rev A)
  obtain ⟨a, m, b, rfl⟩ : ∃ a m b, P = a :: m ++ [b] := by
    cases P with
    | nil => simp at h2
    | cons a l =>
      cases hl : l.reverse with
      | nil =>
        have : l = [] := by simpa using hl
        subst this
        simp at h2
      | cons y m =>
        have e : l = m.reverse ++ [y] := by
          have := congrArg List.reverse hl
          simpa using this
        exact ⟨a, m.reverse, y, by rw [e]; rfl⟩
  have ab : lam f a < lam f b := (List.pairwise_cons.1 A).1 b (by simp)
  have nab : a ≠ b := fun e => by rw [e] at ab; omega
  obtain ⟨l1, e1⟩ := split_ends (W1.head.trans (show _ = some a by simp)) (W1.last.trans (show _ = some b by rw [List.getLast?_append]; simp)) nab
  obtain ⟨l2, e2⟩ := split_ends (W2.head.trans (show _ = some b by simp)) (W2.last.trans (show _ = some a by rw [List.getLast?_reverse]; simp)) (Ne.symm nab)
  have eh : hull (a :: m ++ [b]) = a :: l1 ++ (b :: l2) := by
    unfold hull
    rw [e1, e2, List.dropLast_concat, List.dropLast_concat]
  have k1 : Lk (Edge f (a :: m ++ [b])) (a :: l1 ++ [b]) := lk_of _ fun u x y v e => W1.edge (e1.trans e)
  have k2 : Lk (Edge f (a :: m ++ [b])) (b :: (l2 ++ [a])) := lk_of _ fun u x y v e => (W2.edge (e2.trans e)).of_neg.rev
  have A1 : Asc f (a :: l1 ++ [b]) := e1 ▸ W1.asc
  have A2 : Asc (neg f) (b :: l2 ++ [a]) := e2 ▸ W2.asc
  have s1 : ∀ x ∈ a :: l1 ++ [b], x ∈ a :: m ++ [b] := fun x hx => W1.sub x (by rw [e1]; exact hx)
  have s2 : ∀ x ∈ b :: l2 ++ [a], x ∈ a :: m ++ [b] := fun x hx => by
    exact List.mem_reverse.1 (W2.sub x (by rw [e2]; exact hx))
  refine ⟨⟨a, l1 ++ (b :: l2), by rw [eh]; rfl, ?_⟩, ?_, ?_, ?_⟩
  · have := lk_join (a :: l1) b (l2 ++ [a]) k1 k2
    simpa using this
  · rw [eh]
    have n1 : (a :: l1).Nodup := (List.nodup_append.1 A1.nodup).1
    have n2 : (b :: l2).Nodup := (List.nodup_append.1 A2.nodup).1
    refine List.nodup_append.2 ⟨n1, n2, fun x hx y hy e => ?_⟩
    subst e
    -- x is in both
    have xb : x ≠ b := fun e => by
      subst e
      exact (List.nodup_append.1 A1.nodup).2.2 x hx x (by simp) rfl
    have xa : x ≠ a := fun e => by
      subst e
      exact (List.nodup_append.1 A2.nodup).2.2 x hy x (by simp) rfl
    have hx' : x ∈ l1 := by
      rcases List.mem_cons.1 hx with h | h
      · exact absurd h xa
      · exact h
    have hy' : x ∈ l2 := by
      rcases List.mem_cons.1 hy with h | h
      · exact absurd h xb
      · exact h
    -- x is strictly below a b, and strictly above it
    obtain ⟨u, v, hu⟩ := List.append_of_mem hx'
    obtain ⟨u', v', hv⟩ := List.append_of_mem hy'
    have t1 : 0 < ori a x b := W1.tri (u := a :: u) (v := v ++ [b]) (by rw [e1, hu]; simp) (by simp) (by simp)
    have t2 : 0 < ori b x a := W2.tri (u := b :: u') (v := v' ++ [a]) (by rw [e2, hv]; simp) (by simp) (by simp)
    have t3 : ori b x a = - ori a x b := by unfold ori; grind
    omega
  · intro x hx
    rw [eh] at hx
    rcases List.mem_append.1 hx with h | h
    · exact s1 x (List.mem_append_left _ h)
    · exact s2 x (by rw [List.cons_append]; exact List.mem_append_left _ h)
  · rw [eh]; rfl
theorem corners_eq {f : Point} {l : List Point} (A : Asc f (inOrder l)) (h2 : 2 ≤ (inOrder l).length) : corners l = hull (inOrder l) := by
  have H := hull_ok A h2
  unfold corners
  generalize inOrder l = P at *
  obtain ⟨p, m, e, lk⟩ := H.lk
  cases P with
  | nil => simp at h2
  | cons a r =>
    have ea : p = a := by
      have := H.first
      rw [e] at this
      simpa using this
    subst ea
    have hl := len_le _ _ H.nd H.sub
    rw [e] at hl
    rw [e]
    have nd := H.nd
    rw [e] at nd
    refine round_eq m p (r.length + 1) (Lk.imp _ (fun x y hx hy E => next_eq E ?_) lk) (List.nodup_cons.1 nd).1 (by simp at hl; omega)
    rw [List.cons_append] at hy
    rcases List.mem_cons.1 hy with h | h
    · rw [h]; simp
    · rcases List.mem_append.1 h with h | h
      · exact H.sub y (by rw [e]; exact List.mem_cons_of_mem _ h)
      · rw [List.mem_singleton.1 h]; simp
/-! ### in order -/
def F : Point := (100, 1)
def Small (p : Point) : Prop := (-20 ≤ p.1 ∧ p.1 ≤ 20) ∧ -20 ≤ p.2 ∧ p.2 ≤ 20
theorem before_iff {a b : Point} (ha : Small a) (hb : Small b) : before a b = true ↔ lam F a < lam F b := by
  unfold before lam F
  obtain ⟨⟨_, _⟩, _, _⟩ := ha
  obtain ⟨⟨_, _⟩, _, _⟩ := hb
  simp only [Bool.or_eq_true, decide_eq_true_eq, Bool.and_eq_true, beq_iff_eq]
  omega
theorem lam_inj {a b : Point} (ha : Small a) (hb : Small b) (h : lam F a = lam F b) : a = b := by
  unfold lam F at h
  obtain ⟨⟨_, _⟩, _, _⟩ := ha
  obtain ⟨⟨_, _⟩, _, _⟩ := hb
  simp only at h
  exact Prod.ext (by omega) (by omega)
theorem mem_put {x y : Point} : ∀ {s : List Point}, y ∈ put x s ↔ y = x ∨ y ∈ s
  | [] => by simp [put]
  | z :: s => by
    unfold put
    by_cases h : x = z
    · rw [if_pos h, h]; simp
    · rw [if_neg h]
      by_cases k : before x z = true
      · rw [if_pos k]; simp
      · rw [if_neg k, List.mem_cons, mem_put, List.mem_cons]
        constructor
        · rintro (h | h | h) <;> simp [h]
        · rintro (h | h | h) <;> simp [h]
theorem asc_put {x : Point} (hx : Small x) : ∀ {s : List Point}, (∀ y ∈ s, Small y) → Asc F s → Asc F (put x s)
  | [], _, _ => by exact List.pairwise_singleton _ _
  | z :: s, hs, A => by
    have hz := hs z (by simp)
    have A' := List.pairwise_cons.1 A
    unfold put
    by_cases h : x = z
    · rw [if_pos h]; exact A
    · rw [if_neg h]
      by_cases k : before x z = true
      · rw [if_pos k]
        have := (before_iff hx hz).1 k
        refine List.pairwise_cons.2 ⟨fun y hy => ?_, A⟩
        rcases List.mem_cons.1 hy with rfl | hy
        · exact this
        · have := A'.1 y hy; omega
      · rw [if_neg k]
        refine List.pairwise_cons.2 ⟨fun y hy => ?_, asc_put hx (fun y hy => hs y (List.mem_cons_of_mem _ hy)) A'.2⟩
        rcases mem_put.1 hy with rfl | hy
        · rcases Int.lt_or_le (lam F z) (lam F y) with q | q
          · exact q
          · exfalso
            rcases Int.lt_or_le (lam F y) (lam F z) with q2 | q2
            · exact k ((before_iff hx hz).2 q2)
            · exact h (lam_inj hx hz (by omega))
        · exact A'.1 y hy
theorem inOrder_aux : ∀ (l s : List Point), (∀ y ∈ l, Small y) → (∀ y ∈ s, Small y) → Asc F s → Asc F (l.foldl (fun s p => put p s) s) ∧ ∀ y, y ∈ l.foldl (fun s p => put p s) s ↔ y ∈ s ∨ y ∈ l
  | [], s, _, _, A => ⟨A, fun y => by simp⟩
  | x :: l, s, hl, hs, A => by
    have hx := hl x (by simp)
    obtain ⟨h1, h2⟩ := inOrder_aux l (put x s) (fun y hy => hl y (List.mem_cons_of_mem _ hy)) (fun y hy => by
      rcases mem_put.1 hy with rfl | hy
      · exact hx
      · exact hs y hy) (asc_put hx hs A)
    refine ⟨h1, fun y => ?_⟩
    rw [List.foldl_cons, h2 y, mem_put, List.mem_cons]
    constructor
    · rintro ((h | h) | h) <;> simp [h]
    · rintro (h | h | h) <;> simp [h]
theorem inOrder_ok {l : List Point} (h : ∀ y ∈ l, Small y) : Asc F (inOrder l) ∧ ∀ y, y ∈ inOrder l ↔ y ∈ l := by
  obtain ⟨h1, h2⟩ := inOrder_aux l [] h (fun y hy => by cases hy) List.Pairwise.nil
  exact ⟨h1, fun y => by rw [show inOrder l = l.foldl (fun s p => put p s) [] from rfl, h2 y]; simp⟩
theorem asc_unique {f : Point} : ∀ {P Q : List Point}, Asc f P → Asc f Q → (∀ x, x ∈ P ↔ x ∈ Q) → P = Q
  | [], [], _, _, _ => rfl
  | [], y :: Q, _, _, h => by have := (h y).2 (by simp); cases this
  | x :: P, [], _, _, h => by have := (h x).1 (by simp); cases this
  | x :: P, y :: Q, A, B, h => by
    have A' := List.pairwise_cons.1 A
    have B' := List.pairwise_cons.1 B
    have e : x = y := by
      rcases List.mem_cons.1 ((h x).1 (by simp)) with q | q
      · exact q
      · rcases List.mem_cons.1 ((h y).2 (by simp)) with r | r
        · exact r.symm
        · have := B'.1 x q; have := A'.1 y r; omega
    subst e
    refine congrArg _ (asc_unique A'.2 B'.2 fun z => ?_)
    constructor
    · intro hz
      rcases List.mem_cons.1 ((h z).1 (List.mem_cons_of_mem _ hz)) with q | q
      · subst q; have := A'.1 z hz; omega
      · exact q
    · intro hz
      rcases List.mem_cons.1 ((h z).2 (List.mem_cons_of_mem _ hz)) with q | q
      · subst q; have := B'.1 z hz; omega
      · exact q
/-! ### twice the area -/
theorem twice_two (a b : Point) : twice [a, b] = 0 := by
  simp [twice, edges, cross]; grind
theorem twice_one (a : Point) : twice [a] = 0 := by
  simp [twice, edges, cross]; grind
/-- the sum along a way, seen from o -/
theorem fan (o : Point) : ∀ (l : List Point) (p z : Point), (((p :: l).zip (l ++ [z])).map fun e => cross e.1 e.2).sum = (((p :: l).zip (l ++ [z])).map fun e => ori o e.1 e.2).sum + (cross p o + cross o z)
  | [], p, z => by simp [cross, ori]; grind
  | q :: l, p, z => by
    have := fan o l q z
    simp only [List.cons_append, List.zip_cons_cons, List.map_cons, List.sum_cons] at this ⊢
    rw [this]
    simp only [cross, ori]
    grind
theorem twice_fan (o p : Point) (l : List Point) : twice (p :: l) = ((edges (p :: l)).map fun e => ori o e.1 e.2).sum := by
  have := fan o l p p
  have z : cross p o + cross o p = 0 := by simp only [cross]; grind
  unfold twice edges
  simp only [] at *
  rw [this, z, Int.add_zero]
theorem sum_nn : ∀ {l : List Int}, (∀ x ∈ l, 0 ≤ x) → 0 ≤ l.sum
  | [], _ => by simp
  | x :: l, h => by
    have := sum_nn (l := l) fun y hy => h y (List.mem_cons_of_mem _ hy)
    have := h x (by simp)
    simp; omega
theorem sum_pos : ∀ {l : List Int}, (∀ x ∈ l, 0 ≤ x) → (∃ x ∈ l, 0 < x) → 0 < l.sum
  | [], _, ⟨x, h, _⟩ => by cases h
  | x :: l, h, ⟨y, hy, hp⟩ => by
    have h0 := h x (by simp)
    have h1 := sum_nn (l := l) fun y hy => h y (List.mem_cons_of_mem _ hy)
    rcases List.mem_cons.1 hy with rfl | hy
    · simp; omega
    · have := sum_pos (l := l) (fun y hy => h y (List.mem_cons_of_mem _ hy)) ⟨y, hy, hp⟩
      simp; omega
/-- two edges of a polygon, one behind the other, turn left -/
theorem Edge.turn {f : Point} {P : List Point} {a b d : Point} (E1 : Edge f P a b) (E2 : Edge f P b d) (ha : a ∈ P) (hd : d ∈ P) (inj : ∀ x ∈ P, ∀ y ∈ P, lam f x = lam f y → x = y) (had : a ≠ d) : 0 < ori a b d := by
  have h := E1.left d hd
  rcases Int.lt_or_le 0 (ori a b d) with q | q
  · exact q
  · exfalso
    have z : ori a b d = 0 := by omega
    have z2 : ori b d a = 0 := by rw [ori_cyc]; exact z
    have m1 := E1.mid d hd z
    have m2 := E2.mid a ha z2
    have n1 := E1.lne
    have n2 := E2.lne
    exact had (inj a ha d hd (by omega))
theorem twice_pos {f : Point} {P c : List Point} (H : Poly f P c) (inj : ∀ x ∈ P, ∀ y ∈ P, lam f x = lam f y → x = y) (h3 : 3 ≤ c.length) : 0 < twice c := by
  obtain ⟨p, l, e, lk⟩ := H.lk
  subst e
  match l, h3 with
  | b :: d :: l, _ =>
    rw [twice_fan p]
    have hp : p ∈ P := H.sub p (by simp)
    have hb : b ∈ P := H.sub b (by simp)
    have hd : d ∈ P := H.sub d (by simp)
    refine sum_pos ?_ ⟨ori p b d, ?_, ?_⟩
    · intro x hx
      obtain ⟨e, he, rfl⟩ := List.mem_map.1 hx
      have := (lk_edges lk e he).left p hp
      rw [ori_cyc] at this
      exact this
    · exact List.mem_map.2 ⟨(b, d), by simp [edges], rfl⟩
    · have nd := List.nodup_cons.1 H.nd
      exact lk.1.turn lk.2.1 hp hd inj fun e => nd.1 (by rw [e]; simp)
/-- a polygon as the program keeps one -/
structure Good (c : List Point) : Prop where
  of : ∃ P, Asc F P ∧ (∀ p ∈ P, Small p) ∧ Poly F P c
  three : 3 ≤ c.length
  twelve : c.length ≤ 12
theorem Good.small {c : List Point} (G : Good c) : ∀ p ∈ c, Small p := by
  obtain ⟨P, A, S, H⟩ := G.of
  exact fun p hp => S p (H.sub p hp)
theorem len_inOrder_aux : ∀ (l s : List Point), (l.foldl (fun s p => put p s) s).length ≤ s.length + l.length
  | [], s => by simp
  | x :: l, s => by
    have := len_inOrder_aux l (put x s)
    have h : ∀ s : List Point, (put x s).length ≤ s.length + 1 := by
      intro s
      induction s with
      | nil => simp [put]
      | cons y s ih =>
        unfold put
        split
        · simp
        · split
          · simp
          · simp only [List.length_cons]; omega
    have := h s
    simp only [List.foldl_cons, List.length_cons]
    omega
theorem len_inOrder (l : List Point) : (inOrder l).length ≤ l.length := by
  have := len_inOrder_aux l []
  simpa [inOrder] using this
/-- what the program's corners are to the specification's -/
theorem hull_read {l : List Point} (hs : ∀ p ∈ l, Small p) (hne : l ≠ []) (h12 : l.length ≤ 12) :
    ((hull (inOrder l)).length < 3 → twice (corners l) = 0) ∧ (3 ≤ (hull (inOrder l)).length → corners l = hull (inOrder l) ∧ 0 < twice (corners l) ∧ Good (corners l)) := by
  obtain ⟨A, hm⟩ := inOrder_ok hs
  have hs' : ∀ p ∈ inOrder l, Small p := fun p hp => hs p ((hm p).1 hp)
  have inj := A.inj
  by_cases h2 : 2 ≤ (inOrder l).length
  · have H := hull_ok A h2
    have e := corners_eq A h2
    rw [e]
    refine ⟨fun h3 => ?_, fun h3 => ⟨rfl, twice_pos H inj h3, ⟨⟨_, A, hs', H⟩, h3, ?_⟩⟩⟩
    · obtain ⟨p, m, e, lk⟩ := H.lk
      rw [e] at h3 ⊢
      match m, h3 with
      | [], _ => exact twice_one p
      | [b], _ => exact twice_two p b
      | _ :: _ :: _, h3 => simp at h3; omega
    · have := len_le _ _ H.nd H.sub
      have := len_inOrder l
      omega
  · have : ∃ a, inOrder l = [a] := by
      match hl : inOrder l, h2 with
      | [], _ =>
        cases l with
        | nil => exact absurd rfl hne
        | cons x l =>
          have := (hm x).2 (by simp)
          rw [hl] at this
          cases this
      | [a], _ => exact ⟨a, rfl⟩
      | _ :: _ :: _, h => simp at h
    obtain ⟨a, ea⟩ := this
    have eh : hull (inOrder l) = [] := by rw [ea]; rfl
    rw [eh]
    refine ⟨fun _ => ?_, fun h => by simp at h⟩
    unfold corners
    rw [ea]
    simp only []
    have : round [a] a (([] : List Point).length + 1) a = [a] := by
      unfold round
      have : next [a] a = none := by simp [next]
      rw [this]
    rw [this]
    exact twice_one a
end Hl

set_option linter.all false
set_option maxHeartbeats 1000000
namespace Hl
open Sq68
/-! ### what is within lies strictly inside the box -/
theorem edges_fst : ∀ c : List Point, (edges c).map (·.1) = c
  | [] => rfl
  | p :: l => by
    show ((p :: l).zip (l ++ [p])).map Prod.fst = p :: l
    rw [List.map_fst_zip (by simp)]
theorem edges_snd : ∀ (p : Point) (l : List Point), (edges (p :: l)).map (·.2) = l ++ [p]
  | p, l => by
    show ((p :: l).zip (l ++ [p])).map Prod.snd = l ++ [p]
    rw [List.map_snd_zip (by simp)]
theorem has_succ {c : List Point} {p : Point} (h : p ∈ c) : ∃ q, (p, q) ∈ edges c := by
  have : p ∈ (edges c).map (·.1) := by rw [edges_fst]; exact h
  obtain ⟨e, he, rfl⟩ := List.mem_map.1 this
  exact ⟨e.2, he⟩
theorem has_pred {c : List Point} {p : Point} (h : p ∈ c) : ∃ q, (q, p) ∈ edges c := by
  cases c with
  | nil => cases h
  | cons a l =>
    have : p ∈ (edges (a :: l)).map (·.2) := by
      rw [edges_snd]
      rcases List.mem_cons.1 h with rfl | h
      · simp
      · exact List.mem_append_left _ h
    obtain ⟨e, he, rfl⟩ := List.mem_map.1 this
    exact ⟨e.1, he⟩
theorem edges_mem {c : List Point} {e : Point × Point} (h : e ∈ edges c) : e.1 ∈ c ∧ e.2 ∈ c := by
  refine ⟨?_, ?_⟩
  · have : e.1 ∈ (edges c).map (·.1) := List.mem_map.2 ⟨e, h, rfl⟩
    rwa [edges_fst] at this
  · cases c with
    | nil => cases h
    | cons a l =>
      have : e.2 ∈ (edges (a :: l)).map (·.2) := List.mem_map.2 ⟨e, h, rfl⟩
      rw [edges_snd] at this
      rcases List.mem_append.1 this with q | q
      · exact List.mem_cons_of_mem _ q
      · rw [List.mem_singleton.1 q]; simp
/-- a greatest slope -/
theorem greatest {f g : Point → Int} : ∀ c : List Point, c ≠ [] → (∀ p ∈ c, 0 < f p) → ∃ p ∈ c, ∀ q ∈ c, g q * f p ≤ g p * f q
  | [], h, _ => absurd rfl h
  | [a], _, _ => ⟨a, by simp, fun q hq => by rw [List.mem_singleton.1 hq]; exact Int.le_refl _⟩
  | a :: b :: l, _, hf => by
    obtain ⟨p, hp, hm⟩ := greatest (f := f) (g := g) (b :: l) (by simp) fun q hq => hf q (List.mem_cons_of_mem _ hq)
    have fa := hf a (by simp)
    have fp := hf p (List.mem_cons_of_mem _ hp)
    by_cases c : g a * f p ≤ g p * f a
    · refine ⟨p, List.mem_cons_of_mem _ hp, fun q hq => ?_⟩
      rcases List.mem_cons.1 hq with rfl | hq
      · exact c
      · exact hm q hq
    · refine ⟨a, by simp, fun q hq => ?_⟩
      rcases List.mem_cons.1 hq with rfl | hq
      · exact Int.le_refl _
      · have fq := hf q (List.mem_cons_of_mem _ hq)
        have h1 := hm q hq
        have h2 : g p * f a < g a * f p := by omega
        -- g q / f q ≤ g p / f p < g a / f a
        have k1 : g q * f p * f a ≤ g p * f q * f a := Int.mul_le_mul_of_nonneg_right h1 (by omega)
        have k2 : g p * f a * f q ≤ g a * f p * f q := Int.mul_le_mul_of_nonneg_right (by omega) (by omega)
        have k3 : (g q * f a) * f p ≤ (g a * f q) * f p := by
          have e1 : g q * f p * f a = (g q * f a) * f p := by grind
          have e2 : g p * f q * f a = g p * f a * f q := by grind
          have e3 : g a * f p * f q = (g a * f q) * f p := by grind
          omega
        exact Int.le_of_mul_le_mul_right k3 fp
theorem no_half {f g : Point → Int} {c : List Point} (hc : c ≠ []) (h : ∀ e ∈ edges c, 0 < f e.1 * g e.2 - g e.1 * f e.2) (hf : ∀ p ∈ c, 0 ≤ f p) : False := by
  have pos : ∀ p ∈ c, 0 < f p := by
    intro p hp
    rcases Int.lt_or_le 0 (f p) with q | q
    · exact q
    · exfalso
      have z : f p = 0 := by have := hf p hp; omega
      obtain ⟨n, hn⟩ := has_succ hp
      obtain ⟨b, hb⟩ := has_pred hp
      have h1 := h _ hn
      have h2 := h _ hb
      simp only [z, Int.zero_mul, Int.mul_zero] at h1 h2
      have fn := hf n (edges_mem hn).2
      have fb := hf b (edges_mem hb).1
      -- 0 < - g p * f n, 0 < f b * g p
      rcases Int.lt_or_le 0 (g p) with k | k
      · have := Int.mul_nonneg (show 0 ≤ g p by omega) fn; omega
      · have := Int.mul_nonpos_of_nonneg_of_nonpos fb k; omega
  obtain ⟨p, hp, hm⟩ := greatest (g := g) c hc pos
  obtain ⟨n, hn⟩ := has_succ hp
  have h1 := h _ hn
  have h2 := hm n (edges_mem hn).2
  have e : f p * g n = g n * f p := Int.mul_comm _ _
  simp only at h1
  omega
theorem within_box {c : List Point} {q : Point} (hc : c ≠ []) (h : ∀ e ∈ edges c, 0 < ori e.1 e.2 q) :
    (∃ p ∈ c, p.1 < q.1) ∧ (∃ p ∈ c, q.1 < p.1) ∧ (∃ p ∈ c, p.2 < q.2) ∧ (∃ p ∈ c, q.2 < p.2) := by
  have key : ∀ (f g : Point → Int), (∀ a b : Point, f a * g b - g a * f b = ori a b q) → ∃ p ∈ c, f p < 0 := by
    intro f g hfg
    apply Classical.byContradiction
    intro hn
    refine no_half (f := f) (g := g) hc (fun e he => by rw [hfg]; exact h e he) fun p hp => ?_
    rcases Int.lt_or_le (f p) 0 with k | k
    · exact absurd ⟨p, hp, k⟩ hn
    · exact k
  refine ⟨?_, ?_, ?_, ?_⟩
  · obtain ⟨p, hp, k⟩ := key (fun p => p.1 - q.1) (fun p => p.2 - q.2) (fun a b => by unfold ori; grind)
    exact ⟨p, hp, by omega⟩
  · obtain ⟨p, hp, k⟩ := key (fun p => q.1 - p.1) (fun p => q.2 - p.2) (fun a b => by unfold ori; grind)
    exact ⟨p, hp, by omega⟩
  · obtain ⟨p, hp, k⟩ := key (fun p => p.2 - q.2) (fun p => q.1 - p.1) (fun a b => by unfold ori; grind)
    exact ⟨p, hp, by omega⟩
  · obtain ⟨p, hp, k⟩ := key (fun p => q.2 - p.2) (fun p => p.1 - q.1) (fun a b => by unfold ori; grind)
    exact ⟨p, hp, by omega⟩
/-! ### rows of whole numbers, as Python's range has them -/
def rg (lo hi : Int) : List Int := (List.range (hi - lo).toNat).map fun (i : Nat) => lo + i
theorem rg_nil {lo hi : Int} (h : hi ≤ lo) : rg lo hi = [] := by
  unfold rg
  rw [show (hi - lo).toNat = 0 by omega]
  rfl
theorem rg_cons {lo hi : Int} (h : lo < hi) : rg lo hi = lo :: rg (lo + 1) hi := by
  unfold rg
  obtain ⟨n, hn⟩ : ∃ n : Nat, (hi - lo).toNat = n + 1 := ⟨(hi - lo).toNat - 1, by omega⟩
  rw [hn, show (hi - (lo + 1)).toNat = n by omega, List.range_succ_eq_map, List.map_cons, List.map_map]
  refine congr (congrArg List.cons (by simp)) (List.map_congr_left fun a _ => ?_)
  simp only [Function.comp]
  omega
theorem rg_snoc {lo hi : Int} (h : lo ≤ hi) : rg lo (hi + 1) = rg lo hi ++ [hi] := by
  unfold rg
  rw [show (hi + 1 - lo).toNat = (hi - lo).toNat + 1 by omega, List.range_succ, List.map_append]
  simp
  omega
/-- what makes nothing at both ends and beyond -/
theorem rg_inner {β : Type} {lo hi : Int} (h : lo ≤ hi) (f : Int → List β) (h1 : f lo = []) (h2 : f hi = []) : (rg lo (hi + 1)).flatMap f = (rg (lo + 1) hi).flatMap f := by
  rcases Int.lt_or_le lo hi with k | k
  · rw [rg_cons (by omega), rg_snoc (by omega), List.flatMap_cons, h1, List.nil_append, List.flatMap_append]
    simp [h2]
  · have e : lo = hi := by omega
    subst e
    rw [rg_cons (by omega), rg_nil (by omega), rg_nil (by omega)]
    simp [h1]
theorem min_of {l : List Int} {m : Int} (hm : m ∈ l) (hle : ∀ x ∈ l, m ≤ x) : (l.min?).getD 0 = m := by
  rw [List.min?_eq_some_iff.2 ⟨hm, hle⟩]
  rfl
theorem max_of {l : List Int} {m : Int} (hm : m ∈ l) (hle : ∀ x ∈ l, x ≤ m) : (l.max?).getD 0 = m := by
  rw [List.max?_eq_some_iff.2 ⟨hm, hle⟩]
  rfl
theorem where_two {c : List Point} {p : Point} : (where_ c p == 2) = true ↔ ∀ e ∈ edges c, 0 < ori e.1 e.2 p := by
  unfold where_
  simp only [beq_iff_eq]
  by_cases k : ((edges c).map fun e => cross (sub e.2 e.1) (sub p e.1)).all (fun x => decide (0 < x)) = true
  · rw [if_pos k]
    simp only [List.all_map, List.all_eq_true, Function.comp, decide_eq_true_eq] at k
    exact ⟨fun _ e he => k e he, fun _ => rfl⟩
  · rw [if_neg k]
    constructor
    · intro z
      split at z <;> omega
    · intro z
      refine absurd ?_ k
      simp only [List.all_map, List.all_eq_true, Function.comp, decide_eq_true_eq]
      exact fun e he => z e he
/-- the points within, as a walk over the inside of the box makes them -/
theorem inner_eq {c : List Point} (hc : c ≠ []) {x0 x1 y0 y1 : Int} (a1 : x0 ∈ c.map (·.1)) (a2 : ∀ x ∈ c.map (·.1), x0 ≤ x) (b1 : x1 ∈ c.map (·.1)) (b2 : ∀ x ∈ c.map (·.1), x ≤ x1)
    (d1 : y0 ∈ c.map (·.2)) (d2 : ∀ y ∈ c.map (·.2), y0 ≤ y) (e1 : y1 ∈ c.map (·.2)) (e2 : ∀ y ∈ c.map (·.2), y ≤ y1) :
    innerPoints c = (rg (x0 + 1) x1).flatMap fun x => (rg (y0 + 1) y1).flatMap fun y => if (where_ c (x, y) == 2) = true then [(x, y)] else [] := by
  have out : ∀ x y, (x ≤ x0 ∨ x1 ≤ x ∨ y ≤ y0 ∨ y1 ≤ y) → ¬ (where_ c (x, y) == 2) = true := by
    intro x y h k
    obtain ⟨⟨p1, m1, k1⟩, ⟨p2, m2, k2⟩, ⟨p3, m3, k3⟩, ⟨p4, m4, k4⟩⟩ := within_box hc (where_two.1 k)
    have := a2 _ (List.mem_map.2 ⟨p1, m1, rfl⟩)
    have := b2 _ (List.mem_map.2 ⟨p2, m2, rfl⟩)
    have := d2 _ (List.mem_map.2 ⟨p3, m3, rfl⟩)
    have := e2 _ (List.mem_map.2 ⟨p4, m4, rfl⟩)
    simp only at *
    omega
  have hx : x0 ≤ x1 := a2 _ b1
  have hy : y0 ≤ y1 := d2 _ e1
  have fm : ∀ (l : List Point), l.filter (fun p => where_ c p == 2) = l.flatMap fun p => if (where_ c p == 2) = true then [p] else [] := by
    intro l
    induction l with
    | nil => rfl
    | cons p l ih =>
      rw [List.flatMap_cons, ← ih]
      by_cases k : (where_ c p == 2) = true
      · rw [List.filter_cons_of_pos (p := fun p => where_ c p == 2) k, if_pos k]; rfl
      · rw [List.filter_cons_of_neg (p := fun p => where_ c p == 2) k, if_neg k]; rfl
  unfold innerPoints
  simp only [min_of a1 a2, max_of b1 b2, min_of d1 d2, max_of e1 e2]
  rw [fm]
  have r1 : (List.range ((x1 - x0).toNat + 1)).map (fun (i : Nat) => x0 + (i : Int)) = rg x0 (x1 + 1) := by
    unfold rg; rw [show (x1 + 1 - x0).toNat = (x1 - x0).toNat + 1 by omega]
  have r2 : (List.range ((y1 - y0).toNat + 1)).map (fun (i : Nat) => y0 + (i : Int)) = rg y0 (y1 + 1) := by
    unfold rg; rw [show (y1 + 1 - y0).toNat = (y1 - y0).toNat + 1 by omega]
  rw [r1, r2, List.flatMap_assoc]
  have inn : ∀ x, ((rg y0 (y1 + 1)).map fun y => (x, y)).flatMap (fun p => if (where_ c p == 2) = true then [p] else []) = (rg (y0 + 1) y1).flatMap fun y => if (where_ c (x, y) == 2) = true then [(x, y)] else [] := by
    intro x
    rw [List.flatMap_map]
    exact rg_inner hy (fun y => if (where_ c (x, y) == 2) = true then [(x, y)] else []) (if_neg (out x y0 (by omega))) (if_neg (out x y1 (by omega)))
  simp only [inn]
  refine rg_inner hx _ ?_ ?_
  · rw [List.flatMap_eq_nil_iff]
    intro y _
    exact if_neg (out x0 y (by omega))
  · rw [List.flatMap_eq_nil_iff]
    intro y _
    exact if_neg (out x1 y (by omega))
end Hl

set_option linter.all false
set_option maxHeartbeats 1000000
namespace Hl
open Sq68
/-! ### the greatest common divisor by two numbers -/
theorem bezout_ok : ∀ (f : Nat) (x y : Int), y.natAbs < f → (bezout f x y).1 * x + (bezout f x y).2 * y = (Nat.gcd x.natAbs y.natAbs : Nat)
  | 0, _, _, h => by omega
  | f + 1, x, y, h => by
    unfold bezout
    by_cases hy : y = 0
    · rw [if_pos hy, hy]
      simp only [Int.mul_zero, Int.add_zero, Int.natAbs_zero, Nat.gcd_zero_right]
      split <;> omega
    · rw [if_neg hy]
      have hm : (x % y).natAbs < f := by
        have h1 := Int.emod_nonneg x hy
        have h2 := Int.emod_lt x hy
        omega
      have ih := bezout_ok f y (x % y) hm
      simp only
      have e : Nat.gcd x.natAbs y.natAbs = Nat.gcd y.natAbs (x % y).natAbs := by
        show Int.gcd x y = Int.gcd y (x % y)
        rw [Int.emod_def, Int.mul_comm y (x / y), Int.gcd_sub_mul_right_right, Int.gcd_comm]
      rw [e, ← ih]
      have hd := Int.emod_add_mul_ediv x y
      generalize bezout f y (x % y) = z at *
      grind
theorem steps_pos {v : Point} (h : v ≠ (0, 0)) : 0 < steps v := by
  unfold steps
  refine Nat.gcd_pos_iff.2 ?_
  by_cases h1 : v.1 = 0
  · right
    have : v.2 ≠ 0 := fun h2 => h (Prod.ext h1 h2)
    omega
  · left
    omega
/-- v is its steps times a step -/
theorem steps_div (v : Point) : v.1 = v.1 / (steps v : Int) * (steps v : Int) ∧ v.2 = v.2 / (steps v : Int) * (steps v : Int) := by
  have h1 : ((steps v : Nat) : Int) ∣ v.1 := Int.gcd_dvd_left v.1 v.2
  have h2 : ((steps v : Nat) : Int) ∣ v.2 := Int.gcd_dvd_right v.1 v.2
  exact ⟨(Int.ediv_mul_cancel h1).symm, (Int.ediv_mul_cancel h2).symm⟩
/-- the second row of the map: square to v -/
def side (v : Point) : Point := (-(v.2 / (steps v : Int)), v.1 / (steps v : Int))
theorem dot_bezout {v : Point} : dot (bezout (v.1.natAbs + v.2.natAbs + 2) v.1 v.2) v = (steps v : Nat) := bezout_ok _ _ _ (by omega)
/-- how corners are laid by a first row s -/
def laidBy (s : Point) (a b d : Point) (c : List Point) : List Point :=
  c.map fun p => (dot s (sub p a) - dot s (sub d b) / dot (side (sub b a)) (sub d b) * dot (side (sub b a)) (sub p a), dot (side (sub b a)) (sub p a))
theorem laid_by (a b d : Point) (l : List Point) : laid (a :: b :: d :: l) = laidBy (bezout ((sub b a).1.natAbs + (sub b a).2.natAbs + 2) (sub b a).1 (sub b a).2) a b d (a :: b :: d :: l) := by
  unfold laid laidBy
  simp only [List.map_map]
  refine List.map_congr_left fun p _ => ?_
  rfl
/-- how far up a third corner is laid -/
theorem side_dot {a b d : Point} : dot (side (sub b a)) (sub d b) * (steps (sub b a) : Int) = ori a b d := by
  have h := steps_div (sub b a)
  unfold side dot
  generalize (sub b a).1 / (steps (sub b a) : Int) = x at *
  generalize (sub b a).2 / (steps (sub b a) : Int) = y at *
  generalize (steps (sub b a) : Int) = g at *
  obtain ⟨h1, h2⟩ := h
  simp only [sub] at *
  unfold ori
  have e1 : b.1 - a.1 = x * g := h1
  have e2 : b.2 - a.2 = y * g := h2
  rw [e1, e2]
  have : d.1 - a.1 = (d.1 - b.1) + x * g := by omega
  have : d.2 - a.2 = (d.2 - b.2) + y * g := by omega
  grind
theorem side_pos {a b d : Point} (h : 0 < ori a b d) : 0 < dot (side (sub b a)) (sub d b) := by
  rw [← side_dot] at h
  exact Int.pos_of_mul_pos_left h (by
    rcases Nat.eq_zero_or_pos (steps (sub b a)) with z | z
    · rw [z] at h; simp at h
    · omega)
theorem ne_of_ori {a b d : Point} (h : 0 < ori a b d) : sub b a ≠ (0, 0) := fun z => by
  have h1 : b.1 - a.1 = 0 := congrArg Prod.fst z
  have h2 : b.2 - a.2 = 0 := congrArg Prod.snd z
  unfold ori at h
  rw [h1, h2] at h
  simp at h
/-- the first row does not matter -/
theorem laidBy_eq {s t a b d : Point} {c : List Point} (hp : 0 < ori a b d) (hs : dot s (sub b a) = (steps (sub b a) : Nat)) (ht : dot t (sub b a) = (steps (sub b a) : Nat)) : laidBy s a b d c = laidBy t a b d c := by
  have hw := side_pos hp
  have hg := steps_pos (ne_of_ori hp)
  obtain ⟨e1, e2⟩ := steps_div (sub b a)
  -- s = t + m * side
  have key : ∃ m : Int, s.1 = t.1 + m * (side (sub b a)).1 ∧ s.2 = t.2 + m * (side (sub b a)).2 := by
    unfold side at *
    generalize hx : (sub b a).1 / (steps (sub b a) : Int) = x at *
    generalize hy : (sub b a).2 / (steps (sub b a) : Int) = y at *
    unfold dot at hs ht
    rw [e1, e2] at hs ht
    generalize (steps (sub b a)) = g at *
    have gs : (s.1 * x + s.2 * y) * (g : Int) = 1 * (g : Int) := by grind
    have gt : (t.1 * x + t.2 * y) * (g : Int) = 1 * (g : Int) := by grind
    have hs' := Int.eq_of_mul_eq_mul_right (by omega) gs
    have ht' := Int.eq_of_mul_eq_mul_right (by omega) gt
    refine ⟨t.1 * (s.2 - t.2) - t.2 * (s.1 - t.1), ?_, ?_⟩
    · simp only
      grind
    · simp only
      grind
  obtain ⟨m, k1, k2⟩ := key
  have hd : ∀ p, dot s p = dot t p + m * dot (side (sub b a)) p := by
    intro p
    unfold dot
    rw [k1, k2]
    grind
  unfold laidBy
  refine List.map_congr_left fun p _ => ?_
  rw [hd, hd, Int.add_mul_ediv_right _ _ (by omega)]
  refine Prod.ext ?_ rfl
  simp only
  grind
theorem laid_eq {s a b d : Point} {l : List Point} (hp : 0 < ori a b d) (hs : dot s (sub b a) = (steps (sub b a) : Nat)) : laid (a :: b :: d :: l) = laidBy s a b d (a :: b :: d :: l) := by
  rw [laid_by]
  exact laidBy_eq hp dot_bezout hs
end Hl

set_option linter.all false
set_option maxHeartbeats 1000000
namespace Hl
open Sq68
/-! ### going round more than once: every three neighbours turn left -/
def CT (c : List Point) : Prop := ∀ u a b d v, c ++ c = u ++ a :: b :: d :: v → 0 < ori a b d
theorem CT.first {c : List Point} (h : CT c) {r : List Point} {u v : List Point} (e : c ++ c = u ++ r ++ v) (h3 : 3 ≤ r.length) : ∃ a b d l, r = a :: b :: d :: l ∧ 0 < ori a b d := by
  match r, h3 with
  | a :: b :: d :: l, _ => exact ⟨a, b, d, l, rfl, h u a b d (l ++ v) (by rw [e]; simp)⟩
theorem turn_in {c : List Point} (i : Nat) : c ++ c = c.take i ++ (c.drop i ++ c.take i) ++ c.drop i := by
  rw [List.append_assoc, List.append_assoc, List.take_append_drop, ← List.append_assoc, List.take_append_drop]
theorem turns_mem {c r : List Point} (h : r ∈ turns c) : ∃ i, i < c.length ∧ r = c.drop i ++ c.take i := by
  obtain ⟨i, hi, e⟩ := List.mem_map.1 h
  exact ⟨i, List.mem_range.1 hi, e.symm⟩
theorem turn_len {c : List Point} (i : Nat) : (c.drop i ++ c.take i).length = c.length := by
  rw [List.length_append, List.length_drop, List.length_take]
  omega
theorem CT.turns {c r : List Point} (h : CT c) (h3 : 3 ≤ c.length) (hr : r ∈ turns c) : ∃ a b d l, r = a :: b :: d :: l ∧ 0 < ori a b d := by
  obtain ⟨i, _, rfl⟩ := turns_mem hr
  exact h.first (turn_in i) (by rw [turn_len]; exact h3)
def mir (p : Point) : Point := (-p.1, p.2)
theorem ori_mir (a b d : Point) : ori (mir d) (mir b) (mir a) = ori a b d := by unfold ori mir; grind
theorem mir_mir (p : Point) : mir (mir p) = p := by
  unfold mir
  exact Prod.ext (by simp) rfl
theorem mirrored_eq (c : List Point) : mirrored c = (c.map mir).reverse := rfl
theorem CT.mirrored {c : List Point} (h : CT c) : CT (mirrored c) := by
  intro u a b d v e
  rw [mirrored_eq, ← List.reverse_append, ← List.map_append] at e
  have e2 := congrArg List.reverse e
  rw [List.reverse_reverse] at e2
  have e3 := congrArg (List.map mir) e2
  rw [List.map_map, show mir ∘ mir = id from funext mir_mir, List.map_id] at e3
  have := h (v.reverse.map mir) (mir d) (mir b) (mir a) (u.reverse.map mir) (by rw [e3]; simp)
  have k := ori_mir (mir d) (mir b) (mir a)
  rw [mir_mir, mir_mir, mir_mir] at k
  omega
theorem mirrored_len (c : List Point) : (mirrored c).length = c.length := by rw [mirrored_eq, List.length_reverse, List.length_map]
/-! ### neighbours, once round and twice -/
theorem lk_split {R : Point → Point → Prop} : ∀ (u : List Point) {a b : Point} {v : List Point}, Lk R (u ++ a :: b :: v) → R a b
  | [], a, b, v, h => h.1
  | [x], a, b, v, h => h.2.1
  | x :: y :: u, a, b, v, h => lk_split (y :: u) h.2
theorem lk_twice {R : Point → Point → Prop} {p : Point} {l : List Point} (h : Lk R (p :: l ++ [p])) : Lk R ((p :: l) ++ (p :: l)) := by
  have h2 : Lk R (p :: l) := by
    have : ∀ (w : List Point) (z : Point), Lk R (w ++ [z]) → Lk R w := by
      intro w
      induction w with
      | nil => intro z _; trivial
      | cons x w ih =>
        intro z hz
        cases w with
        | nil => trivial
        | cons y w => exact ⟨hz.1, ih z hz.2⟩
    exact this _ _ h
  exact lk_join (p :: l) p l h h2
theorem Poly.ct {P c : List Point} (H : Poly F P c) (A : Asc F P) (h3 : 3 ≤ c.length) : CT c := by
  obtain ⟨p, l, e, lk⟩ := H.lk
  intro u a b d v hu
  have lk2 := lk_twice lk
  rw [← e, hu] at lk2
  have E1 : Edge F P a b := lk_split u lk2
  have E2 : Edge F P b d := by
    have : u ++ a :: b :: d :: v = (u ++ [a]) ++ b :: d :: v := by simp
    rw [this] at lk2
    exact lk_split _ lk2
  have mem : ∀ x ∈ u ++ a :: b :: d :: v, x ∈ c := fun x hx => by
    rw [← hu] at hx
    rcases List.mem_append.1 hx with h | h <;> exact h
  have ha : a ∈ P := H.sub a (mem a (by simp))
  have hd : d ∈ P := H.sub d (mem d (by simp))
  refine E1.turn E2 ha hd A.inj fun had => ?_
  -- a and d stand two apart, less than once round
  have nd := H.nd
  have ga : (c ++ c)[u.length]? = some a := by rw [hu]; simp
  have gd : (c ++ c)[u.length + 2]? = some d := by
    rw [hu, List.getElem?_append_right (by omega)]
    simp
  have hlt : u.length + 2 < (c ++ c).length := (List.getElem?_eq_some_iff.1 gd).1
  rw [List.length_append] at hlt
  have inj : ∀ i j : Nat, i < c.length → j < c.length → c[i]? = c[j]? → i = j := by
    intro i j hi hj hij
    exact (List.getElem?_inj hi nd).1 hij
  have at_ : ∀ i : Nat, i < c.length + c.length → (c ++ c)[i]? = c[i % c.length]? := by
    intro i hi
    by_cases k : i < c.length
    · rw [List.getElem?_append_left k, Nat.mod_eq_of_lt k]
    · rw [List.getElem?_append_right (by omega), Nat.mod_eq_sub_mod (by omega), Nat.mod_eq_of_lt (by omega)]
  rw [at_ _ (by omega)] at ga
  rw [at_ _ (by omega), ← had, ← ga] at gd
  have := inj _ _ (Nat.mod_lt _ (by omega)) (Nat.mod_lt _ (by omega)) gd
  have n0 : 0 < c.length := by omega
  -- (u + 2) mod n = u mod n with n ≥ 3
  have h1 : (u.length + 2) % c.length = (u.length % c.length + 2) % c.length := by rw [Nat.mod_add_mod]
  rw [h1] at this
  have hm := Nat.mod_lt u.length n0
  generalize u.length % c.length = m at *
  by_cases k : m + 2 < c.length
  · rw [Nat.mod_eq_of_lt k] at this; omega
  · rw [Nat.mod_eq_sub_mod (by omega), Nat.mod_eq_of_lt (by omega)] at this; omega
theorem Good.ct {c : List Point} (G : Good c) : CT c := by
  obtain ⟨P, A, _, H⟩ := G.of
  exact H.ct A G.three
/-- all rows that are laid begin well -/
theorem CT.rows {c : List Point} (h : CT c) (h3 : 3 ≤ c.length) : ∀ r ∈ Sq68.turns c ++ Sq68.turns (Sq68.mirrored c), ∃ a b d l, r = a :: b :: d :: l ∧ 0 < ori a b d := by
  intro r hr
  rcases List.mem_append.1 hr with k | k
  · exact h.turns h3 k
  · exact h.mirrored.turns (by rw [mirrored_len]; exact h3) k
end Hl

set_option linter.all false
set_option maxHeartbeats 1000000
namespace Hl
open Sq68
/-! ### one point within: every edge is one step off it -/
/-- a point with all edges strictly to its right is one of those within -/
theorem mem_inner {c : List Point} {q : Point} (hc : c ≠ []) (h : ∀ e ∈ edges c, 0 < ori e.1 e.2 q) : q ∈ innerPoints c := by
  obtain ⟨⟨p1, m1, k1⟩, ⟨p2, m2, k2⟩, ⟨p3, m3, k3⟩, ⟨p4, m4, k4⟩⟩ := within_box hc h
  unfold innerPoints
  refine List.mem_filter.2 ⟨?_, where_two.2 h⟩
  have inr : ∀ (f : Point → Int) (a b : Point), a ∈ c → b ∈ c → f a < f q → f q < f b → f q ∈ (List.range (((((c.map f).max?).getD 0) - (((c.map f).min?).getD 0)).toNat + 1)).map fun (i : Nat) => (((c.map f).min?).getD 0) + (i : Int) := by
    intro f a b ha hb h1 h2
    have hne : c.map f ≠ [] := fun z => by
      rw [List.map_eq_nil_iff] at z
      exact hc z
    cases hmn : (c.map f).min? with
    | none => exact absurd (List.min?_eq_none_iff.1 hmn) hne
    | some mn =>
      cases hmx : (c.map f).max? with
      | none => exact absurd (List.max?_eq_none_iff.1 hmx) hne
      | some mx =>
        have i1 := (List.min?_eq_some_iff.1 hmn).2 (f a) (List.mem_map.2 ⟨a, ha, rfl⟩)
        have i2 := (List.max?_eq_some_iff.1 hmx).2 (f b) (List.mem_map.2 ⟨b, hb, rfl⟩)
        simp only [Option.getD_some]
        refine List.mem_map.2 ⟨(f q - mn).toNat, List.mem_range.2 (by omega), by omega⟩
  simp only
  refine List.mem_flatMap.2 ⟨q.1, inr (fun p => p.1) p1 p2 m1 m2 k1 k2, List.mem_map.2 ⟨q.2, inr (fun p => p.2) p3 p4 m3 m4 k3 k4, rfl⟩⟩
/-- a point in the triangle of 0, A and B, no corner of it and not on A B -/
theorem in_triangle {A e : Point} {h : Int} (hp : Nat.gcd e.1.natAbs e.2.natAbs = 1) (hh : cross A e = h) (h2 : 2 ≤ h) :
    ∃ (q : Point) (α β : Int), 0 ≤ α ∧ 0 ≤ β ∧ 0 < α + β ∧ α + β < h ∧ h * q.1 = α * A.1 + β * (A.1 + e.1) ∧ h * q.2 = α * A.2 + β * (A.2 + e.2) := by
  -- what a point's two numbers are
  have al : ∀ p : Point, ∃ (q : Point) (α β : Int), 0 ≤ α ∧ α < h ∧ 0 ≤ β ∧ β < h ∧ h * q.1 = α * A.1 + β * (A.1 + e.1) ∧ h * q.2 = α * A.2 + β * (A.2 + e.2) ∧ α = cross p (A.1 + e.1, A.2 + e.2) % h ∧ β = cross A p % h := by
    intro p
    refine ⟨(p.1 - cross p (A.1 + e.1, A.2 + e.2) / h * A.1 - cross A p / h * (A.1 + e.1), p.2 - cross p (A.1 + e.1, A.2 + e.2) / h * A.2 - cross A p / h * (A.2 + e.2)), cross p (A.1 + e.1, A.2 + e.2) % h, cross A p % h,
      Int.emod_nonneg _ (by omega), Int.emod_lt_of_pos _ (by omega), Int.emod_nonneg _ (by omega), Int.emod_lt_of_pos _ (by omega), ?_, ?_, rfl, rfl⟩
    · have d1 := Int.emod_add_mul_ediv (cross p (A.1 + e.1, A.2 + e.2)) h
      have d2 := Int.emod_add_mul_ediv (cross A p) h
      generalize cross p (A.1 + e.1, A.2 + e.2) / h = x at *
      generalize cross A p / h = y at *
      generalize hr1 : cross p (A.1 + e.1, A.2 + e.2) % h = r1 at *
      generalize hr2 : cross A p % h = r2 at *
      have e1 : r1 = cross p (A.1 + e.1, A.2 + e.2) - h * x := by omega
      have e2 : r2 = cross A p - h * y := by omega
      simp only [e1, e2]
      unfold cross at *
      simp only at *
      grind
    · have d1 := Int.emod_add_mul_ediv (cross p (A.1 + e.1, A.2 + e.2)) h
      have d2 := Int.emod_add_mul_ediv (cross A p) h
      generalize cross p (A.1 + e.1, A.2 + e.2) / h = x at *
      generalize cross A p / h = y at *
      generalize hr1 : cross p (A.1 + e.1, A.2 + e.2) % h = r1 at *
      generalize hr2 : cross A p % h = r2 at *
      have e1 : r1 = cross p (A.1 + e.1, A.2 + e.2) - h * x := by omega
      have e2 : r2 = cross A p - h * y := by omega
      simp only [e1, e2]
      unfold cross at *
      simp only at *
      grind
  -- some point has not both 0
  have some_p : ∃ p : Point, ¬ (cross p (A.1 + e.1, A.2 + e.2) % h = 0 ∧ cross A p % h = 0) := by
    apply Classical.byContradiction
    intro hn
    have all : ∀ p : Point, cross p (A.1 + e.1, A.2 + e.2) % h = 0 ∧ cross A p % h = 0 := fun p => Classical.byContradiction fun z => hn ⟨p, z⟩
    have d1 : h ∣ A.2 + e.2 := by have := (all (1, 0)).1; simp only [cross] at this; exact Int.dvd_of_emod_eq_zero (by simpa using this)
    have d2 : h ∣ A.1 + e.1 := by
      have := (all (0, 1)).1
      simp only [cross] at this
      have k := Int.dvd_of_emod_eq_zero this
      have : h ∣ -(0 * (A.2 + e.2) - 1 * (A.1 + e.1)) := (Int.dvd_neg).2 k
      simpa using this
    have d3 : h ∣ A.1 := by have := (all (0, 1)).2; simp only [cross] at this; exact Int.dvd_of_emod_eq_zero (by simpa using this)
    have d4 : h ∣ A.2 := by
      have := (all (1, 0)).2
      simp only [cross] at this
      have k := Int.dvd_of_emod_eq_zero this
      have : h ∣ -(A.1 * 0 - A.2 * 1) := (Int.dvd_neg).2 k
      simpa using this
    have e1 : h ∣ e.1 := by
      have := Int.dvd_sub d2 d3
      rwa [show A.1 + e.1 - A.1 = e.1 by omega] at this
    have e2 : h ∣ e.2 := by
      have := Int.dvd_sub d1 d4
      rwa [show A.2 + e.2 - A.2 = e.2 by omega] at this
    have g := Int.dvd_coe_gcd e1 e2
    have g1 : ((Int.gcd e.1 e.2 : Nat) : Int) = 1 := by
      show ((Nat.gcd e.1.natAbs e.2.natAbs : Nat) : Int) = 1
      rw [hp]
      rfl
    rw [g1] at g
    have := Int.le_of_dvd (by decide) g
    omega
  obtain ⟨p, hp0⟩ := some_p
  obtain ⟨q, α, β, a0, a1, b0, b1, q1, q2, ea, eb⟩ := al p
  have ab : ¬ (α = 0 ∧ β = 0) := fun z => hp0 ⟨ea ▸ z.1, eb ▸ z.2⟩
  rcases Int.lt_trichotomy (α + β) h with k | k | k
  · exact ⟨q, α, β, a0, b0, by omega, k, q1, q2⟩
  · -- on the line A B: q - A is a multiple of e
    exfalso
    have l1 : h * (q.1 - A.1) = β * e.1 := by
      have : α = h - β := by omega
      rw [this] at q1
      grind
    have l2 : h * (q.2 - A.2) = β * e.2 := by
      have : α = h - β := by omega
      rw [this] at q2
      grind
    -- h divides β e.1 and β e.2, so β
    have dv1 : h ∣ β * e.1 := ⟨q.1 - A.1, l1.symm⟩
    have dv2 : h ∣ β * e.2 := ⟨q.2 - A.2, l2.symm⟩
    have bz := bezout_ok (e.2.natAbs + 1) e.1 e.2 (by omega)
    rw [hp] at bz
    have : h ∣ β := by
      have k1 : h ∣ (bezout (e.2.natAbs + 1) e.1 e.2).1 * (β * e.1) + (bezout (e.2.natAbs + 1) e.1 e.2).2 * (β * e.2) := Int.dvd_add (Int.dvd_mul_of_dvd_right dv1) (Int.dvd_mul_of_dvd_right dv2)
      have k2 : (bezout (e.2.natAbs + 1) e.1 e.2).1 * (β * e.1) + (bezout (e.2.natAbs + 1) e.1 e.2).2 * (β * e.2) = β := by
        generalize bezout (e.2.natAbs + 1) e.1 e.2 = z at *
        have bz' : z.1 * e.1 + z.2 * e.2 = 1 := by simpa using bz
        grind
      rwa [k2] at k1
    have bpos : 0 < β := by omega
    have := Int.le_of_dvd bpos this
    omega
  · refine ⟨(2 * A.1 + e.1 - q.1, 2 * A.2 + e.2 - q.2), h - α, h - β, by omega, by omega, by omega, by omega, ?_, ?_⟩
    · simp only
      grind
    · simp only
      grind
/-- **one point within**: each edge lies one step off it -/
theorem one_off {c : List Point} {o : Point} (G : Good c) (hi : innerPoints c = [o]) : ∀ e ∈ edges c, cross (sub e.1 o) (sub e.2 o) = (steps (sub e.2 e.1) : Nat) := by
  intro e he
  have hc : c ≠ [] := fun z => by
    have := G.three
    rw [z] at this
    simp at this
  have ho : ∀ x ∈ edges c, 0 < ori x.1 x.2 o := by
    have : o ∈ innerPoints c := by rw [hi]; simp
    exact where_two.1 (List.mem_filter.1 this).2
  obtain ⟨P, A, S, H⟩ := G.of
  obtain ⟨p, l, ec, lk⟩ := H.lk
  have left : ∀ x ∈ edges c, ∀ q ∈ c, 0 ≤ ori x.1 x.2 q := fun x hx q hq => by
    rw [ec] at hx
    exact (lk_edges lk x hx).left q (H.sub q hq)
  obtain ⟨m1, m2⟩ := edges_mem he
  have hD : cross (sub e.1 o) (sub e.2 o) = ori e.1 e.2 o := by unfold cross sub ori; grind
  have hpos := ho e he
  have hne : sub e.2 e.1 ≠ (0, 0) := fun z => by
    have h1 : e.2.1 - e.1.1 = 0 := congrArg Prod.fst z
    have h2 : e.2.2 - e.1.2 = 0 := congrArg Prod.snd z
    unfold ori at hpos
    rw [h1, h2] at hpos
    simp at hpos
  have hg := steps_pos hne
  obtain ⟨d1, d2⟩ := steps_div (sub e.2 e.1)
  generalize hgg : steps (sub e.2 e.1) = g at *
  generalize hx : (sub e.2 e.1).1 / (g : Int) = x at *
  generalize hy : (sub e.2 e.1).2 / (g : Int) = y at *
  have d1 : e.2.1 - e.1.1 = x * (g : Int) := d1
  have d2 : e.2.2 - e.1.2 = y * (g : Int) := d2
  -- the step is primitive
  have prim : Nat.gcd x.natAbs y.natAbs = 1 := by
    have h1 : steps (sub e.2 e.1) = Nat.gcd (x * (g : Int)).natAbs (y * (g : Int)).natAbs := by
      unfold steps
      show Nat.gcd (e.2.1 - e.1.1).natAbs (e.2.2 - e.1.2).natAbs = _
      rw [d1, d2]
    rw [hgg, Int.natAbs_mul, Int.natAbs_mul, Int.natAbs_natCast, Nat.gcd_mul_right] at h1
    have : Nat.gcd x.natAbs y.natAbs * g = 1 * g := by omega
    exact Nat.eq_of_mul_eq_mul_right hg this
  -- the height
  have hh : cross (sub e.1 o) (x, y) * (g : Int) = ori e.1 e.2 o := by
    rw [← hD]
    unfold cross sub
    simp only
    have e1 : e.2.1 = e.1.1 + x * (g : Int) := by omega
    have e2 : e.2.2 = e.1.2 + y * (g : Int) := by omega
    rw [e1, e2]
    grind
  rw [hD, ← hh]
  generalize hhh : cross (sub e.1 o) (x, y) = h at *
  have h1 : 0 < h := by
    rw [← hh] at hpos
    exact Int.pos_of_mul_pos_left hpos (by omega)
  rcases Int.lt_or_le h 2 with k | k
  · have : h = 1 := by omega
    rw [this, Int.one_mul]
  · exfalso
    obtain ⟨q, α, β, a0, b0, s0, s1, q1, q2⟩ := in_triangle (A := sub e.1 o) (e := (x, y)) prim hhh k
    -- o + q is within
    have inn : ∀ z ∈ edges c, 0 < ori z.1 z.2 (o.1 + q.1, o.2 + q.2) := by
      intro z hz
      have k0 := ho z hz
      have ka := left z hz e.1 m1
      have kb := left z hz e.2 m2
      -- the point a step on
      have kc : 0 ≤ ori z.1 z.2 (e.1.1 + x, e.1.2 + y) := by
        have : ori z.1 z.2 (e.1.1 + x, e.1.2 + y) * (g : Int) = ori z.1 z.2 e.1 * ((g : Int) - 1) + ori z.1 z.2 e.2 := by
          have e1 : e.2.1 = e.1.1 + x * (g : Int) := by omega
          have e2 : e.2.2 = e.1.2 + y * (g : Int) := by omega
          unfold ori
          simp only
          rw [e1, e2]
          grind
        refine nonneg_of (y := (g : Int)) (by omega) ?_
        rw [this]
        have := Int.mul_nonneg ka (show 0 ≤ (g : Int) - 1 by omega)
        omega
      have lin : ori z.1 z.2 (o.1 + q.1, o.2 + q.2) * h = ori z.1 z.2 o * (h - α - β) + ori z.1 z.2 e.1 * α + ori z.1 z.2 (e.1.1 + x, e.1.2 + y) * β := by
        simp only [sub] at q1 q2
        unfold ori
        simp only
        grind
      refine pos_of h1 ?_
      rw [lin]
      have t1 := Int.mul_pos k0 (show 0 < h - α - β by omega)
      have t2 := Int.mul_nonneg ka a0
      have t3 := Int.mul_nonneg kc b0
      omega
    have mem := mem_inner hc inn
    rw [hi, List.mem_singleton] at mem
    have z1 : q.1 = 0 := by have := congrArg Prod.fst mem; simp only at this; omega
    have z2 : q.2 = 0 := by have := congrArg Prod.snd mem; simp only at this; omega
    rw [z1, Int.mul_zero] at q1
    rw [z2, Int.mul_zero] at q2
    -- then both numbers are 0
    simp only at q1 q2
    have c1 : (α + β) * h = 0 := by
      unfold cross at hhh
      simp only at hhh
      grind
    rcases Int.mul_eq_zero.1 c1 with t | t <;> omega
end Hl

set_option linter.all false
set_option maxHeartbeats 1000000
namespace Hl
open Sq68
/-- an edge's dual point -/
def nrm (x : Point × Point) : Point := ((sub x.2 x.1).2 / (steps (sub x.2 x.1) : Int), -((sub x.2 x.1).1 / (steps (sub x.2 x.1) : Int)))
theorem dual_eq {c : List Point} {o : Point} (h : innerPoints c = [o]) : dual c = (edges (c.map fun p => sub p o)).map nrm := by
  unfold dual
  rw [h]
  rfl
theorem edges_map (f : Point → Point) : ∀ c : List Point, edges (c.map f) = (edges c).map fun e => (f e.1, f e.2)
  | [] => rfl
  | p :: l => by
    show ((p :: l).map f).zip (l.map f ++ [f p]) = ((p :: l).zip (l ++ [p])).map _
    rw [show l.map f ++ [f p] = (l ++ [p]).map f by simp, List.zip_map]
    rfl
theorem edges_len (c : List Point) : (edges c).length = c.length := by
  have := congrArg List.length (edges_fst c)
  rw [List.length_map] at this
  exact this
/-- the dual's points are those of the edges, seen from o -/
theorem dual_map {c : List Point} {o : Point} (h : innerPoints c = [o]) : dual c = (edges c).map nrm := by
  rw [dual_eq h, edges_map, List.map_map]
  refine List.map_congr_left fun e _ => ?_
  have k : sub (sub e.2 o) (sub e.1 o) = sub e.2 e.1 := by
    unfold sub
    exact Prod.ext (by simp only; omega) (by simp only; omega)
  simp only [Function.comp, nrm, k]
/-- edges one behind the other hang together, also twice round -/
theorem chain_zip : ∀ (l : List Point) (p z : Point) (u v : List (Point × Point)) (x y : Point × Point), (p :: l).zip (l ++ [z]) = u ++ x :: y :: v → x.2 = y.1
  | [], p, z, u, v, x, y, h => by
    have := congrArg List.length h
    simp at this
    omega
  | q :: l, p, z, [], v, x, y, h => by
    simp only [List.cons_append, List.zip_cons_cons, List.nil_append, List.cons.injEq] at h
    obtain ⟨rfl, h⟩ := h
    cases l with
    | nil =>
      simp only [List.nil_append, List.zip_cons_cons, List.zip_nil_right, List.cons.injEq] at h
      rw [← h.1]
    | cons r l =>
      simp only [List.cons_append, List.zip_cons_cons, List.cons.injEq] at h
      rw [← h.1]
  | q :: l, p, z, w :: u, v, x, y, h => by
    simp only [List.cons_append, List.zip_cons_cons, List.cons.injEq] at h
    exact chain_zip l q z u v x y (by simpa using h.2)
theorem edges_twice (p : Point) (l : List Point) : edges (p :: l) ++ edges (p :: l) = (p :: (l ++ p :: l)).zip ((l ++ p :: l) ++ [p]) := by
  show (p :: l).zip (l ++ [p]) ++ (p :: l).zip (l ++ [p]) = _
  rw [← List.zip_append (by simp)]
  simp
theorem edges_chain {c : List Point} {u v : List (Point × Point)} {x y : Point × Point} (h : edges c ++ edges c = u ++ x :: y :: v) : x.2 = y.1 := by
  cases c with
  | nil => simp [edges] at h
  | cons p l =>
    rw [edges_twice] at h
    exact chain_zip _ _ _ u v x y h
theorem edges_pts2 (p : Point) (l : List Point) : (edges (p :: l) ++ edges (p :: l)).map (·.1) = (p :: l) ++ (p :: l) := by
  rw [List.map_append, edges_fst]
section
variable {q1 q2 r1 r2 xa xb ya yb za zb g k m : Int}
theorem un1 (h : (q1 - xa * g) * q2 - (q2 - xb * g) * q1 = g) : (q1 * xb - q2 * xa) * g = 1 * g := by grind
theorem un2 (h : q1 * (q2 + yb * k) - q2 * (q1 + ya * k) = k) : (q1 * yb - q2 * ya) * k = 1 * k := by grind
theorem un4 (h : q1 * yb - q2 * ya = 1) : (q1 + ya * k) * yb - (q2 + yb * k) * ya = 1 := by grind
theorem tw {x y : Int} (hx : x = xa * g + ya * k) (hy : y = xb * g + yb * k) : xa * g * y - xb * g * x = (xa * yb - xb * ya) * (g * k) := by
  rw [hx, hy]
  grind
theorem dw1 (u1 : q1 * xb - q2 * xa = 1) (u2 : q1 * yb - q2 * ya = 1) : yb - xb = (xa * yb - xb * ya) * -q2 := by grind
theorem dw2 (u1 : q1 * xb - q2 * xa = 1) (u2 : q1 * yb - q2 * ya = 1) : -ya - -xa = (xa * yb - xb * ya) * q1 := by grind
theorem fin1 {A B : Int} : A * -q2 * (B * r1 + A * q1) - A * q1 * (B * -r2 + A * -q2) = A * (B * (q1 * r2 - q2 * r1)) := by grind
end
/-- three edges one behind the other: their dual points turn left -/
theorem nrm_turn {x1 x2 y2 z2 o : Point} (ox : cross (sub x1 o) (sub x2 o) = (steps (sub x2 x1) : Nat)) (oy : cross (sub x2 o) (sub y2 o) = (steps (sub y2 x2) : Nat)) (oz : cross (sub y2 o) (sub z2 o) = (steps (sub z2 y2) : Nat))
    (px : 0 < steps (sub x2 x1)) (py : 0 < steps (sub y2 x2)) (pz : 0 < steps (sub z2 y2)) (t1 : 0 < ori x1 x2 y2) (t2 : 0 < ori x2 y2 z2) : 0 < ori (nrm (x1, x2)) (nrm (x2, y2)) (nrm (y2, z2)) := by
  obtain ⟨a1, a2⟩ := steps_div (sub x2 x1)
  obtain ⟨b1, b2⟩ := steps_div (sub y2 x2)
  obtain ⟨c1, c2⟩ := steps_div (sub z2 y2)
  unfold nrm
  simp only
  generalize (sub x2 x1).1 / (steps (sub x2 x1) : Int) = xa at *
  generalize (sub x2 x1).2 / (steps (sub x2 x1) : Int) = xb at *
  generalize (sub y2 x2).1 / (steps (sub y2 x2) : Int) = ya at *
  generalize (sub y2 x2).2 / (steps (sub y2 x2) : Int) = yb at *
  generalize (sub z2 y2).1 / (steps (sub z2 y2) : Int) = za at *
  generalize (sub z2 y2).2 / (steps (sub z2 y2) : Int) = zb at *
  generalize steps (sub x2 x1) = g at *
  generalize steps (sub y2 x2) = k at *
  generalize steps (sub z2 y2) = m at *
  have a1 : x2.1 - x1.1 = xa * g := a1
  have a2 : x2.2 - x1.2 = xb * g := a2
  have b1 : y2.1 - x2.1 = ya * k := b1
  have b2 : y2.2 - x2.2 = yb * k := b2
  have c1 : z2.1 - y2.1 = za * m := c1
  have c2 : z2.2 - y2.2 = zb * m := c2
  unfold cross sub at ox oy oz
  simp only at ox oy oz
  have p1 : x1.1 - o.1 = (x2.1 - o.1) - xa * g := by omega
  have p2 : x1.2 - o.2 = (x2.2 - o.2) - xb * g := by omega
  have p3 : y2.1 - o.1 = (x2.1 - o.1) + ya * k := by omega
  have p4 : y2.2 - o.2 = (x2.2 - o.2) + yb * k := by omega
  have p5 : z2.1 - o.1 = (y2.1 - o.1) + za * m := by omega
  have p6 : z2.2 - o.2 = (y2.2 - o.2) + zb * m := by omega
  rw [p1, p2] at ox
  rw [p5, p6] at oz
  have v3 : 0 < (x2.1 - o.1) * (y2.2 - o.2) - (x2.2 - o.2) * (y2.1 - o.1) := by omega
  have u3 : (y2.1 - o.1) * zb - (y2.2 - o.2) * za = 1 := Int.eq_of_mul_eq_mul_right (by omega) (un2 oz)
  have u1 : (x2.1 - o.1) * xb - (x2.2 - o.2) * xa = 1 := Int.eq_of_mul_eq_mul_right (by omega) (un1 ox)
  have u2 : (x2.1 - o.1) * yb - (x2.2 - o.2) * ya = 1 := by
    rw [p3, p4] at oy
    exact Int.eq_of_mul_eq_mul_right (by omega) (un2 oy)
  have u4 : (y2.1 - o.1) * yb - (y2.2 - o.2) * ya = 1 := by
    rw [p3, p4]
    exact un4 u2
  have v1 : 0 < xa * yb - xb * ya := by
    have e : ori x1 x2 y2 = (xa * yb - xb * ya) * ((g : Int) * (k : Int)) := by
      unfold ori
      rw [a1, a2]
      exact tw (by omega) (by omega)
    rw [e] at t1
    exact Int.pos_of_mul_pos_left t1 (Int.mul_pos (by omega) (by omega))
  have v2 : 0 < ya * zb - yb * za := by
    have e : ori x2 y2 z2 = (ya * zb - yb * za) * ((k : Int) * (m : Int)) := by
      unfold ori
      rw [b1, b2]
      exact tw (by omega) (by omega)
    rw [e] at t2
    exact Int.pos_of_mul_pos_left t2 (Int.mul_pos (by omega) (by omega))
  have fin : ori (xb, -xa) (yb, -ya) (zb, -za) = (xa * yb - xb * ya) * ((ya * zb - yb * za) * ((x2.1 - o.1) * (y2.2 - o.2) - (x2.2 - o.2) * (y2.1 - o.1))) := by
    have w1 := dw1 u1 u2
    have w2 := dw2 u1 u2
    have w3 := dw1 u4 u3
    have w4 := dw2 u4 u3
    unfold ori
    simp only
    have w5 : zb - xb = (zb - yb) + (yb - xb) := by omega
    have w6 : -za - -xa = (-za - -ya) + (-ya - -xa) := by omega
    rw [w5, w6, w1, w2, w3, w4]
    exact fin1
  rw [fin]
  exact Int.mul_pos v1 (Int.mul_pos v2 v3)
/-- **the dual** goes round as a polygon does -/
theorem dual_ct {c : List Point} {o : Point} (G : Good c) (hi : innerPoints c = [o]) : CT (dual c) ∧ (dual c).length = c.length := by
  refine ⟨?_, by rw [dual_map hi, List.length_map, edges_len]⟩
  have off := one_off G hi
  have ct := G.ct
  intro u a b d v h
  rw [dual_map hi, ← List.map_append] at h
  -- the three edges
  obtain ⟨e1, e2, he, hu, hr⟩ := List.map_eq_append_iff.1 h
  match e2, hr with
  | x :: y :: z :: e3, hr =>
    simp only [List.map_cons, List.cons.injEq] at hr
    obtain ⟨rfl, rfl, rfl, _⟩ := hr
    have mem : ∀ t ∈ e1 ++ x :: y :: z :: e3, t ∈ edges c := fun t ht => by
      rw [← he] at ht
      rcases List.mem_append.1 ht with k | k <;> exact k
    have mx := mem x (by simp)
    have my := mem y (by simp)
    have mz := mem z (by simp)
    have l1 : x.2 = y.1 := edges_chain he
    have l2 : y.2 = z.1 := edges_chain (u := e1 ++ [x]) (v := e3) (by rw [he]; simp)
    have hc : c ≠ [] := fun q => by rw [q] at mx; cases mx
    obtain ⟨p, l, ec⟩ : ∃ p l, c = p :: l := by
      cases c with
      | nil => exact absurd rfl hc
      | cons p l => exact ⟨p, l, rfl⟩
    have pp : c ++ c = (e1 ++ x :: y :: z :: e3).map (·.1) := by
      rw [← he, ec, edges_pts2]
    have t1 : 0 < ori x.1 x.2 y.2 := by
      have := ct (e1.map (·.1)) x.1 y.1 z.1 (e3.map (·.1)) (by rw [pp]; simp)
      rw [l1, l2]
      exact this
    have t2 : 0 < ori y.1 y.2 z.2 := by
      -- z.2 is the corner behind z.1
      cases e3 with
      | cons t e4 =>
        have l3 : z.2 = t.1 := edges_chain (u := e1 ++ [x, y]) (v := e4) (by rw [he]; simp)
        have := ct ((e1 ++ [x]).map (·.1)) y.1 z.1 t.1 (e4.map (·.1)) (by rw [pp]; simp)
        rw [l2, l3]
        exact this
      | nil =>
        -- z is the last edge: it goes back to the first corner
        have hl : z.2 = p := by
          have q1 : (edges c ++ edges c).map (·.2) = (l ++ [p]) ++ (l ++ [p]) := by rw [ec, List.map_append, edges_snd]
          rw [he] at q1
          have q2 := congrArg List.getLast? q1
          rw [show (e1 ++ [x, y, z]).map (·.2) = ((e1 ++ [x, y]).map (·.2)) ++ [z.2] by simp, show (l ++ [p]) ++ (l ++ [p]) = (l ++ [p] ++ l) ++ [p] by simp, List.getLast?_concat, List.getLast?_concat] at q2
          exact Option.some.inj q2
        -- y.1, z.1 are the last two corners
        have three := G.three
        have q3 : c ++ c = (e1 ++ [x]).map (·.1) ++ [y.1, z.1] := by rw [pp]; simp
        -- in c ++ c the last two corners of the first round are followed by p
        obtain ⟨w, hw⟩ : ∃ w, c = w ++ [y.1, z.1] := by
          have hlen : 2 ≤ c.length := by omega
          have e5 : c = c.take (c.length - 2) ++ c.drop (c.length - 2) := (List.take_append_drop _ _).symm
          have e6 : (c ++ c).drop (c.length + (c.length - 2)) = c.drop (c.length - 2) := by rw [List.drop_append, List.drop_eq_nil_of_le (by omega), List.nil_append]; congr 1; omega
          have e7 : (c ++ c).drop (c.length + (c.length - 2)) = [y.1, z.1] := by
            have hl2 := congrArg List.length q3
            rw [List.length_append, List.length_append] at hl2
            simp only [List.length_cons, List.length_nil] at hl2
            rw [q3, List.drop_append, List.drop_eq_nil_of_le (by omega), List.nil_append]
            rw [show c.length + (c.length - 2) - ((e1 ++ [x]).map (·.1)).length = 0 by omega]
            rfl
          exact ⟨c.take (c.length - 2), by rw [← e7, e6]; exact e5⟩
        have := ct w y.1 z.1 p l (by
          have : c ++ c = (w ++ [y.1, z.1]) ++ (p :: l) := by rw [← hw, ← ec]
          rw [this]; simp)
        rw [l2, hl]
        exact this
    have ps : ∀ t ∈ edges c, 0 < steps (sub t.2 t.1) := fun t ht => by
      have hpos : 0 < ori t.1 t.2 o := by
        have : o ∈ innerPoints c := by rw [hi]; simp
        exact where_two.1 (List.mem_filter.1 this).2 t ht
      have hD : cross (sub t.1 o) (sub t.2 o) = ori t.1 t.2 o := by unfold cross sub ori; grind
      have := off t ht
      omega
    obtain ⟨x1, x2⟩ := x
    obtain ⟨y1, y2⟩ := y
    obtain ⟨z1, z2⟩ := z
    simp only at l1 l2
    subst l1 l2
    exact nrm_turn (off _ mx) (off _ my) (off _ mz) (ps _ mx) (ps _ my) (ps _ mz) t1 t2
  | [], hr => simp at hr
  | [_], hr => simp at hr
  | [_, _], hr => simp at hr
end Hl

set_option linter.all false
set_option maxHeartbeats 1000000
namespace Hl
open Sq68
/-! ### how narrow, and in which directions -/
theorem across_ex {c : List Point} (hc : c ≠ []) (d : Point) : ∃ p ∈ c, ∃ q ∈ c, across c d = dot d p - dot d q ∧ (∀ z ∈ c, dot d z ≤ dot d p) ∧ ∀ z ∈ c, dot d q ≤ dot d z := by
  have hne : c.map (dot d) ≠ [] := fun z => by
    rw [List.map_eq_nil_iff] at z
    exact hc z
  cases hmn : (c.map (dot d)).min? with
  | none => exact absurd (List.min?_eq_none_iff.1 hmn) hne
  | some mn =>
    cases hmx : (c.map (dot d)).max? with
    | none => exact absurd (List.max?_eq_none_iff.1 hmx) hne
    | some mx =>
      obtain ⟨m1, l1⟩ := List.min?_eq_some_iff.1 hmn
      obtain ⟨m2, l2⟩ := List.max?_eq_some_iff.1 hmx
      obtain ⟨q, hq, rfl⟩ := List.mem_map.1 m1
      obtain ⟨p, hp, rfl⟩ := List.mem_map.1 m2
      refine ⟨p, hp, q, hq, ?_, fun z hz => l2 _ (List.mem_map.2 ⟨z, hz, rfl⟩), fun z hz => l1 _ (List.mem_map.2 ⟨z, hz, rfl⟩)⟩
      unfold across
      rw [hmn, hmx]
      rfl
theorem across_ge {c : List Point} (hc : c ≠ []) (d : Point) {p q : Point} (hp : p ∈ c) (hq : q ∈ c) : dot d p - dot d q ≤ across c d := by
  obtain ⟨a, _, b, _, e, h1, h2⟩ := across_ex hc d
  have := h1 p hp
  have := h2 q hq
  omega
def isDir (d : Point) : Prop := steps d = 1 ∧ (0 < d.1 ∨ (d.1 = 0 ∧ 0 < d.2))
def flip (d : Point) : Point := (-d.1, -d.2)
theorem dot_flip (d p : Point) : dot (flip d) p = - dot d p := by unfold dot flip; grind
theorem across_flip {c : List Point} (hc : c ≠ []) (d : Point) : across c (flip d) = across c d := by
  obtain ⟨a, ha, b, hb, e, h1, h2⟩ := across_ex hc d
  obtain ⟨a', ha', b', hb', e', h1', h2'⟩ := across_ex hc (flip d)
  have k1 := across_ge hc d hb' ha'
  have k2 := across_ge hc (flip d) hb ha
  rw [dot_flip, dot_flip] at *
  omega
/-- three bounds on two numbers bound what they make together -/
theorem hexagon {s t U V w B : Int} (h1 : -w ≤ s ∧ s ≤ w) (h2 : -w ≤ t ∧ t ≤ w) (h3 : -w ≤ s - t ∧ s - t ≤ w) (hU : -B ≤ U ∧ U ≤ B) (hV : -B ≤ V ∧ V ≤ B) (hW : -B ≤ V - U ∧ V - U ≤ B) : s * V - t * U ≤ B * w := by
  have hB : 0 ≤ B := by omega
  have hw : 0 ≤ w := by omega
  have mono : ∀ x y : Int, 0 ≤ x → y ≤ B → x * y ≤ B * x := fun x y hx hy => by
    have := Int.mul_le_mul_of_nonneg_left hy hx
    rw [Int.mul_comm B x]
    exact this
  have up : ∀ x : Int, x ≤ w → B * x ≤ B * w := fun x hx => Int.mul_le_mul_of_nonneg_left hx hB
  rcases Int.le_total 0 s with cs | cs <;> rcases Int.le_total 0 t with ct | ct
  · rcases Int.le_total t s with k | k
    · -- (s - t) V + t (V - U)
      have e : s * V - t * U = (s - t) * V + t * (V - U) := by grind
      have a1 := mono (s - t) V (by omega) hV.2
      have a2 := mono t (V - U) ct hW.2
      have a3 := up s h1.2
      have e2 : B * (s - t) + B * t = B * s := by grind
      omega
    · -- s (V - U) + (t - s) (-U)
      have e : s * V - t * U = s * (V - U) + (t - s) * -U := by grind
      have a1 := mono s (V - U) cs hW.2
      have a2 := mono (t - s) (-U) (by omega) (by omega)
      have a3 := up t h2.2
      have e2 : B * s + B * (t - s) = B * t := by grind
      omega
  · -- s V + (-t) U
    have e : s * V - t * U = s * V + -t * U := by grind
    have a1 := mono s V cs hV.2
    have a2 := mono (-t) U (by omega) hU.2
    have a3 := up (s - t) h3.2
    have e2 : B * s + B * -t = B * (s - t) := by grind
    omega
  · -- (-s) (-V) + t (-U)
    have e : s * V - t * U = -s * -V + t * -U := by grind
    have a1 := mono (-s) (-V) (by omega) (by omega)
    have a2 := mono t (-U) ct (by omega)
    have a3 := up (t - s) (by omega)
    have e2 : B * -s + B * t = B * (t - s) := by grind
    omega
  · rcases Int.le_total t s with k | k
    · -- -t ≥ -s: (-s) (U - V) + (s - t) U
      have e : s * V - t * U = -s * (U - V) + (s - t) * U := by grind
      have a1 := mono (-s) (U - V) (by omega) (by omega)
      have a2 := mono (s - t) U (by omega) hU.2
      have a3 := up (-t) (by omega)
      have e2 : B * -s + B * (s - t) = B * -t := by grind
      omega
    · have e : s * V - t * U = -t * (U - V) + (t - s) * -V := by grind
      have a1 := mono (-t) (U - V) (by omega) (by omega)
      have a2 := mono (t - s) (-V) (by omega) (by omega)
      have a3 := up (-s) (by omega)
      have e2 : B * -t + B * (t - s) = B * -s := by grind
      omega
theorem le_of_mul_le {x D B w : Int} (hD : 0 < D) (h : x * D ≤ B * w) (hw : w ≤ D) (hB : 0 ≤ B) : x ≤ B := by
  have : x * D ≤ B * D := Int.le_trans h (Int.mul_le_mul_of_nonneg_left hw hB)
  exact Int.le_of_mul_le_mul_right this hD
/-- a direction across which three corners lie near is no great one -/
theorem dir_small {c : List Point} (S : ∀ p ∈ c, Small p) (hc : c ≠ []) {a b p d : Point} (ha : a ∈ c) (hb : b ∈ c) (hp : p ∈ c) (hD : 0 < ori a b p) (hw : across c d ≤ ori a b p) : (-40 ≤ d.1 ∧ d.1 ≤ 40) ∧ -40 ≤ d.2 ∧ d.2 ≤ 40 := by
  have df : ∀ x y : Point, dot d x - dot d y = d.1 * (x.1 - y.1) + d.2 * (x.2 - y.2) := fun x y => by unfold dot; grind
  obtain ⟨⟨_, _⟩, _, _⟩ := S a ha
  obtain ⟨⟨_, _⟩, _, _⟩ := S b hb
  obtain ⟨⟨_, _⟩, _, _⟩ := S p hp
  have g1 := across_ge hc d hb ha
  have g2 := across_ge hc d ha hb
  have g3 := across_ge hc d hp ha
  have g4 := across_ge hc d ha hp
  have g5 := across_ge hc d hb hp
  have g6 := across_ge hc d hp hb
  generalize hs : dot d b - dot d a = s at *
  generalize ht : dot d p - dot d a = t at *
  generalize across c d = w at *
  have hs' : s = d.1 * (b.1 - a.1) + d.2 * (b.2 - a.2) := by rw [← hs]; exact df b a
  have ht' : t = d.1 * (p.1 - a.1) + d.2 * (p.2 - a.2) := by rw [← ht]; exact df p a
  have e1 : s * (p.2 - a.2) - t * (b.2 - a.2) = d.1 * ori a b p := by
    rw [hs', ht']
    unfold ori
    grind
  have e2 : t * (b.1 - a.1) - s * (p.1 - a.1) = d.2 * ori a b p := by
    rw [hs', ht']
    unfold ori
    grind
  have B1 := hexagon (s := s) (t := t) (U := b.2 - a.2) (V := p.2 - a.2) (w := w) (B := 40) ⟨by omega, by omega⟩ ⟨by omega, by omega⟩ ⟨by omega, by omega⟩ ⟨by omega, by omega⟩ ⟨by omega, by omega⟩ ⟨by omega, by omega⟩
  have B2 := hexagon (s := -s) (t := -t) (U := b.2 - a.2) (V := p.2 - a.2) (w := w) (B := 40) ⟨by omega, by omega⟩ ⟨by omega, by omega⟩ ⟨by omega, by omega⟩ ⟨by omega, by omega⟩ ⟨by omega, by omega⟩ ⟨by omega, by omega⟩
  have B3 := hexagon (s := t) (t := s) (U := p.1 - a.1) (V := b.1 - a.1) (w := w) (B := 40) ⟨by omega, by omega⟩ ⟨by omega, by omega⟩ ⟨by omega, by omega⟩ ⟨by omega, by omega⟩ ⟨by omega, by omega⟩ ⟨by omega, by omega⟩
  have B4 := hexagon (s := -t) (t := -s) (U := p.1 - a.1) (V := b.1 - a.1) (w := w) (B := 40) ⟨by omega, by omega⟩ ⟨by omega, by omega⟩ ⟨by omega, by omega⟩ ⟨by omega, by omega⟩ ⟨by omega, by omega⟩ ⟨by omega, by omega⟩
  have f2 : -s * (p.2 - a.2) - -t * (b.2 - a.2) = -d.1 * ori a b p := by
    have : -s * (p.2 - a.2) - -t * (b.2 - a.2) = -(s * (p.2 - a.2) - t * (b.2 - a.2)) := by grind
    rw [this, e1]
    grind
  have f4 : -t * (b.1 - a.1) - -s * (p.1 - a.1) = -d.2 * ori a b p := by
    have : -t * (b.1 - a.1) - -s * (p.1 - a.1) = -(t * (b.1 - a.1) - s * (p.1 - a.1)) := by grind
    rw [this, e2]
    grind
  rw [e1] at B1
  rw [f2] at B2
  rw [e2] at B3
  rw [f4] at B4
  have q1 := le_of_mul_le hD B1 hw (by decide)
  have q2 := le_of_mul_le hD B2 hw (by decide)
  have q3 := le_of_mul_le hD B3 hw (by decide)
  have q4 := le_of_mul_le hD B4 hw (by decide)
  exact ⟨⟨by omega, q1⟩, by omega, q3⟩
/-- some direction across which it is no wider than a triangle of its corners is great -/
theorem narrow {c : List Point} (G : Good c) : ∃ a ∈ c, ∃ b ∈ c, ∃ p ∈ c, ∃ n, 0 < ori a b p ∧ isDir n ∧ across c n ≤ ori a b p := by
  have hc : c ≠ [] := fun z => by
    have := G.three
    rw [z] at this
    simp at this
  obtain ⟨P, A, S, H⟩ := G.of
  obtain ⟨x, l, ec, lk⟩ := H.lk
  have three := G.three
  match l, ec, lk with
  | [], ec, _ => rw [ec] at three; simp at three
  | [_], ec, _ => rw [ec] at three; simp at three
  | b :: d :: l, ec, lk =>
    have E : Edge F P x b := lk.1
    have mx : x ∈ c := by rw [ec]; simp
    have mb : b ∈ c := by rw [ec]; simp
    have md : d ∈ c := by rw [ec]; simp
    have left : ∀ z ∈ c, 0 ≤ ori x b z := fun z hz => E.left z (H.sub z hz)
    have hd : 0 < ori x b d := G.ct [] x b d (l ++ c) (by rw [ec]; simp)
    have hg := steps_pos (ne_of_ori hd)
    have hdot : ∀ z : Point, dot (side (sub b x)) (sub z b) * (steps (sub b x) : Int) = ori x b z := fun z => side_dot
    have h0 : dot (side (sub b x)) b = dot (side (sub b x)) x := by
      have := hdot x
      rw [show ori x b x = 0 from ori_aab x b] at this
      have z : dot (side (sub b x)) (sub x b) = 0 := by
        rcases Int.mul_eq_zero.1 this with k | k
        · exact k
        · omega
      have e : dot (side (sub b x)) (sub x b) = dot (side (sub b x)) x - dot (side (sub b x)) b := by unfold dot sub; grind
      omega
    have low : ∀ z ∈ c, dot (side (sub b x)) b ≤ dot (side (sub b x)) z := fun z hz => by
      have h1 := hdot z
      have h2 := left z hz
      rw [← h1] at h2
      have h3 := nonneg_of (y := (steps (sub b x) : Int)) (by omega) h2
      have e : dot (side (sub b x)) (sub z b) = dot (side (sub b x)) z - dot (side (sub b x)) b := by unfold dot sub; grind
      omega
    obtain ⟨p, hp, q, hq, e, k1, k2⟩ := across_ex hc (side (sub b x))
    have qb : dot (side (sub b x)) q = dot (side (sub b x)) b := by
      have := low q hq
      have := k2 b mb
      omega
    have eac : across c (side (sub b x)) = dot (side (sub b x)) (sub p b) := by
      rw [e, qb]
      unfold dot sub
      grind
    have top : dot (side (sub b x)) (sub d b) ≤ dot (side (sub b x)) (sub p b) := by
      have := k1 d md
      have e1 : dot (side (sub b x)) (sub d b) = dot (side (sub b x)) d - dot (side (sub b x)) b := by unfold dot sub; grind
      have e2 : dot (side (sub b x)) (sub p b) = dot (side (sub b x)) p - dot (side (sub b x)) b := by unfold dot sub; grind
      omega
    have hpos := side_pos hd
    have hH : 0 < dot (side (sub b x)) (sub p b) := by omega
    have hor := hdot p
    have hge : dot (side (sub b x)) (sub p b) ≤ ori x b p := by
      rw [← hor]
      have := Int.mul_le_mul_of_nonneg_left (show (1 : Int) ≤ (steps (sub b x) : Int) by omega) (show 0 ≤ dot (side (sub b x)) (sub p b) by omega)
      omega
    -- the side is a step
    have st : steps (side (sub b x)) = 1 := by
      obtain ⟨d1, d2⟩ := steps_div (sub b x)
      generalize hgg : steps (sub b x) = g at *
      have h1 : steps (sub b x) = Nat.gcd ((sub b x).1 / (g : Int) * (g : Int)).natAbs ((sub b x).2 / (g : Int) * (g : Int)).natAbs := by
        unfold steps
        rw [← d1, ← d2]
      rw [hgg, Int.natAbs_mul, Int.natAbs_mul, Int.natAbs_natCast, Nat.gcd_mul_right] at h1
      have h2 : Nat.gcd ((sub b x).1 / (g : Int)).natAbs ((sub b x).2 / (g : Int)).natAbs * g = 1 * g := by omega
      have h3 := Nat.eq_of_mul_eq_mul_right hg h2
      show Nat.gcd (-((sub b x).2 / (steps (sub b x) : Int))).natAbs ((sub b x).1 / (steps (sub b x) : Int)).natAbs = 1
      rw [hgg, Int.natAbs_neg, Nat.gcd_comm]
      exact h3
    by_cases fw : 0 < (side (sub b x)).1 ∨ ((side (sub b x)).1 = 0 ∧ 0 < (side (sub b x)).2)
    · exact ⟨x, mx, b, mb, p, hp, side (sub b x), by omega, ⟨st, fw⟩, by omega⟩
    · refine ⟨x, mx, b, mb, p, hp, flip (side (sub b x)), by omega, ⟨?_, ?_⟩, by rw [across_flip hc]; omega⟩
      · unfold steps flip at *
        simp only [Int.natAbs_neg]
        exact st
      · have hne : ¬ ((side (sub b x)).1 = 0 ∧ (side (sub b x)).2 = 0) := fun z => by
          unfold steps at st
          rw [z.1, z.2] at st
          simp at st
        unfold flip
        simp only
        omega
theorem mem_directions {n : Nat} {d : Point} : d ∈ directions n ↔ ((-(n : Int) ≤ d.1 ∧ d.1 ≤ n) ∧ -(n : Int) ≤ d.2 ∧ d.2 ≤ n) ∧ isDir d := by
  unfold directions isDir
  rw [List.mem_filter, List.mem_flatMap]
  simp only [Bool.and_eq_true, Bool.or_eq_true, decide_eq_true_eq, beq_iff_eq]
  constructor
  · rintro ⟨⟨i, hi, hd⟩, h⟩
    obtain ⟨j, hj, rfl⟩ := List.mem_map.1 hd
    have := List.mem_range.1 hi
    have := List.mem_range.1 hj
    exact ⟨⟨⟨by simp only; omega, by simp only; omega⟩, by simp only; omega, by simp only; omega⟩, h⟩
  · rintro ⟨⟨⟨h1, h2⟩, h3, h4⟩, h⟩
    refine ⟨⟨(d.1 + n).toNat, List.mem_range.2 (by omega), List.mem_map.2 ⟨(d.2 + n).toNat, List.mem_range.2 (by omega), ?_⟩⟩, h⟩
    exact Prod.ext (by simp only; omega) (by simp only; omega)
def Lex (a b : Point) : Prop := a.1 < b.1 ∨ (a.1 = b.1 ∧ a.2 < b.2)
theorem directions_lex (n : Nat) : (directions n).Pairwise Lex := by
  unfold directions
  refine List.Pairwise.filter _ ?_
  rw [List.pairwise_flatMap]
  refine ⟨fun i _ => List.pairwise_map.2 ?_, ?_⟩
  · exact List.pairwise_lt_range.imp fun {a b} h => .inr ⟨rfl, by simp only; omega⟩
  · refine List.pairwise_lt_range.imp fun {a b} h x hx y hy => ?_
    obtain ⟨_, _, rfl⟩ := List.mem_map.1 hx
    obtain ⟨_, _, rfl⟩ := List.mem_map.1 hy
    exact .inl (by simp only; omega)
theorem width_snd (c : List Point) : (width c).2 = (directions (4 * PLACE)).filter fun d => across c d == (width c).1 := by
  unfold width
  simp only
  rw [List.filter_map, List.map_map]
  exact List.map_id _
theorem width_fst {c : List Point} {m : Int} (h1 : ∃ d ∈ directions (4 * PLACE), across c d = m) (h2 : ∀ d ∈ directions (4 * PLACE), m ≤ across c d) : (width c).1 = m := by
  unfold width
  simp only
  rw [List.map_map]
  refine min_of ?_ ?_
  · obtain ⟨d, hd, e⟩ := h1
    exact List.mem_map.2 ⟨d, hd, e⟩
  · intro x hx
    obtain ⟨d, hd, rfl⟩ := List.mem_map.1 hx
    exact h2 d hd
theorem least_of {f : Point → Int} : ∀ l : List Point, l ≠ [] → ∃ d ∈ l, ∀ e ∈ l, f d ≤ f e
  | [], h => absurd rfl h
  | [a], _ => ⟨a, by simp, fun e he => by rw [List.mem_singleton.1 he]; exact Int.le_refl _⟩
  | a :: b :: l, _ => by
    obtain ⟨d, hd, h⟩ := least_of (f := f) (b :: l) (by simp)
    by_cases k : f a ≤ f d
    · refine ⟨a, by simp, fun e he => ?_⟩
      rcases List.mem_cons.1 he with rfl | he
      · exact Int.le_refl _
      · have := h e he; omega
    · refine ⟨d, List.mem_cons_of_mem _ hd, fun e he => ?_⟩
      rcases List.mem_cons.1 he with rfl | he
      · omega
      · exact h e he
/-- **what the width is**: over all directions, and they are all told, in order -/
theorem width_ok {c : List Point} (G : Good c) : (∀ d, isDir d → (width c).1 ≤ across c d) ∧ (∀ d, d ∈ (width c).2 ↔ isDir d ∧ across c d = (width c).1) ∧ (width c).2.Pairwise Lex ∧ (width c).2 ≠ [] ∧
    ∀ d, isDir d → across c d = (width c).1 → (-40 ≤ d.1 ∧ d.1 ≤ 40) ∧ -40 ≤ d.2 ∧ d.2 ≤ 40 := by
  have hc : c ≠ [] := fun z => by
    have := G.three
    rw [z] at this
    simp at this
  obtain ⟨a, ha, b, hb, p, hp, n, hD, hn, hw⟩ := narrow G
  have small : ∀ d, across c d ≤ ori a b p → (-40 ≤ d.1 ∧ d.1 ≤ 40) ∧ -40 ≤ d.2 ∧ d.2 ≤ 40 := fun d hd => dir_small G.small hc ha hb hp hD hd
  have near : ∀ d, isDir d → across c d ≤ ori a b p → d ∈ directions (4 * PLACE) := fun d hd hl => by
    obtain ⟨⟨_, _⟩, _, _⟩ := small d hl
    refine mem_directions.2 ⟨⟨⟨?_, ?_⟩, ?_, ?_⟩, hd⟩ <;> (show _ ≤ _; unfold PLACE; omega)
  have mn := near n hn hw
  obtain ⟨m, hm, least⟩ := least_of (f := across c) (directions (4 * PLACE)) (List.ne_nil_of_mem mn)
  have e1 : (width c).1 = across c m := width_fst ⟨m, hm, rfl⟩ least
  have mw : across c m ≤ ori a b p := Int.le_trans (least n mn) hw
  have all : ∀ d, isDir d → across c m ≤ across c d := fun d hd => by
    rcases Int.lt_or_le (ori a b p) (across c d) with k | k
    · omega
    · exact least d (near d hd k)
  refine ⟨fun d hd => by rw [e1]; exact all d hd, fun d => ?_, ?_, ?_, fun d hd he => small d (by rw [he, e1]; exact mw)⟩
  · rw [width_snd, List.mem_filter, beq_iff_eq, e1]
    constructor
    · rintro ⟨h1, h2⟩
      exact ⟨(mem_directions.1 h1).2, h2⟩
    · rintro ⟨h1, h2⟩
      exact ⟨near d h1 (by rw [h2]; exact mw), h2⟩
  · rw [width_snd]
    exact (directions_lex _).filter _
  · intro z
    have : m ∈ (width c).2 := by
      rw [width_snd, List.mem_filter, beq_iff_eq, e1]
      exact ⟨hm, rfl⟩
    rw [z] at this
    cases this
theorem lex_unique : ∀ {P Q : List Point}, P.Pairwise Lex → Q.Pairwise Lex → (∀ x, x ∈ P ↔ x ∈ Q) → P = Q
  | [], [], _, _, _ => rfl
  | [], y :: Q, _, _, h => by have := (h y).2 (by simp); cases this
  | x :: P, [], _, _, h => by have := (h x).1 (by simp); cases this
  | x :: P, y :: Q, A, B, h => by
    have A' := List.pairwise_cons.1 A
    have B' := List.pairwise_cons.1 B
    have no : ∀ a b : Point, Lex a b → Lex b a → False := fun a b h1 h2 => by unfold Lex at *; omega
    have e : x = y := by
      rcases List.mem_cons.1 ((h x).1 (by simp)) with q | q
      · exact q
      · rcases List.mem_cons.1 ((h y).2 (by simp)) with r | r
        · exact r.symm
        · exact (no _ _ (B'.1 x q) (A'.1 y r)).elim
    subst e
    refine congrArg _ (lex_unique A'.2 B'.2 fun z => ?_)
    constructor
    · intro hz
      rcases List.mem_cons.1 ((h z).1 (List.mem_cons_of_mem _ hz)) with q | q
      · subst q; exact (no _ _ (A'.1 z hz) (A'.1 z hz)).elim
      · exact q
    · intro hz
      rcases List.mem_cons.1 ((h z).2 (List.mem_cons_of_mem _ hz)) with q | q
      · subst q; exact (no _ _ (B'.1 z hz) (B'.1 z hz)).elim
      · exact q
end Hl

set_option linter.all false
set_option maxHeartbeats 1000000
namespace Hl
open Sq68
/-! ### the first of rows -/
theorem before_lex {a b : Point} : before a b = true ↔ Lex a b := by
  unfold before Lex
  simp only [Bool.or_eq_true, decide_eq_true_eq, Bool.and_eq_true, beq_iff_eq]
theorem firstOf_cons (a b : Point) (l m : List Point) : firstOf (a :: l) (b :: m) = true ↔ Lex a b ∨ (a = b ∧ firstOf l m = true) := by
  show (before a b || (a == b && firstOf l m)) = true ↔ _
  simp only [Bool.or_eq_true, Bool.and_eq_true, beq_iff_eq, before_lex]
theorem firstOf_irr : ∀ l : List Point, firstOf l l = false
  | [] => rfl
  | a :: l => by
    cases h : firstOf (a :: l) (a :: l) with
    | false => rfl
    | true =>
      rcases (firstOf_cons a a l l).1 h with k | k
      · unfold Lex at k; omega
      · rw [firstOf_irr l] at k; cases k.2
theorem firstOf_trans : ∀ {l m n : List Point}, firstOf l m = true → firstOf m n = true → firstOf l n = true
  | [], _, _, h, _ => by cases h
  | _ :: _, [], _, h, _ => by cases h
  | _ :: _, _ :: _, [], _, h => by cases h
  | a :: l, b :: m, c :: n, h1, h2 => by
    rw [firstOf_cons] at *
    rcases h1 with h1 | ⟨e1, h1⟩ <;> rcases h2 with h2 | ⟨e2, h2⟩
    · left; unfold Lex at *; omega
    · left; rw [← e2]; exact h1
    · left; rw [e1]; exact h2
    · right; exact ⟨e1.trans e2, firstOf_trans h1 h2⟩
theorem firstOf_tri : ∀ {l m : List Point}, l.length = m.length → firstOf l m = true ∨ l = m ∨ firstOf m l = true
  | [], [], _ => .inr (.inl rfl)
  | [], _ :: _, h => by simp at h
  | _ :: _, [], h => by simp at h
  | a :: l, b :: m, h => by
    have ih := firstOf_tri (l := l) (m := m) (by simpa using h)
    rw [firstOf_cons, firstOf_cons]
    by_cases e : a = b
    · subst e
      rcases ih with k | k | k
      · exact .inl (.inr ⟨rfl, k⟩)
      · exact .inr (.inl (by rw [k]))
      · exact .inr (.inr (.inr ⟨rfl, k⟩))
    · have : Lex a b ∨ Lex b a := by
        unfold Lex
        have : ¬ (a.1 = b.1 ∧ a.2 = b.2) := fun z => e (Prod.ext z.1 z.2)
        omega
      rcases this with k | k
      · exact .inl (.inl k)
      · exact .inr (.inr (.inl k))
/-- the first of some rows, one after the other -/
def firstRow (rows : List (List Point)) : Option (List Point) := rows.foldl (fun (m : Option (List Point)) d => match m with
  | none => some d
  | some e => if firstOf d e = true then some d else some e) none
theorem form_eq (c : List Point) : form c = (firstRow ((turns c ++ turns (mirrored c)).map laid)).getD [] := rfl
theorem first_aux (n : Nat) : ∀ (rows : List (List Point)) (e : List Point), e.length = n → (∀ r ∈ rows, r.length = n) →
    ∃ f, rows.foldl (fun (m : Option (List Point)) d => match m with
      | none => some d
      | some e => if firstOf d e = true then some d else some e) (some e) = some f ∧ f ∈ e :: rows ∧ ∀ r ∈ e :: rows, firstOf r f = false
  | [], e, _, _ => ⟨e, rfl, by simp, fun r hr => by rw [List.mem_singleton.1 hr]; exact firstOf_irr e⟩
  | d :: rows, e, he, hr => by
    have hd := hr d (by simp)
    have hr' : ∀ r ∈ rows, r.length = n := fun r h => hr r (List.mem_cons_of_mem _ h)
    have no : ∀ {x y f : List Point}, x.length = n → y.length = n → f.length = n → firstOf x y = false → firstOf y f = false → firstOf x f = false := by
      intro x y f hx hy hf h1 h2
      cases k : firstOf x f with
      | false => rfl
      | true =>
        rcases firstOf_tri (l := x) (m := y) (by omega) with q | q | q
        · rw [q] at h1; cases h1
        · rw [q] at k; rw [k] at h2; cases h2
        · rw [firstOf_trans q k] at h2; cases h2
    show ∃ f, rows.foldl _ (if firstOf d e = true then some d else some e) = some f ∧ _
    by_cases c : firstOf d e = true
    · rw [if_pos c]
      obtain ⟨f, h1, h2, h3⟩ := first_aux n rows d hd hr'
      refine ⟨f, h1, ?_, fun r hrr => ?_⟩
      · rcases List.mem_cons.1 h2 with k | k
        · rw [k]; simp
        · simp [k]
      · have lf : f.length = n := by
          rcases List.mem_cons.1 h2 with k | k
          · rw [k]; exact hd
          · exact hr' f k
        rcases List.mem_cons.1 hrr with k | k
        · subst k
          have ed : firstOf r d = false := by
            cases q : firstOf r d with
            | false => rfl
            | true =>
              have := firstOf_trans c q
              rw [firstOf_irr] at this
              cases this
          exact no he hd lf ed (h3 d (by simp))
        · rcases List.mem_cons.1 k with k | k
          · rw [k]; exact h3 d (by simp)
          · exact h3 r (List.mem_cons_of_mem _ k)
    · rw [if_neg c]
      obtain ⟨f, h1, h2, h3⟩ := first_aux n rows e he hr'
      refine ⟨f, h1, ?_, fun r hrr => ?_⟩
      · rcases List.mem_cons.1 h2 with k | k
        · rw [k]; simp
        · simp [k]
      · have lf : f.length = n := by
          rcases List.mem_cons.1 h2 with k | k
          · rw [k]; exact he
          · exact hr' f k
        rcases List.mem_cons.1 hrr with k | k
        · rw [k]; exact h3 e (by simp)
        · rcases List.mem_cons.1 k with k | k
          · subst k
            exact no hd he lf (by simpa using c) (h3 e (by simp))
          · exact h3 r (List.mem_cons_of_mem _ k)
theorem laid_len : ∀ c : List Point, (laid c).length = c.length
  | [] => rfl
  | [_] => rfl
  | [_, _] => rfl
  | a :: b :: d :: l => by rw [laid_by]; unfold laidBy; rw [List.length_map]
theorem rows_len {c : List Point} : ∀ r ∈ (turns c ++ turns (mirrored c)).map laid, r.length = c.length := by
  intro r hr
  obtain ⟨t, ht, rfl⟩ := List.mem_map.1 hr
  rw [laid_len]
  rcases List.mem_append.1 ht with k | k
  · obtain ⟨i, _, rfl⟩ := turns_mem k
    exact turn_len i
  · obtain ⟨i, _, rfl⟩ := turns_mem k
    rw [turn_len, mirrored_len]
/-- **the form** is the one row that none is ahead of -/
theorem form_ok {c : List Point} (hc : c ≠ []) : form c ∈ (turns c ++ turns (mirrored c)).map laid ∧ ∀ r ∈ (turns c ++ turns (mirrored c)).map laid, firstOf r (form c) = false := by
  have hl := rows_len (c := c)
  have hne : turns c ≠ [] := fun z => by
    have := congrArg List.length z
    unfold turns at this
    rw [List.length_map, List.length_range] at this
    exact hc (List.length_eq_zero_iff.1 this)
  rw [form_eq]
  generalize hrows : (turns c ++ turns (mirrored c)).map laid = rows at *
  cases rows with
  | nil =>
    rw [List.map_eq_nil_iff, List.append_eq_nil_iff] at hrows
    exact absurd hrows.1 hne
  | cons e rows =>
    obtain ⟨f, h1, h2, h3⟩ := first_aux c.length rows e (hl e (by simp)) fun r hr => hl r (List.mem_cons_of_mem _ hr)
    have : firstRow (e :: rows) = some f := h1
    rw [this]
    exact ⟨h2, h3⟩
theorem form_unique {c r : List Point} (hc : c ≠ []) (h1 : r ∈ (turns c ++ turns (mirrored c)).map laid) (h2 : ∀ q ∈ (turns c ++ turns (mirrored c)).map laid, firstOf q r = false) : r = form c := by
  obtain ⟨f1, f2⟩ := form_ok hc
  rcases firstOf_tri (l := r) (m := form c) (by rw [rows_len _ h1, rows_len _ f1]) with k | k | k
  · rw [f2 r h1] at k; cases k
  · exact k
  · rw [h2 _ f1] at k; cases k
theorem form_len {c : List Point} (hc : c ≠ []) : (form c).length = c.length := rows_len _ (form_ok hc).1
end Hl

set_option linter.all false
set_option maxHeartbeats 1000000
namespace Hl
open Sq68
/-! ### area, edge and points within: one within just if twice the area is the edge -/
theorem gcd_par (x y : Int) : ∃ m : Int, (Nat.gcd x.natAbs y.natAbs : Int) = x * y + x + y + 2 * m := by
  have d : ∀ n : Nat, n ∣ Nat.gcd x.natAbs y.natAbs ↔ n ∣ x.natAbs ∧ n ∣ y.natAbs := fun n => Nat.dvd_gcd_iff
  have d2 := d 2
  generalize Nat.gcd x.natAbs y.natAbs = g at *
  have ex : x % 2 = 0 ∨ x % 2 = 1 := by omega
  have ey : y % 2 = 0 ∨ y % 2 = 1 := by omega
  obtain ⟨a, ha⟩ : ∃ a, a = x / 2 := ⟨_, rfl⟩
  obtain ⟨b, hb⟩ : ∃ b, b = y / 2 := ⟨_, rfl⟩
  rcases ex with ex | ex <;> rcases ey with ey | ey
  · have xa : x = 2 * a := by omega
    have yb : y = 2 * b := by omega
    have : g % 2 = 0 := by omega
    have e : x * y = 2 * (a * y) := by rw [xa]; grind
    exact ⟨(g : Int) / 2 - a * y - a - b, by rw [e]; omega⟩
  · have xa : x = 2 * a := by omega
    have yb : y = 2 * b + 1 := by omega
    have : g % 2 = 1 := by omega
    have e : x * y = 2 * (a * y) := by rw [xa]; grind
    exact ⟨(g : Int) / 2 - a * y - a - b, by rw [e]; omega⟩
  · have xa : x = 2 * a + 1 := by omega
    have yb : y = 2 * b := by omega
    have : g % 2 = 1 := by omega
    have e : x * y = 2 * (x * b) := by rw [yb]; grind
    exact ⟨(g : Int) / 2 - x * b - a - b, by rw [e]; omega⟩
  · have xa : x = 2 * a + 1 := by omega
    have yb : y = 2 * b + 1 := by omega
    have : g % 2 = 1 := by omega
    have e : x * y = 2 * (a * y) + y := by rw [xa]; grind
    exact ⟨(g : Int) / 2 - a * y - a - 2 * b - 1, by rw [e]; omega⟩
def phi (p : Point) : Int := p.1 * p.2 + p.1 + p.2
theorem term_par (a b : Point) : ∃ m : Int, cross a b + (steps (sub b a) : Int) = phi b - phi a + 2 * m := by
  obtain ⟨m, h⟩ := gcd_par (sub b a).1 (sub b a).2
  refine ⟨a.1 * a.2 - a.2 * b.1 + m, ?_⟩
  unfold steps
  rw [h]
  unfold cross phi sub
  grind
theorem chain_par : ∀ (l : List Point) (p z : Point), ∃ m : Int, (((p :: l).zip (l ++ [z])).map fun e => cross e.1 e.2).sum + ((((p :: l).zip (l ++ [z])).map fun e => steps (sub e.2 e.1)).sum : Nat) = phi z - phi p + 2 * m
  | [], p, z => by
    obtain ⟨m, h⟩ := term_par p z
    refine ⟨m, ?_⟩
    simp only [List.nil_append, List.zip_cons_cons, List.zip_nil_right, List.map_cons, List.map_nil, List.sum_cons, List.sum_nil]
    omega
  | q :: l, p, z => by
    obtain ⟨m, h⟩ := term_par p q
    obtain ⟨k, ih⟩ := chain_par l q z
    refine ⟨m + k, ?_⟩
    simp only [List.cons_append, List.zip_cons_cons, List.map_cons, List.sum_cons] at *
    omega
theorem parity {c : List Point} : ∃ m : Int, twice c + (edge c : Int) = 2 * m := by
  cases c with
  | nil => exact ⟨0, rfl⟩
  | cons p l =>
    obtain ⟨m, h⟩ := chain_par l p p
    refine ⟨m, ?_⟩
    unfold twice edge
    show (((p :: l).zip (l ++ [p])).map fun e => cross e.1 e.2).sum + ((((p :: l).zip (l ++ [p])).map fun e => steps (sub e.2 e.1)).sum : Nat) = _
    omega
theorem inner_one {c : List Point} : inner c = 1 ↔ twice c = (edge c : Int) := by
  obtain ⟨m, h⟩ := parity (c := c)
  unfold inner
  omega
/-! ### triangles with none within -/
/-- a point by three others -/
theorem bary (x y a b d q : Point) : ori x y q * ori a b d = ori x y a * ori b d q + ori x y b * ori d a q + ori x y d * ori a b q := by
  unfold ori; grind
theorem ori_sum (a b d q : Point) : ori a b q + ori b d q + ori d a q = ori a b d := by unfold ori; grind
def Void (a b d : Point) : Prop := ∀ q, 0 < ori a b q → 0 < ori b d q → 0 < ori d a q → False
theorem Void.cyc {a b d : Point} (h : Void a b d) : Void b d a := fun q h1 h2 h3 => h q h3 h1 h2
theorem steps_comm (a b : Point) : steps (sub a b) = steps (sub b a) := by
  unfold steps sub
  simp only
  rw [show a.1 - b.1 = -(b.1 - a.1) by omega, show a.2 - b.2 = -(b.2 - a.2) by omega, Int.natAbs_neg, Int.natAbs_neg]
/-- a step on from a to b -/
def on (a b : Point) : Point := (a.1 + (sub b a).1 / (steps (sub b a) : Int), a.2 + (sub b a).2 / (steps (sub b a) : Int))
/-- what b is, by its steps -/
theorem on_eq (a b : Point) : b.1 - a.1 = ((on a b).1 - a.1) * (steps (sub b a) : Int) ∧ b.2 - a.2 = ((on a b).2 - a.2) * (steps (sub b a) : Int) := by
  obtain ⟨h1, h2⟩ := steps_div (sub b a)
  unfold on
  simp only
  generalize (steps (sub b a) : Int) = g at *
  refine ⟨?_, ?_⟩
  · rw [show a.1 + (sub b a).1 / g - a.1 = (sub b a).1 / g by omega, ← h1]
    rfl
  · rw [show a.2 + (sub b a).2 / g - a.2 = (sub b a).2 / g by omega, ← h2]
    rfl
theorem on_ori (a b x y : Point) : ori x y (on a b) * (steps (sub b a) : Int) = ori x y a * ((steps (sub b a) : Int) - 1) + ori x y b := by
  obtain ⟨h1, h2⟩ := on_eq a b
  generalize (steps (sub b a) : Int) = g at *
  generalize on a b = m at *
  unfold ori
  have e1 : b.1 = a.1 + (m.1 - a.1) * g := by omega
  have e2 : b.2 = a.2 + (m.2 - a.2) * g := by omega
  rw [e1, e2]
  grind
theorem gcd_scale {x y : Int} {g : Nat} (hg : 0 < g) (h : Nat.gcd (x * (g : Int)).natAbs (y * (g : Int)).natAbs = g) : Nat.gcd x.natAbs y.natAbs = 1 := by
  rw [Int.natAbs_mul, Int.natAbs_mul, Int.natAbs_natCast, Nat.gcd_mul_right] at h
  have : Nat.gcd x.natAbs y.natAbs * g = 1 * g := by omega
  exact Nat.eq_of_mul_eq_mul_right hg this
theorem on_steps {a b : Point} (h : 0 < steps (sub b a)) : steps (sub (on a b) a) = 1 ∧ steps (sub b (on a b)) = steps (sub b a) - 1 := by
  obtain ⟨h1, h2⟩ := on_eq a b
  have e : Nat.gcd (b.1 - a.1).natAbs (b.2 - a.2).natAbs = steps (sub b a) := rfl
  generalize steps (sub b a) = g at *
  generalize on a b = m at *
  have pr : Nat.gcd (m.1 - a.1).natAbs (m.2 - a.2).natAbs = 1 := gcd_scale h (by rw [← h1, ← h2]; exact e)
  refine ⟨pr, ?_⟩
  unfold steps sub
  simp only
  have e1 : b.1 - m.1 = (m.1 - a.1) * ((g - 1 : Nat) : Int) := by
    rw [show ((g - 1 : Nat) : Int) = (g : Int) - 1 by omega, Int.mul_sub]
    omega
  have e2 : b.2 - m.2 = (m.2 - a.2) * ((g - 1 : Nat) : Int) := by
    rw [show ((g - 1 : Nat) : Int) = (g : Int) - 1 by omega, Int.mul_sub]
    omega
  rw [e1, e2, Int.natAbs_mul, Int.natAbs_mul, Int.natAbs_natCast, Nat.gcd_mul_right, pr, Nat.one_mul]
theorem steps_of_ori {a b d : Point} (h : 0 < ori a b d) : 0 < steps (sub b a) ∧ 0 < steps (sub d b) ∧ 0 < steps (sub a d) :=
  ⟨steps_pos (ne_of_ori h), steps_pos (ne_of_ori (by rw [ori_cyc]; exact h)), steps_pos (ne_of_ori (by rw [← ori_cyc]; exact h))⟩
theorem tri_side {a b d : Point} (hD : 0 < ori a b d) (hv : Void a b d) (hg : 2 ≤ steps (sub b a))
    (ih : ∀ a' b' d' : Point, 0 < ori a' b' d' → ori a' b' d' < ori a b d → Void a' b' d' → ori a' b' d' + 2 ≤ (steps (sub b' a') : Int) + (steps (sub d' b') : Int) + (steps (sub a' d') : Int)) :
    ori a b d + 2 ≤ (steps (sub b a) : Int) + (steps (sub d b) : Int) + (steps (sub a d) : Int) := by
  obtain ⟨sm1, sm2⟩ := on_steps (a := a) (b := b) (by omega)
  have o1 := on_ori a b d a
  have o2 := on_ori a b b d
  have o3 := on_ori a b a b
  generalize hm : on a b = m at *
  generalize hgg : steps (sub b a) = g at *
  have gi : (2 : Int) ≤ (g : Int) := by omega
  rw [show ori d a a = 0 by unfold ori; grind, Int.zero_mul, Int.zero_add, show ori d a b = ori a b d by unfold ori; grind] at o1
  rw [show ori b d a = ori a b d by unfold ori; grind, show ori b d b = 0 by unfold ori; grind, Int.add_zero] at o2
  rw [show ori a b a = 0 by unfold ori; grind, show ori a b b = 0 by unfold ori; grind, Int.zero_mul, Int.zero_add] at o3
  have z3 : ori a b m = 0 := by
    rcases Int.mul_eq_zero.1 o3 with z | z <;> omega
  have p1 : 0 < ori d a m := pos_of (y := (g : Int)) (by omega) (by rw [o1]; exact hD)
  have p2 : 0 < ori b d m := pos_of (y := (g : Int)) (by omega) (by rw [o2]; exact Int.mul_pos hD (by omega))
  have sm := ori_sum a b d m
  have q1 : ori a m d = ori d a m := by unfold ori; grind
  have q2 : ori m b d = ori b d m := by unfold ori; grind
  -- the middle line has no point within
  have smd : steps (sub d m) = 1 := by
    have hpos : 0 < steps (sub d m) := steps_pos (ne_of_ori (a := m) (b := d) (d := a) (by rw [show ori m d a = ori d a m by unfold ori; grind]; exact p1))
    rcases Nat.lt_or_ge (steps (sub d m)) 2 with k | k
    · omega
    · exfalso
      have k1 := on_ori m d a b
      have k2 := on_ori m d b d
      have k3 := on_ori m d d a
      rw [z3, Int.zero_mul, Int.zero_add] at k1
      rw [show ori b d d = 0 by unfold ori; grind, Int.add_zero] at k2
      rw [show ori d a d = 0 by unfold ori; grind, Int.add_zero] at k3
      generalize steps (sub d m) = n at *
      refine hv (on m d) (pos_of (y := (n : Int)) (by omega) (by rw [k1]; exact hD)) (pos_of (y := (n : Int)) (by omega) (by rw [k2]; exact Int.mul_pos p2 (by omega))) (pos_of (y := (n : Int)) (by omega) (by rw [k3]; exact Int.mul_pos p1 (by omega)))
  have smd' : steps (sub m d) = 1 := by rw [steps_comm]; exact smd
  have v1 : Void a m d := fun q h1 h2 h3 => by
    have hD1 : 0 < ori a m d := by omega
    refine hv q ?_ ?_ h3
    · refine pos_of hD1 ?_
      rw [bary a b a m d q, z3, show ori a b a = 0 by unfold ori; grind]
      have := Int.mul_pos hD h1
      omega
    · refine pos_of hD1 ?_
      rw [bary b d a m d q, show ori b d d = 0 by unfold ori; grind, show ori b d a = ori a b d by unfold ori; grind]
      have t1 := Int.mul_pos hD h2
      have t2 := Int.mul_pos p2 h3
      omega
  have v2 : Void m b d := fun q h1 h2 h3 => by
    have hD2 : 0 < ori m b d := by omega
    refine hv q ?_ h2 ?_
    · refine pos_of hD2 ?_
      rw [bary a b m b d q, z3, show ori a b b = 0 by unfold ori; grind]
      have := Int.mul_pos hD h1
      omega
    · refine pos_of hD2 ?_
      rw [bary d a m b d q, show ori d a d = 0 by unfold ori; grind, show ori d a b = ori a b d by unfold ori; grind]
      have t1 := Int.mul_pos p1 h2
      have t2 := Int.mul_pos hD h3
      omega
  have i1 := ih a m d (by omega) (by omega) v1
  have i2 := ih m b d (by omega) (by omega) v2
  rw [sm1, smd] at i1
  rw [sm2, smd'] at i2
  omega
theorem prim_dvd {A : Point} {h α q1 q2 : Int} (hp : steps A = 1) (e1 : h * q1 = α * A.1) (e2 : h * q2 = α * A.2) : h ∣ α := by
  have bz := bezout_ok (A.2.natAbs + 1) A.1 A.2 (by omega)
  rw [show Nat.gcd A.1.natAbs A.2.natAbs = 1 from hp] at bz
  generalize bezout (A.2.natAbs + 1) A.1 A.2 = z at *
  have bz' : z.1 * A.1 + z.2 * A.2 = 1 := by simpa using bz
  refine ⟨z.1 * q1 + z.2 * q2, ?_⟩
  grind
theorem tri_prim {a b d : Point} (hD : 0 < ori a b d) (hv : Void a b d) (s1 : steps (sub b a) = 1) (s2 : steps (sub d b) = 1) (s3 : steps (sub a d) = 1) : ori a b d = 1 := by
  rcases Int.lt_or_le (ori a b d) 2 with k | k
  · omega
  · exfalso
    have hc : cross (sub b a) (sub d b) = ori a b d := by unfold cross sub ori; grind
    obtain ⟨q, α, β, a0, b0, t0, t1, e1, e2⟩ := in_triangle (A := sub b a) (e := sub d b) s2 hc k
    generalize hh : ori a b d = h at *
    have r1 : ori a b (a.1 + q.1, a.2 + q.2) * h = β * h := by
      have : ori a b (a.1 + q.1, a.2 + q.2) * h = (sub b a).1 * (h * q.2) - (sub b a).2 * (h * q.1) := by unfold ori sub; grind
      rw [this, e1, e2, ← hc]
      unfold cross
      grind
    have r2 : ori d a (a.1 + q.1, a.2 + q.2) * h = α * h := by
      have : ori d a (a.1 + q.1, a.2 + q.2) * h = (a.1 - d.1) * (h * q.2) - (a.2 - d.2) * (h * q.1) := by unfold ori; grind
      rw [this, e1, e2, ← hc]
      unfold cross sub
      grind
    have r1' := Int.eq_of_mul_eq_mul_right (by omega) r1
    have r2' := Int.eq_of_mul_eq_mul_right (by omega) r2
    have r3 := ori_sum a b d (a.1 + q.1, a.2 + q.2)
    have apos : 0 < α := by
      rcases Int.lt_or_le 0 α with z | z
      · exact z
      · exfalso
        have : α = 0 := by omega
        subst this
        have dv : h ∣ β := prim_dvd (A := sub d a) (q1 := q.1) (q2 := q.2) (by rw [steps_comm]; exact s3) (by rw [e1]; unfold sub; grind) (by rw [e2]; unfold sub; grind)
        have := Int.le_of_dvd (by omega) dv
        omega
    have bpos : 0 < β := by
      rcases Int.lt_or_le 0 β with z | z
      · exact z
      · exfalso
        have : β = 0 := by omega
        subst this
        have dv : h ∣ α := prim_dvd (A := sub b a) (q1 := q.1) (q2 := q.2) s1 (by rw [e1]; grind) (by rw [e2]; grind)
        have := Int.le_of_dvd (by omega) dv
        omega
    exact hv (a.1 + q.1, a.2 + q.2) (by omega) (by omega) (by omega)
theorem tri_aux : ∀ (n : Nat) (a b d : Point), 0 < ori a b d → ori a b d ≤ (n : Int) → Void a b d → ori a b d + 2 ≤ (steps (sub b a) : Int) + (steps (sub d b) : Int) + (steps (sub a d) : Int)
  | 0, a, b, d, h, h', _ => by omega
  | n + 1, a, b, d, h, h', hv => by
    have ih : ∀ a' b' d' : Point, 0 < ori a' b' d' → ori a' b' d' < ori a b d → Void a' b' d' → ori a' b' d' + 2 ≤ (steps (sub b' a') : Int) + (steps (sub d' b') : Int) + (steps (sub a' d') : Int) :=
      fun a' b' d' k1 k2 k3 => tri_aux n a' b' d' k1 (by omega) k3
    have c1 : ori b d a = ori a b d := ori_cyc a b d
    have c2 : ori d a b = ori a b d := by rw [← ori_cyc d a b]
    obtain ⟨g1, g2, g3⟩ := steps_of_ori h
    by_cases k1 : 2 ≤ steps (sub b a)
    · exact tri_side h hv k1 ih
    · by_cases k2 : 2 ≤ steps (sub d b)
      · have := tri_side (a := b) (b := d) (d := a) (by omega) hv.cyc k2 (fun a' b' d' q1 q2 q3 => ih a' b' d' q1 (by omega) q3)
        omega
      · by_cases k3 : 2 ≤ steps (sub a d)
        · have := tri_side (a := d) (b := a) (d := b) (by omega) hv.cyc.cyc k3 (fun a' b' d' q1 q2 q3 => ih a' b' d' q1 (by omega) q3)
          omega
        · have := tri_prim h hv (by omega) (by omega) (by omega)
          omega
/-- **a triangle with none within** -/
theorem tri_void {a b d : Point} (h : 0 < ori a b d) (hv : Void a b d) : ori a b d + 2 ≤ (steps (sub b a) : Int) + (steps (sub d b) : Int) + (steps (sub a d) : Int) := tri_aux (ori a b d).toNat a b d h (by omega) hv
end Hl

set_option linter.all false
set_option maxHeartbeats 1000000
namespace Hl
open Sq68
theorem inj_map {α β : Type} {f : α → β} : ∀ {l : List α}, (l.map f).Nodup → ∀ x ∈ l, ∀ y ∈ l, f x = f y → x = y
  | [], _, x, hx, _, _, _ => by cases hx
  | a :: l, h, x, hx, y, hy, e => by
    rw [List.map_cons, List.nodup_cons] at h
    rcases List.mem_cons.1 hx with rfl | hx
    · rcases List.mem_cons.1 hy with rfl | hy
      · rfl
      · exact absurd (List.mem_map.2 ⟨y, hy, e.symm⟩) h.1
    · rename_i hx'
      rcases List.mem_cons.1 hy with hy' | hy'
      · rw [hy'] at e
        exact absurd (List.mem_map.2 ⟨x, hx, e⟩) h.1
      · exact inj_map h.2 x hx y hy' e
/-- a polygon as it is kept: all that is needed of it below -/
structure Fan (c : List Point) : Prop where
  nd : c.Nodup
  left : ∀ e ∈ edges c, ∀ q ∈ c, 0 ≤ ori e.1 e.2 q
  strict : ∀ e ∈ edges c, ∀ q ∈ c, q ≠ e.1 → q ≠ e.2 → 0 < ori e.1 e.2 q
theorem Good.fan {c : List Point} (G : Good c) : Fan c := by
  obtain ⟨P, A, S, H⟩ := G.of
  obtain ⟨p, l, ec, lk⟩ := H.lk
  have ed : ∀ e ∈ edges c, Edge F P e.1 e.2 := fun e he => by
    rw [ec] at he
    exact lk_edges lk e he
  have left : ∀ e ∈ edges c, ∀ q ∈ c, 0 ≤ ori e.1 e.2 q := fun e he q hq => (ed e he).left q (H.sub q hq)
  refine ⟨H.nd, left, fun e he q hq n1 n2 => ?_⟩
  rcases Int.lt_or_le 0 (ori e.1 e.2 q) with k | k
  · exact k
  · exfalso
    have z : ori e.1 e.2 q = 0 := by have := left e he q hq; omega
    obtain ⟨m1, m2⟩ := edges_mem he
    have md := (ed e he).mid q (H.sub q hq) z
    have i1 : lam F q ≠ lam F e.1 := fun w => n1 (A.inj _ (H.sub q hq) _ (H.sub _ m1) w)
    have i2 : lam F q ≠ lam F e.2 := fun w => n2 (A.inj _ (H.sub q hq) _ (H.sub _ m2) w)
    obtain ⟨q', hq'⟩ := has_succ hq
    have E := ed _ hq'
    have l1 := E.left e.1 (H.sub _ m1)
    have l2 := E.left e.2 (H.sub _ m2)
    simp only at l1 l2
    -- q lies between the ends: both lie on the way from q to the next
    have id1 : ori q q' e.1 * (lam F e.2 - lam F q) + ori q q' e.2 * (lam F q - lam F e.1) = ori q q' q * (lam F e.2 - lam F e.1) + ori e.1 e.2 q * (lam F q - lam F q') := by
      unfold ori lam; grind
    rw [z, ori_aab, Int.zero_mul, Int.zero_mul, Int.zero_add] at id1
    have zz : ori q q' e.1 = 0 ∧ ori q q' e.2 = 0 := by
      rcases md with ⟨w1, w2⟩ | ⟨w1, w2⟩
      · have t1 := Int.mul_nonneg l1 (show 0 ≤ lam F e.2 - lam F q by omega)
        have t2 := Int.mul_nonneg l2 (show 0 ≤ lam F q - lam F e.1 by omega)
        refine ⟨?_, ?_⟩
        · rcases Int.mul_eq_zero.1 (show ori q q' e.1 * (lam F e.2 - lam F q) = 0 by omega) with y | y <;> omega
        · rcases Int.mul_eq_zero.1 (show ori q q' e.2 * (lam F q - lam F e.1) = 0 by omega) with y | y <;> omega
      · have t1 := Int.mul_nonneg l1 (show 0 ≤ lam F q - lam F e.2 by omega)
        have t2 := Int.mul_nonneg l2 (show 0 ≤ lam F e.1 - lam F q by omega)
        have e3 : ori q q' e.1 * (lam F q - lam F e.2) + ori q q' e.2 * (lam F e.1 - lam F q) = 0 := by
          rw [show lam F q - lam F e.2 = -(lam F e.2 - lam F q) by omega, show lam F e.1 - lam F q = -(lam F q - lam F e.1) by omega, Int.mul_neg, Int.mul_neg]
          omega
        refine ⟨?_, ?_⟩
        · rcases Int.mul_eq_zero.1 (show ori q q' e.1 * (lam F q - lam F e.2) = 0 by omega) with y | y <;> omega
        · rcases Int.mul_eq_zero.1 (show ori q q' e.2 * (lam F e.1 - lam F q) = 0 by omega) with y | y <;> omega
    have k1 := E.mid e.1 (H.sub _ m1) zz.1
    have k2 := E.mid e.2 (H.sub _ m2) zz.2
    have := E.lne
    simp only at k1 k2 this
    omega
theorem edge_fst_inj {c : List Point} (nd : c.Nodup) {a b d : Point} (h1 : (a, b) ∈ edges c) (h2 : (a, d) ∈ edges c) : b = d := by
  have : (a, b) = (a, d) := inj_map (f := (·.1)) (l := edges c) (by rw [edges_fst]; exact nd) _ h1 _ h2 rfl
  exact (Prod.mk.inj this).2
theorem edge_snd_inj {c : List Point} (nd : c.Nodup) {a b d : Point} (h1 : (b, a) ∈ edges c) (h2 : (d, a) ∈ edges c) : b = d := by
  cases c with
  | nil => cases h1
  | cons p l =>
    have nd' : ((edges (p :: l)).map (·.2)).Nodup := by
      rw [edges_snd]
      have := List.nodup_cons.1 nd
      rw [List.nodup_append]
      exact ⟨this.2, by simp, fun x hx y hy => by rw [List.mem_singleton.1 hy]; intro z; rw [z] at hx; exact this.1 hx⟩
    have : (b, a) = (d, a) := inj_map (f := (·.2)) (l := edges (p :: l)) nd' _ h1 _ h2 rfl
    exact (Prod.mk.inj this).1
/-- three corners not all on one line: what lies within them lies within all -/
theorem within_tri {c : List Point} (V : Fan c) {a b d q : Point} (ha : a ∈ c) (hb : b ∈ c) (hd : d ∈ c) (hD : 0 < ori a b d) (h1 : 0 < ori a b q) (h2 : 0 < ori b d q) (h3 : 0 < ori d a q) : ∀ e ∈ edges c, 0 < ori e.1 e.2 q := by
  intro e he
  have la := V.left e he a ha
  have lb := V.left e he b hb
  have ld := V.left e he d hd
  refine pos_of hD ?_
  rw [bary e.1 e.2 a b d q]
  have t1 := Int.mul_nonneg la (Int.le_of_lt h2)
  have t2 := Int.mul_nonneg lb (Int.le_of_lt h3)
  have t3 := Int.mul_nonneg ld (Int.le_of_lt h1)
  by_cases za : 0 < ori e.1 e.2 a
  · have := Int.mul_pos za h2; omega
  · by_cases zb : 0 < ori e.1 e.2 b
    · have := Int.mul_pos zb h3; omega
    · by_cases zd : 0 < ori e.1 e.2 d
      · have := Int.mul_pos zd h1; omega
      · exfalso
        -- all three on one line: two of them are the edge's ends, the third one is none
        have on_ : ∀ x ∈ c, ¬ 0 < ori e.1 e.2 x → x = e.1 ∨ x = e.2 := fun x hx hz => by
          by_cases y1 : x = e.1
          · exact .inl y1
          · by_cases y2 : x = e.2
            · exact .inr y2
            · exact absurd (V.strict e he x hx y1 y2) hz
        have deg1 : ∀ x y : Point, ori x x y = 0 := fun x y => by unfold ori; grind
        have deg2 : ∀ x y : Point, ori x y x = 0 := fun x y => by unfold ori; grind
        have deg3 : ∀ x y : Point, ori x y y = 0 := fun x y => by unfold ori; grind
        rcases on_ a ha za with ea | ea <;> rcases on_ b hb zb with eb | eb <;> rcases on_ d hd zd with edd | edd <;> (rw [ea, eb, edd] at hD; first | (rw [deg1] at hD; omega) | (rw [deg2] at hD; omega) | (rw [deg3] at hD; omega))
/-- a diagonal with none within has no point but its ends -/
theorem diag_one {c : List Point} (V : Fan c) (no : ∀ q, (∀ e ∈ edges c, 0 < ori e.1 e.2 q) → False) {p y : Point} (hp : p ∈ c) (hy : y ∈ c) (hne : p ≠ y) (n1 : (p, y) ∉ edges c) (n2 : (y, p) ∉ edges c) : steps (sub y p) = 1 := by
  have h0 : 0 < steps (sub y p) := steps_pos fun z => hne (by
    have h1 : y.1 - p.1 = 0 := congrArg Prod.fst z
    have h2 : y.2 - p.2 = 0 := congrArg Prod.snd z
    exact Prod.ext (by omega) (by omega))
  rcases Nat.lt_or_ge (steps (sub y p)) 2 with k | k
  · omega
  · exfalso
    refine no (on p y) fun e he => ?_
    have o := on_ori p y e.1 e.2
    generalize steps (sub y p) = g at *
    have l1 := V.left e he p hp
    have l2 := V.left e he y hy
    refine pos_of (y := (g : Int)) (by omega) ?_
    rw [o]
    have t1 := Int.mul_nonneg l1 (show 0 ≤ (g : Int) - 1 by omega)
    by_cases z1 : 0 < ori e.1 e.2 p
    · have := Int.mul_pos z1 (show 0 < (g : Int) - 1 by omega); omega
    · by_cases z2 : 0 < ori e.1 e.2 y
      · omega
      · exfalso
        have e1 : p = e.1 ∨ p = e.2 := by
          by_cases y1 : p = e.1
          · exact .inl y1
          · by_cases y2 : p = e.2
            · exact .inr y2
            · exact absurd (V.strict e he p hp y1 y2) z1
        have e2 : y = e.1 ∨ y = e.2 := by
          by_cases y1 : y = e.1
          · exact .inl y1
          · by_cases y2 : y = e.2
            · exact .inr y2
            · exact absurd (V.strict e he y hy y1 y2) z2
        rcases e1 with e1 | e1 <;> rcases e2 with e2 | e2
        · exact hne (e1.trans e2.symm)
        · exact n1 (by rw [e1, e2]; exact he)
        · exact n2 (by rw [e1, e2]; exact he)
        · exact hne (e1.trans e2.symm)
theorem chain_pick {R : Point → Point → Prop} {p : Point} (tri : ∀ x y, R x y → ori p x y + 2 ≤ (steps (sub x p) : Int) + (steps (sub y x) : Int) + (steps (sub p y) : Int)) (dia : ∀ x y z, R x y → R y z → steps (sub y p) = 1) :
    ∀ (r : List Point) (x y : Point), Lk R (x :: y :: r) →
      (((x :: y :: r).zip ((y :: r) ++ [p])).map fun e => ori p e.1 e.2).sum + 2 ≤ (steps (sub x p) : Int) + ((((x :: y :: r).zip ((y :: r) ++ [p])).map fun e => steps (sub e.2 e.1)).sum : Nat)
  | [], x, y, h => by
    have t := tri x y h.1
    simp only [List.cons_append, List.nil_append, List.zip_cons_cons, List.zip_nil_right, List.map_cons, List.map_nil, List.sum_cons, List.sum_nil]
    rw [show ori p y p = 0 by unfold ori; grind]
    omega
  | z :: r, x, y, h => by
    have t := tri x y h.1
    have d := dia x y z h.1 h.2.1
    have ih := chain_pick tri dia r y z h.2
    rw [steps_comm p y, d] at t
    rw [d] at ih
    rw [List.cons_append, List.zip_cons_cons, List.map_cons, List.sum_cons, List.map_cons, List.sum_cons]
    simp only at *
    omega
theorem lk_prefix {R : Point → Point → Prop} : ∀ (w : List Point) (z : Point), Lk R (w ++ [z]) → Lk R w
  | [], z, _ => trivial
  | [x], z, _ => trivial
  | x :: y :: w, z, h => ⟨h.1, lk_prefix (y :: w) z h.2⟩
/-- **no point within**: the edge is more than twice the area -/
theorem void_edge {c : List Point} (V : Fan c) (h3 : 3 ≤ c.length) (no : ∀ q, (∀ e ∈ edges c, 0 < ori e.1 e.2 q) → False) : twice c + 2 ≤ (edge c : Int) := by
  match c, h3 with
  | p :: x :: y :: r, _ =>
    have lk : Lk (fun a b => (a, b) ∈ edges (p :: x :: y :: r)) (p :: (x :: y :: r) ++ [p]) := lk_zip_of (x :: y :: r) p p fun e he => he
    have lk1 : Lk (fun a b => (a, b) ∈ edges (p :: x :: y :: r)) (x :: y :: r) := lk_prefix (x :: y :: r) p lk.2
    have nd := List.nodup_cons.1 V.nd
    have lk2 : Lk (fun a b => (a, b) ∈ edges (p :: x :: y :: r) ∧ a ∈ (x :: y :: r) ∧ b ∈ (x :: y :: r)) (x :: y :: r) := Lk.imp _ (fun a b ha hb h => ⟨h, ha, hb⟩) lk1
    have ne : ∀ a ∈ (x :: y :: r), p ≠ a := fun a ha z => nd.1 (by rw [z]; exact ha)
    have key := chain_pick (p := p) (R := fun a b => (a, b) ∈ edges (p :: x :: y :: r) ∧ a ∈ (x :: y :: r) ∧ b ∈ (x :: y :: r)) (fun a b ⟨h, ha, hb⟩ => by
        have hD : 0 < ori a b p := V.strict _ h p (by simp) (ne a ha) (ne b hb)
        have hD' : 0 < ori p a b := by rw [← ori_cyc]; exact hD
        exact tri_void hD' fun q q1 q2 q3 => no q (within_tri V (by simp) (List.mem_cons_of_mem _ ha) (List.mem_cons_of_mem _ hb) hD' q1 q2 q3))
      (fun a b d ⟨h1, a1, b1⟩ ⟨h2, _, d1⟩ => diag_one V no (by simp) (List.mem_cons_of_mem _ b1) (ne b b1)
        (fun z => ne a a1 (edge_snd_inj V.nd z h1)) (fun z => ne d d1 (edge_fst_inj V.nd z h2))) r x y lk2
    rw [twice_fan p p (x :: y :: r)]
    have ee : edges (p :: x :: y :: r) = (p, x) :: (x :: y :: r).zip ((y :: r) ++ [p]) := rfl
    unfold edge
    rw [ee, List.map_cons, List.sum_cons, List.map_cons, List.sum_cons, show ori p p x = 0 by unfold ori; grind]
    simp only
    omega
theorem inner_mem {c : List Point} (hc : c ≠ []) {q : Point} : q ∈ innerPoints c ↔ ∀ e ∈ edges c, 0 < ori e.1 e.2 q :=
  ⟨fun h => where_two.1 (List.mem_filter.1 h).2, mem_inner hc⟩
theorem inner_lex (c : List Point) : (innerPoints c).Pairwise Lex := by
  unfold innerPoints
  simp only
  refine List.Pairwise.filter _ ?_
  rw [List.pairwise_flatMap]
  refine ⟨fun x hx => ?_, ?_⟩
  · rw [List.pairwise_map, List.pairwise_map]
    refine List.Pairwise.imp (fun {i j} h => ?_) List.pairwise_lt_range
    exact .inr ⟨rfl, by simp only; omega⟩
  · rw [List.pairwise_map]
    refine List.Pairwise.imp (fun {i j} h => ?_) List.pairwise_lt_range
    intro a ha b hb
    obtain ⟨y, _, rfl⟩ := List.mem_map.1 ha
    obtain ⟨y', _, rfl⟩ := List.mem_map.1 hb
    exact .inl (by simp only; omega)
theorem sum_le_sum {α : Type} {f g : α → Int} : ∀ {l : List α}, (∀ x ∈ l, f x ≤ g x) → (l.map f).sum ≤ (l.map g).sum
  | [], _ => by simp
  | x :: l, h => by
    have := sum_le_sum (l := l) fun y hy => h y (List.mem_cons_of_mem _ hy)
    have := h x (by simp)
    rw [List.map_cons, List.sum_cons, List.map_cons, List.sum_cons]
    omega
theorem sum_eq_all {α : Type} {f g : α → Int} : ∀ {l : List α}, (∀ x ∈ l, f x ≤ g x) → (l.map g).sum ≤ (l.map f).sum → ∀ x ∈ l, f x = g x
  | [], _, _, x, hx => by cases hx
  | a :: l, h, k, x, hx => by
    have h1 := sum_le_sum (l := l) fun y hy => h y (List.mem_cons_of_mem _ hy)
    have h2 := h a (by simp)
    rw [List.map_cons, List.sum_cons, List.map_cons, List.sum_cons] at k
    rcases List.mem_cons.1 hx with rfl | hx
    · omega
    · exact sum_eq_all (fun y hy => h y (List.mem_cons_of_mem _ hy)) (by omega) x hx
theorem steps_dvd_ori (a b q : Point) : ((steps (sub b a) : Nat) : Int) ∣ ori a b q := by
  obtain ⟨h1, h2⟩ := steps_div (sub b a)
  refine ⟨(sub b a).1 / (steps (sub b a) : Int) * (q.2 - a.2) - (sub b a).2 / (steps (sub b a) : Int) * (q.1 - a.1), ?_⟩
  have e : ori a b q = (sub b a).1 * (q.2 - a.2) - (sub b a).2 * (q.1 - a.1) := rfl
  rw [e]
  generalize (sub b a).1 / (steps (sub b a) : Int) = x at *
  generalize (sub b a).2 / (steps (sub b a) : Int) = y at *
  generalize (steps (sub b a) : Int) = g at *
  rw [h1, h2]
  grind
theorem edge_sumI (c : List Point) : (edge c : Int) = ((edges c).map fun e => ((steps (sub e.2 e.1) : Nat) : Int)).sum := by
  unfold edge
  generalize edges c = l
  induction l with
  | nil => rfl
  | cons x l ih =>
    rw [List.map_cons, List.sum_cons, List.map_cons, List.sum_cons]
    omega
theorem twice_at {c : List Point} (hc : c ≠ []) (o : Point) : twice c = ((edges c).map fun e => ori e.1 e.2 o).sum := by
  cases c with
  | nil => exact absurd rfl hc
  | cons p l =>
    rw [twice_fan o p l]
    congr 1
    refine List.map_congr_left fun e _ => ?_
    rw [← ori_cyc]
/-- **one within, by area and edge** -/
theorem pick_one {c : List Point} (G : Good c) : inner c = 1 ↔ ∃ o, innerPoints c = [o] := by
  have hc : c ≠ [] := fun z => by
    have := G.three
    rw [z] at this
    simp at this
  rw [inner_one]
  constructor
  · intro ht
    have off : ∀ o, o ∈ innerPoints c → ∀ e ∈ edges c, ((steps (sub e.2 e.1) : Nat) : Int) = ori e.1 e.2 o := fun o ho => by
      have pos := (inner_mem hc).1 ho
      refine sum_eq_all (fun e he => Int.le_of_dvd (pos e he) (steps_dvd_ori _ _ _)) ?_
      rw [← twice_at hc o, ← edge_sumI]
      omega
    have uniq : ∀ o q, o ∈ innerPoints c → q ∈ innerPoints c → o = q := fun o q ho hq => by
      obtain ⟨a, b, d, l, ec, hD⟩ := G.ct.first (u := []) (v := c) (r := c) (by simp) G.three
      have m1 : (a, b) ∈ edges c := by rw [ec]; show _ ∈ (a, b) :: _; simp
      have m2 : (b, d) ∈ edges c := by rw [ec]; show _ ∈ (a, b) :: (b, d) :: _; simp
      have e1 := (off o ho _ m1).symm.trans (off q hq _ m1)
      have e2 := (off o ho _ m2).symm.trans (off q hq _ m2)
      simp only at e1 e2
      have k1 : ori a b d * (o.1 - q.1) = 0 := by unfold ori at *; grind
      have k2 : ori a b d * (o.2 - q.2) = 0 := by unfold ori at *; grind
      refine Prod.ext ?_ ?_
      · rcases Int.mul_eq_zero.1 k1 with z | z <;> omega
      · rcases Int.mul_eq_zero.1 k2 with z | z <;> omega
    cases hi : innerPoints c with
    | nil =>
      exfalso
      have := void_edge G.fan G.three fun q hq => by
        have := mem_inner hc hq
        rw [hi] at this
        cases this
      omega
    | cons o r =>
      cases r with
      | nil => exact ⟨o, rfl⟩
      | cons q r =>
        exfalso
        have e := uniq o q (by rw [hi]; simp) (by rw [hi]; simp)
        have lx := inner_lex c
        rw [hi] at lx
        have := (List.pairwise_cons.1 lx).1 q (by simp)
        rw [e] at this
        unfold Lex at this
        omega
  · rintro ⟨o, ho⟩
    have off := one_off G ho
    rw [twice_at hc o, edge_sumI]
    congr 1
    refine List.map_congr_left fun e he => ?_
    rw [← off e he]
    unfold cross sub ori
    grind
end Hl

set_option linter.all false
set_option maxHeartbeats 1000000
namespace Hl
open Sq68
/-! ### directions by what two corners rise along them -/
def fwd (v : Point) : Prop := 0 < v.1 ∨ (v.1 = 0 ∧ 0 < v.2)
/-- the direction along which b rises s and d rises t, or its opposite -/
def dirR (b d : Point) (s t : Int) : Option Point :=
  if (s * d.2 - t * b.2) % cross b d ≠ 0 ∨ (t * b.1 - s * d.1) % cross b d ≠ 0 then none
  else if s * d.2 - t * b.2 < 0 ∨ (s * d.2 - t * b.2 = 0 ∧ t * b.1 - s * d.1 < 0) then some (-(s * d.2 - t * b.2) / cross b d, -(t * b.1 - s * d.1) / cross b d)
  else some ((s * d.2 - t * b.2) / cross b d, (t * b.1 - s * d.1) / cross b d)
theorem cancel {A x y : Int} (hA : 0 < A) (h : A * x = A * y) : x = y := Int.eq_of_mul_eq_mul_left (by omega) h
theorem dirR_some {b d : Point} {s t : Int} {v : Point} (hA : 0 < cross b d) (h : dirR b d s t = some v) :
    ((dot v b = s ∧ dot v d = t) ∨ (dot v b = -s ∧ dot v d = -t)) ∧ (0 < v.1 ∨ (v.1 = 0 ∧ 0 ≤ v.2)) := by
  unfold dirR at h
  have eA : cross b d = b.1 * d.2 - b.2 * d.1 := rfl
  generalize hp : s * d.2 - t * b.2 = p at *
  generalize hq : t * b.1 - s * d.1 = q at *
  generalize cross b d = A at *
  by_cases c1 : p % A ≠ 0 ∨ q % A ≠ 0
  · rw [if_pos c1] at h; cases h
  · rw [if_neg c1] at h
    have m1 : p % A = 0 := by omega
    have m2 : q % A = 0 := by omega
    obtain ⟨p', e1⟩ : ∃ p', p = A * p' := ⟨p / A, by have := Int.emod_add_mul_ediv p A; omega⟩
    obtain ⟨q', e2⟩ : ∃ q', q = A * q' := ⟨q / A, by have := Int.emod_add_mul_ediv q A; omega⟩
    have r1 : p' * b.1 + q' * b.2 = s := cancel hA (by grind)
    have r2 : p' * d.1 + q' * d.2 = t := cancel hA (by grind)
    by_cases c2 : p < 0 ∨ (p = 0 ∧ q < 0)
    · rw [if_pos c2] at h
      have ev := Option.some.inj h
      have d1 : -p / A = -p' := by rw [e1, ← Int.mul_neg, Int.mul_ediv_cancel_left _ (by omega)]
      have d2 : -q / A = -q' := by rw [e2, ← Int.mul_neg, Int.mul_ediv_cancel_left _ (by omega)]
      rw [d1, d2] at ev
      subst ev
      refine ⟨.inr ⟨?_, ?_⟩, ?_⟩
      · unfold dot; simp only; grind
      · unfold dot; simp only; grind
      · simp only
        rcases c2 with k | ⟨k, k2⟩
        · left
          have : 0 < A * -p' := by rw [Int.mul_neg, ← e1]; omega
          have := Int.pos_of_mul_pos_left (a := -p') (b := A) (by rw [Int.mul_comm]; exact this) hA
          omega
        · right
          have z : p' = 0 := by
            rcases Int.mul_eq_zero.1 (e1.symm.trans k) with z | z <;> omega
          have : 0 < A * -q' := by rw [Int.mul_neg, ← e2]; omega
          have := Int.pos_of_mul_pos_left (a := -q') (b := A) (by rw [Int.mul_comm]; exact this) hA
          omega
    · rw [if_neg c2] at h
      have ev := Option.some.inj h
      have d1 : p / A = p' := by rw [e1, Int.mul_ediv_cancel_left _ (by omega)]
      have d2 : q / A = q' := by rw [e2, Int.mul_ediv_cancel_left _ (by omega)]
      rw [d1, d2] at ev
      subst ev
      refine ⟨.inl ⟨?_, ?_⟩, ?_⟩
      · unfold dot; simp only; exact r1
      · unfold dot; simp only; exact r2
      · simp only
        rcases Int.lt_trichotomy p 0 with k | k | k
        · exact absurd (.inl k) c2
        · right
          have z : p' = 0 := by
            rcases Int.mul_eq_zero.1 (e1.symm.trans k) with z | z <;> omega
          refine ⟨z, ?_⟩
          have : 0 ≤ q := by
            rcases Int.lt_or_le q 0 with y | y
            · exact absurd (.inr ⟨k, y⟩) c2
            · exact y
          refine nonneg_of (y := A) hA ?_
          rw [Int.mul_comm, ← e2]; exact this
        · left
          exact Int.pos_of_mul_pos_left (a := p') (b := A) (by rw [Int.mul_comm, ← e1]; exact k) hA
theorem dirR_of {b d v : Point} (hA : 0 < cross b d) (hf : fwd v) : dirR b d (dot v b) (dot v d) = some v ∧ dirR b d (-dot v b) (-dot v d) = some v := by
  have eA : cross b d = b.1 * d.2 - b.2 * d.1 := rfl
  have p1 : dot v b * d.2 - dot v d * b.2 = cross b d * v.1 := by unfold dot cross; grind
  have q1 : dot v d * b.1 - dot v b * d.1 = cross b d * v.2 := by unfold dot cross; grind
  have p2 : -dot v b * d.2 - -dot v d * b.2 = cross b d * -v.1 := by unfold dot cross; grind
  have q2 : -dot v d * b.1 - -dot v b * d.1 = cross b d * -v.2 := by unfold dot cross; grind
  unfold dirR
  rw [p1, q1, p2, q2]
  generalize cross b d = A at *
  have sgn : ∀ x : Int, 0 < x → 0 < A * x := fun x hx => Int.mul_pos hA hx
  refine ⟨?_, ?_⟩
  · rw [if_neg (by rw [Int.mul_emod_right, Int.mul_emod_right]; omega), if_neg ?_, Int.mul_ediv_cancel_left _ (by omega), Int.mul_ediv_cancel_left _ (by omega)]
    rcases hf with k | ⟨k, k2⟩
    · have := sgn _ k; omega
    · have := sgn _ k2
      rw [k, Int.mul_zero]; omega
  · rw [if_neg (by rw [Int.mul_emod_right, Int.mul_emod_right]; omega), if_pos ?_, ← Int.mul_neg, ← Int.mul_neg, Int.mul_ediv_cancel_left _ (by omega), Int.mul_ediv_cancel_left _ (by omega), Int.neg_neg, Int.neg_neg]
    rw [Int.mul_neg, Int.mul_neg]
    rcases hf with k | ⟨k, k2⟩
    · have := sgn _ k; omega
    · have := sgn _ k2
      rw [k, Int.mul_zero]; omega
/-! ### pairs, by the greater of their two numbers -/
def pairsR (r : Int) : List Point := (rg (1 - r) (r + 1)).map (fun t => (r, t)) ++ (rg (-r) r).map fun s => (s, r)
theorem mem_rg {lo hi x : Int} : x ∈ rg lo hi ↔ lo ≤ x ∧ x < hi := by
  unfold rg
  rw [List.mem_map]
  constructor
  · rintro ⟨i, hi', rfl⟩
    have := List.mem_range.1 hi'
    omega
  · rintro ⟨h1, h2⟩
    exact ⟨(x - lo).toNat, List.mem_range.2 (by omega), by omega⟩
theorem rg_nodup (lo hi : Int) : (rg lo hi).Pairwise (· < ·) := by
  unfold rg
  rw [List.pairwise_map]
  exact List.Pairwise.imp (fun {i j} h => by omega) List.pairwise_lt_range
theorem mem_pairsR {r : Int} {x : Point} : x ∈ pairsR r ↔ (x.1 = r ∧ 1 - r ≤ x.2 ∧ x.2 ≤ r) ∨ (x.2 = r ∧ -r ≤ x.1 ∧ x.1 < r) := by
  unfold pairsR
  rw [List.mem_append, List.mem_map, List.mem_map]
  constructor
  · rintro (⟨t, ht, rfl⟩ | ⟨s, hs, rfl⟩)
    · have := mem_rg.1 ht
      exact .inl ⟨rfl, this.1, by simp only; omega⟩
    · have := mem_rg.1 hs
      exact .inr ⟨rfl, this.1, this.2⟩
  · rintro (⟨h1, h2, h3⟩ | ⟨h1, h2, h3⟩)
    · exact .inl ⟨x.2, mem_rg.2 ⟨h2, by omega⟩, Prod.ext h1.symm rfl⟩
    · exact .inr ⟨x.1, mem_rg.2 ⟨h2, h3⟩, Prod.ext rfl h1.symm⟩
def Apart (x y : Point) : Prop := x ≠ y ∧ x ≠ flip y
theorem apart_of {x y : Point} (h1 : ¬ (x.1 = y.1 ∧ x.2 = y.2)) (h2 : ¬ (x.1 = -y.1 ∧ x.2 = -y.2)) : Apart x y := ⟨fun z => h1 (by rw [z]; exact ⟨rfl, rfl⟩), fun z => h2 (by rw [z]; exact ⟨rfl, rfl⟩)⟩
theorem pairsR_apart {r : Int} (hr : 0 < r) : (pairsR r).Pairwise Apart := by
  unfold pairsR
  rw [List.pairwise_append, List.pairwise_map, List.pairwise_map]
  refine ⟨(rg_nodup _ _).imp fun {a b} h => apart_of (by simp only; omega) (by simp only; omega), (rg_nodup _ _).imp fun {a b} h => apart_of (by simp only; omega) (by simp only; omega), fun x hx y hy => ?_⟩
  obtain ⟨t, ht, rfl⟩ := List.mem_map.1 hx
  obtain ⟨s, hs, rfl⟩ := List.mem_map.1 hy
  have h1 := mem_rg.1 ht
  have h2 := mem_rg.1 hs
  exact apart_of (by simp only; omega) (by simp only; omega)
theorem pairsR_len {r : Int} (hr : 0 < r) : (pairsR r).length = 4 * r.toNat := by
  unfold pairsR rg
  rw [List.length_append, List.length_map, List.length_map, List.length_map, List.length_map, List.length_range, List.length_range]
  omega
/-- all pairs below a reach -/
def allP (n : Nat) : List Point := (List.range n).flatMap fun (i : Nat) => pairsR ((i : Int) + 1)
theorem allP_succ (n : Nat) : allP (n + 1) = allP n ++ pairsR ((n : Int) + 1) := by
  unfold allP
  rw [List.range_succ, List.flatMap_append]
  simp
theorem allP_apart (n : Nat) : (allP n).Pairwise Apart := by
  unfold allP
  rw [List.pairwise_flatMap]
  refine ⟨fun i _ => pairsR_apart (by omega), List.pairwise_lt_range.imp fun {i j} h => ?_⟩
  intro x hx y hy
  have h1 := mem_pairsR.1 hx
  have h2 := mem_pairsR.1 hy
  exact apart_of (by omega) (by omega)
theorem allP_has {n : Nat} {s t : Int} (h0 : ¬ (s = 0 ∧ t = 0)) (h1 : -(n : Int) ≤ s ∧ s ≤ n) (h2 : -(n : Int) ≤ t ∧ t ≤ n) : (s, t) ∈ allP n ∨ (-s, -t) ∈ allP n := by
  have key : ∀ (r : Nat) (x : Point), r < n → x ∈ pairsR ((r : Int) + 1) → x ∈ allP n := fun r x hr hx => List.mem_flatMap.2 ⟨r, List.mem_range.2 hr, hx⟩
  -- the reach
  obtain ⟨r, hr, hm⟩ : ∃ r : Nat, r < n ∧ ((s = r + 1 ∨ s = -(r : Int) - 1) ∧ (-(r : Int) - 1 ≤ t ∧ t ≤ r + 1) ∨ ((t = r + 1 ∨ t = -(r : Int) - 1) ∧ (-(r : Int) - 1 < s ∧ s < r + 1))) := by
    by_cases k : t.natAbs ≤ s.natAbs
    · exact ⟨s.natAbs - 1, by omega, .inl ⟨by omega, by omega⟩⟩
    · exact ⟨t.natAbs - 1, by omega, .inr ⟨by omega, by omega⟩⟩
  have q1 : (s, t) ∈ pairsR ((r : Int) + 1) ∨ (-s, -t) ∈ pairsR ((r : Int) + 1) := by
    rw [mem_pairsR, mem_pairsR]
    simp only
    omega
  rcases q1 with q | q
  · exact .inl (key r _ hr q)
  · exact .inr (key r _ hr q)
/-! ### the walk over the pairs -/
structure Seen (c : List Point) (b d : Point) (L : List Point) (w : Int) (fd : List Point) : Prop where
  sound : ∀ v ∈ fd, across c v = w ∧ ∃ x ∈ L, dirR b d x.1 x.2 = some v
  compl : ∀ x ∈ L, ∀ v, dirR b d x.1 x.2 = some v → w ≤ across c v ∧ (across c v = w → v ∈ fd)
  att : w = across c (1, 0) ∨ fd ≠ []
  nd : fd.Nodup
  low : w ≤ across c (1, 0)
theorem Seen.start (c : List Point) (b d : Point) : Seen c b d [] (across c (1, 0)) [] := ⟨fun v h => absurd h (by simp), fun x h => absurd h (by simp), .inl rfl, List.nodup_nil, Int.le_refl _⟩
section
variable {c : List Point} {b d : Point} {L fd : List Point} {w : Int} {x : Point}
theorem Seen.none (S : Seen c b d L w fd) (h : dirR b d x.1 x.2 = none) : Seen c b d (L ++ [x]) w fd := by
  refine ⟨fun v hv => ?_, fun y hy v hd => ?_, S.att, S.nd, S.low⟩
  · obtain ⟨h1, y, hy, h2⟩ := S.sound v hv
    exact ⟨h1, y, List.mem_append_left _ hy, h2⟩
  · rcases List.mem_append.1 hy with k | k
    · exact S.compl y k v hd
    · rw [List.mem_singleton.1 k, h] at hd; cases hd
theorem Seen.more (S : Seen c b d L w fd) {v : Point} (h : dirR b d x.1 x.2 = some v) (k : w < across c v) : Seen c b d (L ++ [x]) w fd := by
  refine ⟨fun v hv => ?_, fun y hy u hd => ?_, S.att, S.nd, S.low⟩
  · obtain ⟨h1, y, hy, h2⟩ := S.sound v hv
    exact ⟨h1, y, List.mem_append_left _ hy, h2⟩
  · rcases List.mem_append.1 hy with q | q
    · exact S.compl y q u hd
    · rw [List.mem_singleton.1 q, h] at hd
      cases hd
      exact ⟨by omega, fun z => by omega⟩
theorem Seen.same (S : Seen c b d L w fd) {v : Point} (hA : 0 < cross b d) (ap : (L ++ [x]).Pairwise Apart) (h : dirR b d x.1 x.2 = some v) (k : across c v = w) : Seen c b d (L ++ [x]) w (fd ++ [v]) := by
  refine ⟨fun u hu => ?_, fun y hy u hd => ?_, .inr (by simp), ?_, S.low⟩
  · rcases List.mem_append.1 hu with q | q
    · obtain ⟨h1, y, hy, h2⟩ := S.sound u q
      exact ⟨h1, y, List.mem_append_left _ hy, h2⟩
    · rw [List.mem_singleton.1 q]
      exact ⟨k, x, by simp, h⟩
  · rcases List.mem_append.1 hy with q | q
    · have := S.compl y q u hd
      exact ⟨this.1, fun z => List.mem_append_left _ (this.2 z)⟩
    · rw [List.mem_singleton.1 q, h] at hd
      cases hd
      exact ⟨by omega, fun _ => by simp⟩
  · rw [List.nodup_append]
    refine ⟨S.nd, by simp, fun u hu z hz => ?_⟩
    rw [List.mem_singleton.1 hz]
    intro e
    subst e
    obtain ⟨_, y, hy, h2⟩ := S.sound u hu
    have ay : Apart y x := (List.pairwise_append.1 ap).2.2 y hy x (by simp)
    obtain ⟨e1, _⟩ := dirR_some hA h
    obtain ⟨e2, _⟩ := dirR_some hA h2
    rcases e1 with ⟨a1, a2⟩ | ⟨a1, a2⟩ <;> rcases e2 with ⟨b1, b2⟩ | ⟨b1, b2⟩
    · exact ay.1 (Prod.ext (by omega) (by omega))
    · exact ay.2 (Prod.ext (by show y.1 = -x.1; omega) (by show y.2 = -x.2; omega))
    · exact ay.2 (Prod.ext (by show y.1 = -x.1; omega) (by show y.2 = -x.2; omega))
    · exact ay.1 (Prod.ext (by omega) (by omega))
theorem Seen.less (S : Seen c b d L w fd) {v : Point} (h : dirR b d x.1 x.2 = some v) (k : across c v < w) : Seen c b d (L ++ [x]) (across c v) [v] := by
  have lw := S.low
  refine ⟨fun u hu => ?_, fun y hy u hd => ?_, .inr (by simp), by simp, by omega⟩
  · rw [List.mem_singleton.1 hu]
    exact ⟨rfl, x, by simp, h⟩
  · rcases List.mem_append.1 hy with q | q
    · have := S.compl y q u hd
      exact ⟨by omega, fun z => by omega⟩
    · rw [List.mem_singleton.1 q, h] at hd
      cases hd
      exact ⟨Int.le_refl _, fun _ => by simp⟩
end
/-- a forward vector is some times a direction -/
theorem fwd_dir {v : Point} (hf : fwd v) : ∃ (g : Int) (u : Point), 1 ≤ g ∧ isDir u ∧ v.1 = u.1 * g ∧ v.2 = u.2 * g := by
  have hne : v ≠ (0, 0) := fun z => by
    rw [z] at hf
    unfold fwd at hf
    simp at hf
  have hg := steps_pos hne
  obtain ⟨h1, h2⟩ := steps_div v
  refine ⟨(steps v : Int), (v.1 / (steps v : Int), v.2 / (steps v : Int)), by omega, ?_, h1, h2⟩
  have pr : Nat.gcd (v.1 / (steps v : Int)).natAbs (v.2 / (steps v : Int)).natAbs = 1 := gcd_scale hg (by rw [← h1, ← h2]; rfl)
  refine ⟨pr, ?_⟩
  simp only
  generalize v.1 / (steps v : Int) = x at *
  generalize v.2 / (steps v : Int) = y at *
  generalize steps v = g at *
  rcases hf with k | ⟨k, k2⟩
  · left
    rw [h1] at k
    exact Int.pos_of_mul_pos_left k (by omega)
  · right
    rw [h1] at k
    rw [h2] at k2
    refine ⟨?_, Int.pos_of_mul_pos_left k2 (by omega)⟩
    rcases Int.mul_eq_zero.1 k with z | z <;> omega
theorem across_times {c : List Point} (hc : c ≠ []) {u v : Point} {g : Int} (h1 : v.1 = u.1 * g) (h2 : v.2 = u.2 * g) : across c u * g ≤ across c v := by
  obtain ⟨p, hp, q, hq, e, _, _⟩ := across_ex hc u
  have := across_ge hc v hp hq
  rw [e]
  have k : dot v p - dot v q = (dot u p - dot u q) * g := by
    unfold dot
    rw [h1, h2]
    grind
  omega
theorem dir_fwd {v : Point} (h : isDir v) : fwd v := h.2
/-- **what the walk leaves**: the width and all its directions -/
theorem Seen.fin {a x y : Point} {l : List Point} {w : Int} {fd : List Point} {n : Nat} (G : Good (a :: x :: y :: l)) (S : Seen (a :: x :: y :: l) (sub x a) (sub y a) (allP n) w fd) (hn : w ≤ (n : Int)) :
    w = (width (a :: x :: y :: l)).1 ∧ (∀ v, v ∈ fd ↔ v ∈ (width (a :: x :: y :: l)).2) := by
  obtain ⟨least, mem, _, wne, _⟩ := width_ok G
  have hA : 0 < cross (sub x a) (sub y a) := by
    obtain ⟨a', b', d', l', e, h⟩ := G.ct.first (u := []) (v := a :: x :: y :: l) (r := a :: x :: y :: l) (by simp) G.three
    injection e with e1 e2
    injection e2 with e2 e3
    injection e3 with e3 _
    subst e1 e2 e3
    have : cross (sub x a) (sub y a) = ori a x y := by unfold cross sub ori; grind
    omega
  generalize hcc : a :: x :: y :: l = c at *
  have hc : c ≠ [] := by rw [← hcc]; simp
  have ma : a ∈ c := by rw [← hcc]; simp
  have mx : x ∈ c := by rw [← hcc]; simp
  have my : y ∈ c := by rw [← hcc]; simp
  have dsub : ∀ v p q : Point, dot v (sub p q) = dot v p - dot v q := fun v p q => by unfold dot sub; grind
  -- how far a direction reaches
  have reach : ∀ v, fwd v → ¬ (dot v (sub x a) = 0 ∧ dot v (sub y a) = 0) ∧ (-across c v ≤ dot v (sub x a) ∧ dot v (sub x a) ≤ across c v) ∧ (-across c v ≤ dot v (sub y a) ∧ dot v (sub y a) ≤ across c v) := fun v hf => by
    refine ⟨fun ⟨z1, z2⟩ => ?_, ?_, ?_⟩
    · have k1 : cross (sub x a) (sub y a) * v.1 = 0 := by unfold cross; unfold dot at z1 z2; grind
      have k2 : cross (sub x a) (sub y a) * v.2 = 0 := by unfold cross; unfold dot at z1 z2; grind
      have v1 : v.1 = 0 := by rcases Int.mul_eq_zero.1 k1 with z | z <;> omega
      have v2 : v.2 = 0 := by rcases Int.mul_eq_zero.1 k2 with z | z <;> omega
      unfold fwd at hf
      omega
    · rw [dsub]
      have := across_ge hc v mx ma
      have := across_ge hc v ma mx
      omega
    · rw [dsub]
      have := across_ge hc v my ma
      have := across_ge hc v ma my
      omega
  have got : ∀ v, fwd v → across c v ≤ w → w ≤ across c v ∧ (across c v = w → v ∈ fd) := fun v hf hw => by
    obtain ⟨r0, r1, r2⟩ := reach v hf
    obtain ⟨d1, d2⟩ := dirR_of hA hf
    rcases allP_has (n := n) r0 ⟨by omega, by omega⟩ ⟨by omega, by omega⟩ with q | q
    · exact S.compl _ q v d1
    · exact S.compl _ q v d2
  -- w is no more than any, and is one's
  have wle : ∀ v, fwd v → w ≤ across c v := fun v hf => by
    rcases Int.lt_or_le (across c v) w with k | k
    · exact (got v hf (by omega)).1
    · exact k
  obtain ⟨v0, hv0⟩ := List.exists_mem_of_ne_nil _ wne
  have h0 := (mem v0).1 hv0
  have pos : ∀ v, fwd v → 0 < across c v := fun v hf => by
    obtain ⟨r0, r1, r2⟩ := reach v hf
    omega
  have W0 : 0 < (width c).1 := by rw [← h0.2]; exact pos v0 (dir_fwd h0.1)
  have fd_fwd : ∀ v ∈ fd, fwd v := fun v hv => by
    obtain ⟨e, z, hz, hd⟩ := S.sound v hv
    obtain ⟨_, k⟩ := dirR_some hA hd
    rcases k with k | ⟨k, k2⟩
    · exact .inl k
    · refine .inr ⟨k, ?_⟩
      rcases Int.lt_or_le 0 v.2 with q | q
      · exact q
      · exfalso
        have z : v.2 = 0 := by omega
        have : across c v = 0 := by
          obtain ⟨p, _, q', _, e', _, _⟩ := across_ex hc v
          rw [e']; unfold dot; rw [k, z]; simp
        have := wle v0 (dir_fwd h0.1)
        -- w = 0 is less than any, but (1, 0) or others reach it
        have e0 : w = 0 := by omega
        obtain ⟨xx, hxx⟩ : ∃ xx, xx = z := ⟨_, rfl⟩
        -- the pair that gave it would be 0 0
        obtain ⟨e1, _⟩ := dirR_some hA hd
        rename_i zz
        have hz1 : dot v (sub x a) = 0 := by unfold dot; rw [k, z]; simp
        have hz2 : dot v (sub y a) = 0 := by unfold dot; rw [k, z]; simp
        obtain ⟨i, hi, hp⟩ := List.mem_flatMap.1 hz
        have := mem_pairsR.1 hp
        omega
  have parts : ∀ v, fwd v → across c v = w → isDir v ∧ w = (width c).1 := fun v hf hw => by
    obtain ⟨g, u, hg, hu, e1, e2⟩ := fwd_dir hf
    have t := across_times hc e1 e2
    have lu := least u hu
    have wu := wle u (dir_fwd hu)
    have pu := pos u (dir_fwd hu)
    have g1 : g = 1 := by
      rcases Int.lt_or_le 1 g with k | k
      · have : across c u * 2 ≤ across c u * g := Int.mul_le_mul_of_nonneg_left (by omega) (by omega)
        omega
      · omega
    subst g1
    have ev : v = u := Prod.ext (by omega) (by omega)
    subst ev
    have := wle v0 (dir_fwd h0.1)
    exact ⟨hu, by omega⟩
  have ew : w = (width c).1 := by
    rcases S.att with k | k
    · exact (parts (1, 0) (.inl (by decide)) k.symm).2
    · obtain ⟨v, hv⟩ := List.exists_mem_of_ne_nil _ k
      exact (parts v (fd_fwd v hv) (S.sound v hv).1).2
  refine ⟨ew, fun v => ⟨fun hv => ?_, fun hv => ?_⟩⟩
  · have := parts v (fd_fwd v hv) (S.sound v hv).1
    exact (mem v).2 ⟨this.1, by rw [(S.sound v hv).1]; exact ew⟩
  · obtain ⟨k1, k2⟩ := (mem v).1 hv
    exact (got v (dir_fwd k1) (by omega)).2 (by omega)
end Hl

set_option linter.all false
set_option maxHeartbeats 1000000
namespace Hl
open Sq68
/-! ### a row as the program lays it -/
def lvl (v : Point) (g m n : Int) (p : Point) : Point := (m * p.1 + n * p.2, cross v p / g)
def leant (k : Int) (p : Point) : Point := (p.1 - k * p.2, p.2)
theorem side_cross {v p : Point} (h : 0 < steps v) : cross v p / (steps v : Int) = dot (side v) p := by
  obtain ⟨h1, h2⟩ := steps_div v
  unfold side dot cross
  simp only
  generalize v.1 / (steps v : Int) = x at *
  generalize v.2 / (steps v : Int) = y at *
  generalize steps v = g at *
  rw [h1, h2]
  have : x * (g : Int) * p.2 - y * (g : Int) * p.1 = (g : Int) * (-y * p.1 + x * p.2) := by grind
  rw [this, Int.mul_ediv_cancel_left _ (by omega)]
theorem row_eq {a b d : Point} {l : List Point} {m n : Int} (hp : 0 < ori a b d) (hs : m * (sub b a).1 + n * (sub b a).2 = (steps (sub b a) : Nat)) :
    laid (a :: b :: d :: l) = (((a :: b :: d :: l).map fun p => sub p a).map (lvl (sub b a) (steps (sub b a) : Nat) m n)).map (leant (((lvl (sub b a) (steps (sub b a) : Nat) m n (sub d a)).1 - (steps (sub b a) : Nat)) / (lvl (sub b a) (steps (sub b a) : Nat) m n (sub d a)).2)) := by
  have hg := steps_pos (ne_of_ori hp)
  rw [laid_eq (s := (m, n)) hp hs, List.map_map, List.map_map]
  unfold laidBy
  refine List.map_congr_left fun p _ => ?_
  simp only [Function.comp, lvl, leant]
  rw [side_cross hg, side_cross hg]
  have e1 : m * (sub d a).1 + n * (sub d a).2 - (steps (sub b a) : Nat) = dot (m, n) (sub d b) := by
    rw [← hs]; unfold dot sub; grind
  have e2 : dot (side (sub b a)) (sub d a) = dot (side (sub b a)) (sub d b) := by
    have z : dot (side (sub b a)) (sub b a) = 0 := by
      rw [← side_cross hg]
      have : cross (sub b a) (sub b a) = 0 := by unfold cross; grind
      rw [this]; simp
    have : dot (side (sub b a)) (sub d a) = dot (side (sub b a)) (sub d b) + dot (side (sub b a)) (sub b a) := by
      generalize side (sub b a) = s
      unfold dot sub; grind
    omega
  rw [e1, e2]
  rfl
/-- how far up the third one is laid -/
theorem lvl_third {a b d : Point} {m n : Int} (hp : 0 < ori a b d) : 0 < (lvl (sub b a) (steps (sub b a) : Nat) m n (sub d a)).2 ∧ (lvl (sub b a) (steps (sub b a) : Nat) m n (sub d a)).2 ≤ ori a b d := by
  have hg := steps_pos (ne_of_ori hp)
  have e : cross (sub b a) (sub d a) = ori a b d := by unfold cross sub ori; grind
  have dv := steps_dvd_ori a b d
  unfold lvl
  simp only
  rw [e]
  obtain ⟨k, hk⟩ := dv
  rw [hk, Int.mul_ediv_cancel_left _ (by omega)]
  rw [hk] at hp
  have kp : 0 < k := by rw [Int.mul_comm] at hp; exact Int.pos_of_mul_pos_left hp (by omega)
  refine ⟨kp, ?_⟩
  have := Int.mul_le_mul_of_nonneg_right (show (1 : Int) ≤ ((steps (sub b a) : Nat) : Int) by omega) (show 0 ≤ k by omega)
  omega
/-! ### the dual's corners as the program finds them -/
def dualC (a b : Point) : Point := ((b.2 - a.2) / cross a b, (a.1 - b.1) / cross a b)
theorem dual_prog {c : List Point} {o : Point} (G : Good c) (hi : innerPoints c = [o]) : (edges (c.map fun p => sub p o)).map (fun e => dualC e.1 e.2) = dual c := by
  rw [dual_map hi, edges_map, List.map_map]
  refine List.map_congr_left fun e he => ?_
  have off := one_off G hi e he
  obtain ⟨h1, h2⟩ := steps_div (sub e.2 e.1)
  show dualC (sub e.1 o) (sub e.2 o) = nrm e
  unfold dualC nrm
  rw [off]
  refine Prod.ext ?_ ?_
  · show ((sub e.2 o).2 - (sub e.1 o).2) / _ = (sub e.2 e.1).2 / _
    congr 1
    unfold sub
    simp only
    omega
  · show ((sub e.1 o).1 - (sub e.2 o).1) / _ = -((sub e.2 e.1).1 / _)
    have dv : ((steps (sub e.2 e.1) : Nat) : Int) ∣ (sub e.2 e.1).1 := Int.gcd_dvd_left (sub e.2 e.1).1 (sub e.2 e.1).2
    rw [← Int.neg_ediv_of_dvd dv]
    congr 1
    unfold sub
    simp only
    omega
theorem dual_pos {c : List Point} {o : Point} (G : Good c) (hi : innerPoints c = [o]) : ∀ e ∈ edges (c.map fun p => sub p o), 0 < cross e.1 e.2 ∧ cross e.1 e.2 ≤ 80 := by
  intro e he
  rw [edges_map] at he
  obtain ⟨x, hx, rfl⟩ := List.mem_map.1 he
  have off := one_off G hi x hx
  have hpos : 0 < ori x.1 x.2 o := by
    have : o ∈ innerPoints c := by rw [hi]; simp
    exact where_two.1 (List.mem_filter.1 this).2 x hx
  have hD : cross (sub x.1 o) (sub x.2 o) = ori x.1 x.2 o := by unfold cross sub ori; grind
  simp only
  refine ⟨by omega, ?_⟩
  rw [off]
  obtain ⟨m1, m2⟩ := edges_mem hx
  obtain ⟨⟨_, _⟩, _, _⟩ := G.small _ m1
  obtain ⟨⟨_, _⟩, _, _⟩ := G.small _ m2
  have d1 : steps (sub x.2 x.1) ∣ (x.2.1 - x.1.1).natAbs := Nat.gcd_dvd_left _ _
  have d2 : steps (sub x.2 x.1) ∣ (x.2.2 - x.1.2).natAbs := Nat.gcd_dvd_right _ _
  by_cases z : x.2.1 - x.1.1 = 0
  · have : x.2.2 - x.1.2 ≠ 0 := fun z2 => by
      have : ori x.1 x.2 o = 0 := by unfold ori; rw [z, z2]; simp
      omega
    have := Nat.le_of_dvd (by omega) d2
    omega
  · have := Nat.le_of_dvd (by omega) d1
    omega
theorem div_small {x g : Int} (hg : 0 < g) (h : -80 ≤ x ∧ x ≤ 80) : -80 ≤ x / g ∧ x / g ≤ 80 := by
  refine ⟨?_, ?_⟩
  · refine (Int.le_ediv_iff_mul_le hg).2 ?_
    have : (-80 : Int) * g ≤ -80 * 1 := by
      have := Int.mul_le_mul_of_nonneg_left (show (1 : Int) ≤ g by omega) (show (0 : Int) ≤ 80 by decide)
      omega
    omega
  · rcases Int.lt_or_le x 0 with k | k
    · have := Int.ediv_neg_of_neg_of_pos k hg
      omega
    · have := Int.ediv_le_self g k
      omega
theorem dual_small {c : List Point} {o : Point} (G : Good c) (hi : innerPoints c = [o]) : ∀ p ∈ dual c, (-80 ≤ p.1 ∧ p.1 ≤ 80) ∧ -80 ≤ p.2 ∧ p.2 ≤ 80 := by
  intro p hp
  have pos := dual_pos G hi
  rw [← dual_prog G hi] at hp
  obtain ⟨e, he, rfl⟩ := List.mem_map.1 hp
  have k := (pos e he).1
  rw [edges_map] at he
  obtain ⟨x, hx, rfl⟩ := List.mem_map.1 he
  obtain ⟨m1, m2⟩ := edges_mem hx
  obtain ⟨⟨_, _⟩, _, _⟩ := G.small _ m1
  obtain ⟨⟨_, _⟩, _, _⟩ := G.small _ m2
  unfold dualC
  refine ⟨div_small k ?_, div_small k ?_⟩ <;> (unfold sub; simp only; omega)
end Hl

set_option Elab.async false
set_option linter.all false
set_option maxRecDepth 100000
set_option maxHeartbeats 2000000
/-! Own rules: X() without arguments, xs.extend(a tuple), list(reversed(list)). -/
namespace OwR
open PySem PySem.Sem in
set_option maxRecDepth 8000 in
theorem ext_tuple (l : Addr) (items : Array Value) (n : Nat) (b : Addr) (items2 : Array Value) (n2 : Nat) (dd : Option Addr) (sl : Array (Option Value)) (hs0 : ¬(!items.isEmpty && Builtin.List.listTooLong (items.size + items2.size)) = true) (hs1 : items.size ≤ sizeLine) (o_hs2 : items.size + items2.size ≤ sizeLine + 1) :
    Meets (Builtin.«list.extend» ⟨[.ref l, .ref b], []⟩) (fun _ R s => s.heap.get? l = some { cls := .type "list", dict := none, data := .seq items n, slots := #[] } ∧ s.heap.get? b = some { cls := .type "tuple", dict := dd, data := .seq items2 n2, slots := sl } ∧ R (.ok (.ret Value.none)) { s with heap := s.heap.update l (Obj.mapSeq fun x => x ++ items2), toks := s.toks }) :=
  .of_wp fun prog w A R s h => by
    obtain ⟨o_hp, g, d, tk, os⟩ := s
    obtain ⟨o_hl, o_hb, h⟩ := h
    have f1 := AutoSeq1.idx_int
    have f2 := AutoSeq1.sub_tuple_tuple
    have f3 := AutoSeq1.sub_list_list
    have f4 := AutoSeq1.sub_tuple_list
    have f5 := AutoSeq1.sub_list_tuple
    have hz' : (items ++ items2).size ≤ sizeLine + 1 := by rw [Array.size_append]; exact o_hs2
    wp_walk using (wpAny_updateSeq o_hl rfl (hz := hs1) (_hz' := hz')), AutoSeq1.wpAny_loadPart' o_hl, AutoSeq1.wpAny_loadPart' o_hb
    exact ⟨_, rfl, h⟩
open PySem PySem.Spec PyProof.Rows L2
section
variable {X : Cx} {C : Addr} {bmB : List Value} {B newId initId : String}
/-- X() -/
theorem pmk_own0 {x : Str} {p pos : Pos} (F : ExcBaseFacts B newId initId bmB) (q : PySem.W.excIn X.K C bmB newId = true) (gC : X.mg x = some (.ref C)) (kC : PySem.W.keepIn X.K (.ref C) = true) (r : Raises X (.ref C)) (o_hg : Gl X x)
    (hdb : (x == ("__debug__" : Str)) = false := by decide) : PMk X (.Call (.Name x p) [] [] pos) (fun _ H Q => Q (.ref C) none H) := by
  intro pins s σ H Q I h
  refine wpAny_Call_Name_kw (ld_glob I o_hg gC ?_ hdb)
  refine PySem.W.callWith_K0 I.kIn kC ?_
  show wpAny _ _ (call (.ref C) []) _ _ _
  obtain ⟨bm, N, nm, qn, bs, hdct, sn, sub, ab, col, dd, k0, o_k1, k2, k3, k5, mN, o_hC, o_hN, o_hni, T⟩ := exc_obj I.kIn q
  refine wpAny_call_exc_subT F T o_hC o_hN o_hni (fun h' e o_hm => ?_) (by show 0 ≤ sizeLine; omega)
  exact mk_of I o_hm r h (I.hok.gone o_hm.new)
/-- xs.extend(t), t a tuple -/
def rExtT (K : PySem.W.Frag) : V → List V → Hp → VK → Prop := fun x vs H Q => ∃ l b xs zs, x = .ref l ∧ vs = [.ref b] ∧ H l = some (.lst xs) ∧ SqT K H b zs ∧ xs.length + zs.length ≤ sizeLine ∧ Q .non (upd H l (.lst (xs ++ zs)))
theorem mt_extT : MtM X "list.extend" (rExtT X.K) := by
  intro pins s σ H x vs v us Q I rx o_rv h
  obtain ⟨l, b, xs, zs, rfl, rfl, o_hH, o_hB, o_hz, q⟩ := h
  cases rx
  obtain ⟨u, rfl, ru⟩ := o_rv.one
  cases ru
  obtain ⟨z, o_its, n, r, o_hl, e⟩ := I.lstM o_hH
  obtain ⟨o_its2, o_r2, o_pl, o_hz2⟩ := I.tuple o_hB
  have l2 := o_r2.length
  obtain ⟨⟨c2, dd2, da2, sl2⟩, ho2, hc2, n2, hd2⟩ := o_pl
  dsimp only at hc2 hd2
  subst hc2 hd2
  have o_hsz : o_its.toArray.size + o_its2.toArray.size ≤ sizeLine := by rw [List.size_toArray, List.size_toArray]; omega
  have o_hlong : ¬ (!o_its.toArray.isEmpty && Builtin.List.listTooLong (o_its.toArray.size + o_its2.toArray.size)) = true := by
    rw [notLongL o_hsz, Bool.and_false]
    exact Bool.false_ne_true
  refine call_meets F.slot_list_extend ⟨_, e, rfl⟩ F.entry_list_extend (F.args_list_extend_2 _ _)
    (ext_tuple l o_its.toArray n b o_its2.toArray n2 dd2 sl2 o_hlong (by rw [List.size_toArray]; omega) (by omega)) ⟨e, ho2, ?_⟩
  refine ⟨.non, _, I.lset (its' := o_its ++ o_its2) o_hH e (by simp) (r.append o_r2) ?_, rfl, q⟩
  rw [List.length_append]
  omega
end
end OwR

set_option Elab.async false
set_option linter.all false
set_option maxRecDepth 100000
set_option maxHeartbeats 2000000
namespace OwR
open PySem PySem.Spec PyProof.Rows L2
section
variable {prog : Program} {w : World} {A : Around} {E : Value → Shared → Prop} {s : Shared}
/-- what a list's filling asks, whoever goes on with it -/
abbrev FinP (prog : Program) (w : World) (A : Around) (R : Result → Shared → Prop) : Fin → Shared → Prop :=
  fun o_fin s' => match o_fin with | .done f => R (.ok f) s' | .again o_c' => o_c'.quiet = true ∧ codeAny (model prog w) A o_c' R s'
theorem fill_rev {R : Result → Shared → Prop} {it l S : Addr} {res : Value} {items : Array Value} {c : Nat} (o_hh : A.handled = none) (o_hit : s.heap.IsRevIter it l ((items.size : Int) - 1)) (o_hl : s.heap.IsList l items) (o_hne : l ≠ it) (o_hn : items.size ≤ sizeLine)
    (o_hS : s.heap.get? S = some { cls := .type "list", data := .seq #[] c }) (o_hSi : S ≠ it) (o_hSl : S ≠ l)
    (o_hR : ∀ (h' : Heap) (tk o_c' : Nat) (acc : Array Value), (∀ b o, b ≠ it → b ≠ S → s.heap.get? b = some o → h'.get? b = some o) → h'.get? S = some { cls := .type "list", dict := none, data := .seq acc o_c', slots := #[] } →
      ItemsOf (fun i v => items[items.size - 1 - i]? = some v) acc items.size → R (.ok (.ret res)) { s with heap := h', toks := tk }) :
    wpAny (model prog w) A.in1 (Builtin.List.listExtendWith (.ref S) (.ref it) res) (FinP prog w A R) (fun e s' => R (.error e) s') s := by
  have W := (Walks.listRev (prog := prog) (w := w) (A := A.in1) o_hh it l o_hne items).toS
  have o_hSf : S ∉ [it, l] := by
    simp only [List.mem_cons, List.not_mem_nil, or_false, not_or]
    exact ⟨o_hSi, o_hSl⟩
  have o_hT : s.TypeIs (.ref it) "list_reverseiterator" := o_hit.typeIs
  have h1 : Builtin.List.listSameRef (.ref S) (.ref it) = false := by simp [Builtin.List.listSameRef, o_hSi]
  unfold Builtin.List.listExtendWith
  refine wpAny_bind (wpAny_typeOf o_hT ?_)
  rw [if_neg (by rw [h1]; decide)]
  refine wpAny_bind (wpAny_pyIter_revIter o_hit ?_)
  refine wpAny_bind (wpAny_holding ?_)
  unfold Builtin.List.listLengthHint
  refine wpAny_bind (wpAny_specialOf o_hT RT.nolen_lri ?_)
  show wpAny _ A.in1 (specialOf (Value.ref it) (Str.ofString "__length_hint__") >>= _) _ _ _
  refine wpAny_bind (wpAny_specialOf o_hT RT.hint_lri ?_)
  generalize hid : ("list_reverseiterator.__length_hint__" : String) = id0
  wp_delta
  rw [show splitId id0 = some ("list_reverseiterator", "__length_hint__") from by subst hid; decide +kernel]
  subst hid
  refine wpAny_bind (wpAny_isInstance (b := true) o_hT (by rw [isSubtype_type]; kernel_rfl) ?_)
  refine wpAny_pure ?_
  rw [if_neg (by decide)]
  have e0 : ((items.size : Nat) : Int) - 1 - ((0 : Nat) : Int) = (items.size : Int) - 1 := by omega
  refine wpAny_pure ⟨plainId_quiet F.plain_extend_loop _, codeAny_extend_loopS W o_hn _ o_hSf _ items.size 0 _ _ _ rfl (Nat.zero_le _) ⟨Nat.zero_le _, by rw [e0]; exact o_hit, o_hl⟩ o_hS (ItemsOf.nil _) fun s' o_acc' o_c' o_hm o_hS' o_hacc => ?_⟩
  rw [Moved.eq_with o_hm]
  refine o_hR s'.heap s'.toks o_c' o_acc' (fun b o o_hb hb2 e => o_hm.heap b o (fun hmem => ?_) e) o_hS' o_hacc
  rcases List.mem_cons.mp hmem with e' | hmem
  · exact hb2 e'
  · exact o_hb (List.mem_singleton.mp hmem)
/-- a list's __init__, over any filling -/
theorem init_by {R : Result → Shared → Prop} {S r : Addr} (o_hS : s.heap.get? S = some { cls := .type "list", data := .seq #[] })
    (h : ∀ (o_h2 : Heap) (c : Nat), (∀ b o, b ≠ S → s.heap.get? b = some o → o_h2.get? b = some o) → o_h2.get? S = some { cls := .type "list", data := .seq #[] c } → o_h2.objs.size = s.heap.objs.size →
      wpAny (model prog w) A.in1 (Builtin.List.listExtendWith (.ref S) (.ref r) .none) (FinP prog w A R) (fun e s' => R (.error e) s') { s with heap := o_h2 }) :
    wpAny (model prog w) A.in1 (Builtin.«list.__init__» ⟨[.ref S, .ref r], []⟩) (FinP prog w A R) (fun e s' => R (.error e) s') s := by
  show wpAny _ _ (do let old ← Builtin.List.listItems (.ref S); Builtin.List.listUpdate (.ref S) (fun _ => #[]); letGo old.toList.reverse; Builtin.List.listExtendWith (.ref S) (.ref r) .none) _ _ s
  refine wpAny_bind ?_
  unfold Builtin.List.listItems
  refine wpAny_bind (wpAny_seqItems o_hS rfl (wpAny_pure ?_))
  show wpAny _ _ (updateSeq S (fun _ => #[]) >>= fun _ => letGo (#[] : Array Value).toList.reverse >>= fun _ => Builtin.List.listExtendWith (.ref S) (.ref r) .none) _ _ s
  refine wpAny_bind (wpAny_updateSeq o_hS rfl ?_)
  have o_hS2 := Heap.get?_update_self (Obj.mapSeq (fun _ => (#[] : Array Value))) o_hS rfl
  refine wpAny_bind (wpAny_letGo ?_)
  exact h _ _ (fun b o o_hb e => (Heap.get?_update_other _ _ (Ne.symm o_hb)).trans e) o_hS2 (by simp)
/-- list(r), over any filling -/
theorem list_by {Q : Value → Shared → Prop} {r : Addr}
    (h : ∀ (o_h2 : Heap) (c : Nat), (∀ b o, s.heap.get? b = some o → o_h2.get? b = some o) → o_h2.get? s.heap.objs.size = some { cls := .type "list", data := .seq #[] c } → o_h2.objs.size = s.heap.objs.size + 1 →
      wpAny (model prog w) A.in1.in1 (Builtin.List.listExtendWith (.ref s.heap.objs.size) (.ref r) .none) (FinP prog w A.in1 (fun q s' => q = .ok (.ret .none) ∧ Q (.ref s.heap.objs.size) s')) (fun e s' => False) { s with heap := o_h2 }) :
    wpAny (model prog w) A (call (.type "list") [.ref r]) Q E s := by
  refine callType_codes (Q₁ := fun obj s₁ => obj = .ref s.heap.objs.size ∧ s₁ = { s with heap := s.heap.push { cls := .type "list", data := .seq #[] } }) PySem.F.called_list (PySem.F.typeCall_list_1 _) PySem.F.entry_list_init
    (code_list_new _ ⟨rfl, rfl⟩) fun obj s₁ h₁ => ?_
  obtain ⟨rfl, rfl⟩ := h₁
  have o_hS : (s.heap.push { cls := .type "list", data := .seq #[] }).get? s.heap.objs.size = some { cls := .type "list", data := .seq #[] } := Heap.get?_push_size _ rfl
  refine ⟨⟨_, o_hS, rfl⟩, PySem.F.args_list_init_2 _ _, init_by (A := A.in1) o_hS fun o_h2 c o_hk o_hS2 o_hz => ?_⟩
  refine wpAny_mono (h o_h2 c (fun b o e => o_hk b o (Nat.ne_of_lt (Heap.lt_size e)) (Heap.get?_push_of_some _ e)) o_hS2 (by rw [o_hz]; exact Heap.size_push ..)) (fun o_fin s' x => ?_) (fun e s' x => x.elim)
  cases o_fin with
  | done f =>
    obtain ⟨e, q⟩ := x
    cases e
    exact ⟨rfl, q⟩
  | again o_c' =>
    refine ⟨x.1, codeAny_mono x.2 fun rr s'' y => ?_⟩
    obtain ⟨rfl, q⟩ := y
    exact ⟨rfl, q⟩
theorem call_list_rev {it l : Addr} {items : Array Value} {Q : Value → Shared → Prop} (o_hh : A.handled = none) (o_hit : s.heap.IsRevIter it l ((items.size : Int) - 1)) (o_hl : s.heap.IsList l items) (o_hne : l ≠ it) (o_hn : items.size ≤ sizeLine)
    (o_hQ : ∀ (h' : Heap) (tk o_c' : Nat) (acc : Array Value), (∀ b o, b ≠ it → s.heap.get? b = some o → h'.get? b = some o) → h'.get? s.heap.objs.size = some { cls := .type "list", dict := none, data := .seq acc o_c', slots := #[] } →
      ItemsOf (fun i v => items[items.size - 1 - i]? = some v) acc items.size → Q (.ref s.heap.objs.size) { s with heap := h', toks := tk }) :
    wpAny (model prog w) A (call (.type "list") [.ref it]) Q E s := by
  obtain ⟨oi, o_hoi, _⟩ := id o_hit
  obtain ⟨ol, o_hol, _⟩ := id o_hl
  refine list_by fun o_h2 c o_hk o_hS o_hz => ?_
  refine wpAny_mono (fill_rev (A := A.in1) (s := { s with heap := o_h2 }) (S := s.heap.objs.size) (R := fun q s' => q = .ok (.ret .none) ∧ Q (.ref s.heap.objs.size) s') o_hh (o_hit.at fun o e => o_hk _ o e) (o_hl.at fun o e => o_hk _ o e) o_hne o_hn o_hS (Nat.ne_of_gt (Heap.lt_size o_hoi)) (Nat.ne_of_gt (Heap.lt_size o_hol)) fun h' tk o_c' acc hk' o_hS' o_hacc => ?_) (fun _ _ x => x) (fun e s' x => by cases x.1)
  exact ⟨rfl, o_hQ h' tk o_c' acc (fun b o o_hb e => hk' b o o_hb (Nat.ne_of_lt (Heap.lt_size e)) (o_hk b o e)) o_hS' o_hacc⟩
end
section
variable {X : Cx}
/-- list(reversed(x)), x a list: a o_new list -/
def tLstRev (K : PySem.W.Frag) (te : TE) : TE := fun σ H Q => te σ H fun v H1 => ∃ (a : Addr) (xs : List V), v = .ref a ∧ SqL K H1 a xs ∧ ∀ q, H1 q = none → Q (.ref q) (upd H1 q (.lst xs.reverse))
theorem pe_lstRev {e : Expr} {te : TE} {p o_p2 pos pos2 : Pos} (o_hc : X.calm = true) (o_hg : Gl X "list") (o_hm : X.mg "list" = none) (o_hg2 : Gl X "reversed") (o_hm2 : X.mg "reversed" = none) (he : PE X e te)
    (o_hs : starEach [e] X.env = (false, eval e X.env) :: starEach [] X.env := by rfl)
    (o_hs2 : starEach [.Call (.Name "reversed" o_p2) [e] [] pos2] X.env = (false, eval (.Call (.Name "reversed" o_p2) [e] [] pos2) X.env) :: starEach [] X.env := by rfl) :
    PE X (.Call (.Name "list" p) [.Call (.Name "reversed" o_p2) [e] [] pos2] [] pos) (tLstRev X.K te) := by
  refine ⟨fun pins s σ H Q I h => ?_⟩
  refine Call_ (ld_blt I o_hg o_hm boot_list (PyProof.Rows.callWith_type1 (args_cons (Call_ (ld_blt I o_hg2 o_hm2 PyProof.Rows.boot_reversed (PyProof.Rows.callWith_type1 (args_cons (thn (he.run pins s σ H _ I h) fun u s1 ⟨v, H1, I1, r1, q1⟩ => args_nil ?_) o_hs) o_hs rfl))) o_hs2) o_hs2 rfl))
  obtain ⟨a, xs, ev, hq, q⟩ := q1
  subst ev
  obtain rfl : u = Value.ref a := r1
  obtain ⟨o_its, o_rv, p', o_hz⟩ := I1.list hq
  refine call_reversed_list p'.isList (args_nil ?_)
  have k0 : ∀ b o, s1.heap.get? b = some o → (s1.heap.push (revObj a ((o_its.toArray.size : Int) - 1))).get? b = some o := fun b o e => Heap.get?_push_of_some _ e
  have I2 : Inv X pins σ H1 { s1 with heap := s1.heap.push (revObj a ((o_its.toArray.size : Int) - 1)) } := I1.kept (t' := s1.toks) k0
  obtain ⟨f0, f1, f2, f3, f4, f5⟩ := I1.fpOk (H' := H1) (b := s1.heap.objs.size) (Nat.le_refl _) (I1.hok.fresh (Nat.le_refl _))
  have o_hl := p'.isList
  obtain ⟨ol, o_hol, _⟩ := id o_hl
  have o_hne : a ≠ s1.heap.objs.size := Nat.ne_of_lt (Heap.lt_size o_hol)
  have o_hn : o_its.toArray.size ≤ sizeLine := by rw [List.size_toArray, ← o_rv.length]; exact o_hz
  refine call_list_rev (s := { s1 with heap := s1.heap.push (revObj a ((o_its.toArray.size : Int) - 1)) }) (I1.ok.hd o_hc) ⟨_, Heap.get?_push_size _ rfl, rfl, rfl⟩ (o_hl.push _) o_hne o_hn fun h' tk o_c' acc o_hk o_hS hi => ?_
  have o_hz2 : s1.heap.objs.size ≤ (s1.heap.push (revObj a ((o_its.toArray.size : Int) - 1))).objs.size := by rw [Heap.size_push]; omega
  refine ⟨.ref _, upd H1 _ (.lst xs.reverse), I1.laid (t' := tk) (fun b o e => o_hk b o (Nat.ne_of_lt (Heap.lt_size e)) (k0 b o e)) o_hz2 (show ObjOk X.prog X.w _ _ _ (.lst xs.reverse) from ⟨by rw [List.length_reverse]; exact o_hz, acc.toList, o_c', RT.vals_rev o_rv hi, ?_⟩), rfl, q _ (I1.hok.fresh o_hz2)⟩
  rw [Array.toArray_toList]
  exact o_hS
end
end OwR

set_option Elab.async false
set_option linter.all false
set_option maxRecDepth 100000
set_option maxHeartbeats 2000000
namespace OwR
open PySem PySem.Spec PyProof.Rows L2
theorem zip_nolen : typeLookup (.type "zip") "__len__" = pure none := by rw [typeLookup_type, builtinLookup_eq_fast]; kernel_rfl
theorem zip_nohint : typeLookup (.type "zip") "__length_hint__" = pure none := by rw [typeLookup_type, builtinLookup_eq_fast]; kernel_rfl
/-- where a zip stands while o_its tuples are kept in the list at S -/
structure ZSt (h : Heap) (z TI TO i1 i2 l1 l2 S : Addr) (xs ys : Array Value) (i : Nat) : Prop where
  ti : IsPair h TI (.ref i1) (.ref i2)
  a1 : h.IsListIter i1 l1 i
  a2 : h.IsListIter i2 l2 i
  b1 : h.IsList l1 xs
  b2 : h.IsList l2 ys
  out : (IsZip h z TI TO .none ∧ ∃ a b, IsPair h TO a b) ∨ ∃ T f oT, PySem.IsZipHeld h z TI TO T f ∧ h.get? T = some oT ∧ T ≠ z ∧ T ≠ i1 ∧ T ≠ i2 ∧ T ≠ S
/-- the list's address lies apart from the zip's cells -/
structure SApart (S z TI TO i1 i2 l1 l2 : Addr) : Prop where
  z : S ≠ z
  ti : S ≠ TI
  to : S ≠ TO
  i1 : S ≠ i1
  i2 : S ≠ i2
  l1 : S ≠ l1
  l2 : S ≠ l2
/-- the tuples made so far -/
structure ZG (xs ys : Array Value) (lo : Addr) (h : Heap) (as : List Addr) : Prop where
  rise : as.Pairwise (· < ·)
  above : ∀ a ∈ as, lo ≤ a
  pairs : ∀ (j : Nat) (a : Addr), as[j]? = some a → ∃ x y, xs[j]? = some x ∧ ys[j]? = some y ∧ IsPair h a x y
theorem ZG.there {xs ys : Array Value} {lo : Addr} {h : Heap} {as : List Addr} (g : ZG xs ys lo h as) {a : Addr} (ha : a ∈ as) : a < h.objs.size := by
  obtain ⟨j, hj⟩ := List.mem_iff_getElem?.mp ha
  obtain ⟨_, _, _, _, e⟩ := g.pairs j a hj
  exact Heap.lt_size e
theorem ZSt.keep {h h' : Heap} {z TI TO i1 i2 l1 l2 S : Addr} {xs ys : Array Value} {i : Nat} (x : ZSt h z TI TO i1 i2 l1 l2 S xs ys i) (A : SApart S z TI TO i1 i2 l1 l2) (o_hk : ∀ b o, b ≠ S → h.get? b = some o → h'.get? b = some o) : ZSt h' z TI TO i1 i2 l1 l2 S xs ys i := by
  refine ⟨o_hk _ _ A.ti.symm x.ti, x.a1.at fun o e => o_hk _ o A.i1.symm e, x.a2.at fun o e => o_hk _ o A.i2.symm e, x.b1.at fun o e => o_hk _ o A.l1.symm e, x.b2.at fun o e => o_hk _ o A.l2.symm e, ?_⟩
  rcases x.out with ⟨o_hz, a, b, o_hTO⟩ | ⟨T, f, oT, o_hz, o_hT, r1, o_r2, r3, r4⟩
  · exact .inl ⟨o_hk _ _ A.z.symm o_hz, a, b, o_hk _ _ A.to.symm o_hTO⟩
  · exact .inr ⟨T, f, oT, o_hk _ _ A.z.symm o_hz, o_hk _ _ r4 o_hT, r1, o_r2, r3, r4⟩
section
variable {prog : Program} {w : World} {A : Around} {E : Value → Shared → Prop} {s : Shared} {z TI TO i1 i2 l1 l2 S : Addr} {xs ys : Array Value}
theorem zl_item {i : Nat} {x y : Value} {Q : Option Value → Shared → Prop} (D : ZipApart z TI TO i1 i2 l1 l2) (st : ZSt s.heap z TI TO i1 i2 l1 l2 S xs ys i) (o_hS : S < s.heap.objs.size) (ex : xs[i]? = some x) (ey : ys[i]? = some y)
    (o_hQ : ∀ h', ZSt h' z TI TO i1 i2 l1 l2 S xs ys (i + 1) → IsPair h' s.heap.objs.size x y → h'.objs.size = s.heap.objs.size + 1 → (∀ c o, c ≠ z → c ≠ TO → c ≠ i1 → c ≠ i2 → s.heap.get? c = some o → h'.get? c = some o) → Q (some (.ref s.heap.objs.size)) { s with heap := h' }) :
    wpAny (model prog w) A (pyNext (.ref z)) Q E s := by
  obtain ⟨o_hTI, h1, h2, o_hl1, o_hl2, o_hz⟩ := st
  have lt : ∀ {c o}, s.heap.get? c = some o → s.heap.objs.size ≠ c := fun e => Nat.ne_of_gt (Heap.lt_size e)
  have n1 : s.heap.objs.size ≠ i1 := let ⟨_, e, _⟩ := h1; lt e
  have n2 : s.heap.objs.size ≠ i2 := let ⟨_, e, _⟩ := h2; lt e
  rcases o_hz with ⟨o_hz, a, b, o_hTO⟩ | ⟨T, f, oT, o_hz, o_hT, r1, o_r2, r3, r4⟩
  · refine wpAny_pyNext_zip_item D o_hz o_hTI o_hTO h1 h2 o_hl1 o_hl2 ex ey fun h' a1 a2 a3 a4 a5 a6 o_hk => ?_
    exact o_hQ h' ⟨o_hk _ _ D.TIz D.TITO D.TIi1 D.TIi2 o_hTI, a3, a4, o_hl1.at fun o e => o_hk _ o D.l1z D.l1TO D.l1i1 D.l1i2 e, o_hl2.at fun o e => o_hk _ o D.l2z D.l2TO D.l2i1 D.l2i2 e,
      .inr ⟨s.heap.objs.size, false, _, a1, a5, lt o_hz, n1, n2, Nat.ne_of_gt o_hS⟩⟩ a5 a6 o_hk
  · refine PySem.wpAny_pyNext_zip_item_held D o_hz o_hT o_hTI h1 h2 o_hl1 o_hl2 ex ey fun h' a1 a3 a4 a5 a6 o_hk => ?_
    exact o_hQ h' ⟨o_hk _ _ D.TIz D.TIi1 D.TIi2 o_hTI, a3, a4, o_hl1.at fun o e => o_hk _ o D.l1z D.l1i1 D.l1i2 e, o_hl2.at fun o e => o_hk _ o D.l2z D.l2i1 D.l2i2 e,
      .inr ⟨T, true, oT, a1, o_hk _ _ r1 o_r2 r3 o_hT, r1, o_r2, r3, r4⟩⟩ a5 a6 fun c o c1 _ c3 c4 e => o_hk c o c1 c3 c4 e
theorem zl_done {i : Nat} {Q : Option Value → Shared → Prop} (o_hh : A.handled = none) (D : ZipApart z TI TO i1 i2 l1 l2) (st : ZSt s.heap z TI TO i1 i2 l1 l2 S xs ys i) (o_hend : xs[i]? = none ∨ ys[i]? = none)
    (o_hQ : ∀ h', (∀ c o, c ≠ z → c ≠ TO → c ≠ i1 → c ≠ i2 → s.heap.get? c = some o → h'.get? c = some o) → Q none { s with heap := h' }) :
    wpAny (model prog w) A (pyNext (.ref z)) Q E s := by
  obtain ⟨o_hTI, h1, h2, o_hl1, o_hl2, o_hz⟩ := st
  rcases o_hz with ⟨o_hz, a, b, o_hTO⟩ | ⟨T, f, oT, o_hz, o_hT, r1, o_r2, r3, r4⟩
  · exact wpAny_pyNext_zip_end o_hh D o_hz o_hTI o_hTO h1 h2 o_hl1 o_hl2 o_hend fun h' o_hk => o_hQ h' o_hk
  · exact PySem.wpAny_pyNext_zip_end_held o_hh D o_hz o_hT o_hTI h1 h2 o_hl1 o_hl2 o_hend fun h' o_hk => o_hQ h' fun c o c1 _ c3 c4 e => o_hk c o c1 c3 c4 e
end
section
variable {prog : Program} {w : World} {A : Around} {s : Shared} {R : Result → Shared → Prop} {z TI TO i1 i2 l1 l2 S lo : Addr} {xs ys : Array Value} {n : Nat}
theorem ne_lo {a b c : Addr} (h1 : a < c) (h2 : c ≤ b) : b ≠ a := Nat.ne_of_gt (Nat.lt_of_lt_of_le h1 h2)
theorem zl_loop (o_hh : A.handled = none) (D : ZipApart z TI TO i1 i2 l1 l2) (SA : SApart S z TI TO i1 i2 l1 l2) (lS : S < lo) (lz : z < lo) (lT : TO < lo) (l1' : i1 < lo) (l2' : i2 < lo) (en : n = min xs.size ys.size) (o_hn : n ≤ sizeLine) (res : Value) {h₁ : Heap}
    (o_hR : ∀ h' tk acc c as, (∀ b o, b ≠ S → b ≠ z → b ≠ TO → b ≠ i1 → b ≠ i2 → h₁.get? b = some o → h'.get? b = some o) → h'.get? S = some { cls := .type "list", dict := none, data := .seq acc c, slots := #[] } → as.length = n → ZG xs ys lo h' as →
      acc.toList = as.map Value.ref → R (.ok (.ret res)) { s with heap := h', toks := tk }) :
    ∀ (k i : Nat) (h : Heap) (tk c : Nat) (acc : Array Value) (as : List Addr), n - i = k → i ≤ n → ZSt h z TI TO i1 i2 l1 l2 S xs ys i → (∀ b o, b ≠ S → b ≠ z → b ≠ TO → b ≠ i1 → b ≠ i2 → h₁.get? b = some o → h.get? b = some o) →
      h.get? S = some { cls := .type "list", dict := none, data := .seq acc c, slots := #[] } → acc.toList = as.map Value.ref → as.length = i → ZG xs ys lo h as → lo ≤ h.objs.size →
      codeAny (model prog w) A (.builtin "list.extend.loop" ⟨[.ref S, .ref z, res], []⟩) R { s with heap := h, toks := tk } := by
  intro k
  induction k with
  | zero =>
    intro i h tk c acc as o_hk hi o_hst o_hkeep o_hS o_hacc o_hal o_hG o_hlo
    have o_hin : i = min xs.size ys.size := by omega
    refine codeAny_builtin PySem.F.entry_extend_loop ?_
    rw [Around.under_plainId PySem.F.plain_extend_loop _]
    show wpAny _ A.in1 (pyNext (.ref z) >>= _) _ _ _
    have o_hend : xs[i]? = none ∨ ys[i]? = none := by
      rcases Nat.le_total xs.size ys.size with q | q
      · exact .inl (Array.getElem?_eq_none (by omega))
      · exact .inr (Array.getElem?_eq_none (by omega))
    refine wpAny_bind (zl_done (s := { s with heap := h, toks := tk }) (A := A.in1) o_hh D o_hst o_hend fun h' he => ?_)
    refine wpAny_pure (o_hR h' tk acc c as (fun b o h1 h2 h3 h4 h5 e => he b o h2 h3 h4 h5 (o_hkeep b o h1 h2 h3 h4 h5 e)) (he S _ SA.z SA.to SA.i1 SA.i2 o_hS) (by omega) ⟨o_hG.rise, o_hG.above, fun j a hj => ?_⟩ o_hacc)
    obtain ⟨x, y, e1, e2, e3⟩ := o_hG.pairs j a hj
    have o_hb := o_hG.above a (List.mem_of_getElem? hj)
    exact ⟨x, y, e1, e2, he a _ (ne_lo lz o_hb) (ne_lo lT o_hb) (ne_lo l1' o_hb) (ne_lo l2' o_hb) e3⟩
  | succ k ih =>
    intro i h tk c acc as o_hk hi o_hst o_hkeep o_hS o_hacc o_hal o_hG o_hlo
    have o_hix : i < xs.size := by omega
    have o_hiy : i < ys.size := by omega
    have o_hsz : acc.size = i := by rw [← Array.length_toList, o_hacc, List.length_map, o_hal]
    refine codeAny_builtin PySem.F.entry_extend_loop ?_
    rw [Around.under_plainId PySem.F.plain_extend_loop _]
    show wpAny _ A.in1 (pyNext (.ref z) >>= _) _ _ _
    refine wpAny_bind (zl_item (s := { s with heap := h, toks := tk }) (S := S) D o_hst (Heap.lt_size o_hS) (Array.getElem?_eq_getElem o_hix) (Array.getElem?_eq_getElem o_hiy) fun h' hst' ht o_hz hkp => ?_)
    dsimp only at ht o_hz hkp ⊢
    have o_hS' := hkp S _ SA.z SA.to SA.i1 SA.i2 o_hS
    have up : ∀ b o, b ≠ S → h'.get? b = some o → (h'.update S (Obj.mapSeq (·.push (Value.ref h.objs.size)))).get? b = some o := fun b o o_hb e => (Heap.get?_update_other _ _ (Ne.symm o_hb)).trans e
    have o_hSl : S < h.objs.size := Heap.lt_size o_hS
    show wpAny _ A.in1 (updateSeq S (·.push (Value.ref h.objs.size)) >>= _) _ _ _
    refine wpAny_bind ?_
    refine wpAny_updateSeq o_hS' rfl (wpAny_pure ⟨plainId_quiet PySem.F.plain_extend_loop _, ih (i + 1) _ tk _ (acc.push (Value.ref h.objs.size)) (as ++ [h.objs.size]) (by omega) (by omega) (hst'.keep SA up)
      (fun b o h1 h2 h3 h4 h5 e => up b o h1 (hkp b o h2 h3 h4 h5 (o_hkeep b o h1 h2 h3 h4 h5 e))) (Heap.get?_update_self _ o_hS' rfl) (by rw [Array.toList_push, o_hacc, List.map_append]; rfl) (by rw [List.length_append, o_hal]; rfl) ⟨?_, ?_, ?_⟩ ?_⟩) (by rw [o_hsz]; omega) (by show (acc.push (Value.ref h.objs.size)).size ≤ sizeLine + 1; rw [Array.size_push, o_hsz]; omega)
    · refine List.pairwise_append.mpr ⟨o_hG.rise, List.pairwise_singleton _ _, fun a ha b o_hb => ?_⟩
      rw [List.mem_singleton.mp o_hb]
      exact o_hG.there ha
    · intro a ha
      rcases List.mem_append.mp ha with ha | ha
      · exact o_hG.above a ha
      · rw [List.mem_singleton.mp ha]; exact o_hlo
    · intro j b hj
      rcases Nat.lt_trichotomy j as.length with h1 | h1 | h1
      · rw [List.getElem?_append_left h1] at hj
        obtain ⟨x', y', e1, e2, e3⟩ := o_hG.pairs j b hj
        have o_hb := o_hG.above b (List.mem_of_getElem? hj)
        exact ⟨x', y', e1, e2, up b _ (ne_lo lS o_hb) (hkp b _ (ne_lo lz o_hb) (ne_lo lT o_hb) (ne_lo l1' o_hb) (ne_lo l2' o_hb) e3)⟩
      · subst h1
        have o_hb : h.objs.size = b := by simpa using hj
        subst o_hb
        exact ⟨_, _, by rw [o_hal]; exact Array.getElem?_eq_getElem o_hix, by rw [o_hal]; exact Array.getElem?_eq_getElem o_hiy, up _ _ (Nat.ne_of_gt o_hSl) ht⟩
      · have hnone : (as ++ [h.objs.size])[j]? = none := List.getElem?_eq_none (by rw [List.length_append, List.length_singleton]; omega)
        rw [hnone] at hj; cases hj
    · have e : (h'.update S (Obj.mapSeq (·.push (Value.ref h.objs.size)))).get? h.objs.size = _ := up _ _ (Nat.ne_of_gt o_hSl) ht
      exact Nat.le_trans o_hlo (Nat.le_of_lt (Heap.lt_size e))
theorem fill_zip (o_hh : A.handled = none) (D : ZipApart z TI TO i1 i2 l1 l2) (SA : SApart S z TI TO i1 i2 l1 l2) (lS : S < lo) (lz : z < lo) (lT : TO < lo) (l1' : i1 < lo) (l2' : i2 < lo) (elo : lo = s.heap.objs.size) (en : n = min xs.size ys.size) (o_hn : n ≤ sizeLine) (res : Value) {c₀ : Nat}
    (o_hz : IsZip s.heap z TI TO .none) (o_hTI : IsPair s.heap TI (.ref i1) (.ref i2)) {a b : Value} (o_hTO : IsPair s.heap TO a b) (h1 : s.heap.IsListIter i1 l1 0) (h2 : s.heap.IsListIter i2 l2 0) (o_hl1 : s.heap.IsList l1 xs) (o_hl2 : s.heap.IsList l2 ys)
    (o_hS : s.heap.get? S = some { cls := .type "list", data := .seq #[] c₀ })
    (o_hR : ∀ h' tk acc c as, (∀ b o, b ≠ S → b ≠ z → b ≠ TO → b ≠ i1 → b ≠ i2 → s.heap.get? b = some o → h'.get? b = some o) → h'.get? S = some { cls := .type "list", dict := none, data := .seq acc c, slots := #[] } → as.length = n → ZG xs ys lo h' as →
      acc.toList = as.map Value.ref → R (.ok (.ret res)) { s with heap := h', toks := tk }) :
    wpAny (model prog w) A.in1 (Builtin.List.listExtendWith (.ref S) (.ref z) res) (FinP prog w A R) (fun e s' => R (.error e) s') s := by
  have o_hT : s.TypeIs (.ref z) "zip" := ⟨_, o_hz, rfl⟩
  have o_hsr : Builtin.List.listSameRef (.ref S) (.ref z) = false := by simp [Builtin.List.listSameRef, SA.z]
  unfold Builtin.List.listExtendWith
  refine wpAny_bind (wpAny_typeOf o_hT ?_)
  rw [if_neg (by rw [o_hsr]; decide)]
  refine wpAny_bind (wpAny_pyIter_zip o_hz ?_)
  refine wpAny_bind (wpAny_holding ?_)
  unfold Builtin.List.listLengthHint
  refine wpAny_bind (wpAny_specialOf o_hT zip_nolen ?_)
  show wpAny _ A.in1 (specialOf (Value.ref z) (Str.ofString "__length_hint__") >>= _) _ _ _
  refine wpAny_bind (wpAny_specialOf o_hT zip_nohint ?_)
  refine wpAny_pure ?_
  show wpAny _ A.in1 (rule "list.extend.makes-room" >>= fun _ => Builtin.List.listTouch (.ref S) >>= fun _ =>
    again (.builtin "list.extend.loop" ⟨[.ref S, .ref z, res], []⟩)) _ _ _
  refine wpAny_bind (wpAny_rule ?_)
  refine wpAny_bind ?_
  show wpAny _ A.in1 (updateSeq S (·.push .none) >>= fun _ => updateSeq S (·.pop)) _ _ _
  refine wpAny_bind (wpAny_updateSeq o_hS rfl ?_)
  have o_hS2 := Heap.get?_update_self (Obj.mapSeq (·.push Value.none)) o_hS rfl
  refine wpAny_updateSeq (hz := by seq_fits) o_hS2 rfl ?_
  have o_hS3 := Heap.get?_update_self (Obj.mapSeq (·.pop)) o_hS2 rfl
  have o_oth : ∀ b o, b ≠ S → s.heap.get? b = some o → ((s.heap.update S (Obj.mapSeq (·.push Value.none))).update S (Obj.mapSeq (·.pop))).get? b = some o :=
    fun b o o_hb e => (Heap.get?_update_other _ _ (Ne.symm o_hb)).trans ((Heap.get?_update_other _ _ (Ne.symm o_hb)).trans e)
  have o_st0 : ZSt s.heap z TI TO i1 i2 l1 l2 S xs ys 0 := ⟨o_hTI, h1, h2, o_hl1, o_hl2, .inl ⟨o_hz, a, b, o_hTO⟩⟩
  refine wpAny_pure ⟨plainId_quiet F.plain_extend_loop _, ?_⟩
  exact zl_loop (s := s) (h₁ := s.heap) o_hh D SA lS lz lT l1' l2' en o_hn res (fun h' tk acc c as o_hk o_hS' o_hl o_hG o_hacc => o_hR h' tk acc c as o_hk o_hS' o_hl o_hG o_hacc)
    n 0 _ s.toks _ #[] [] (by omega) (by omega) (o_st0.keep SA o_oth) (fun b o o_hb _ _ _ _ e => o_oth b o o_hb e) o_hS3 rfl rfl ⟨List.Pairwise.nil, (fun _ ha => nomatch ha), (fun j a hj => by simp at hj)⟩ (by rw [elo]; simp)
end
end OwR

set_option Elab.async false
set_option linter.all false
set_option maxRecDepth 100000
set_option maxHeartbeats 2000000
namespace OwR
open PySem PySem.Spec PyProof.Rows L2
section
variable {prog : Program} {w : World} {A : Around} {E : Value → Shared → Prop} {s : Shared}
theorem call_list_zip {z TI TO i1 i2 l1 l2 : Addr} {xs ys : Array Value} {n : Nat} {a b : Value} {Q : Value → Shared → Prop} (o_hh : A.handled = none) (D : ZipApart z TI TO i1 i2 l1 l2) (en : n = min xs.size ys.size) (o_hn : n ≤ sizeLine)
    (o_hz : IsZip s.heap z TI TO .none) (o_hTI : IsPair s.heap TI (.ref i1) (.ref i2)) (o_hTO : IsPair s.heap TO a b) (h1 : s.heap.IsListIter i1 l1 0) (h2 : s.heap.IsListIter i2 l2 0) (o_hl1 : s.heap.IsList l1 xs) (o_hl2 : s.heap.IsList l2 ys)
    (o_hQ : ∀ (h' : Heap) (tk : Nat) (acc : Array Value) (c : Nat) (as : List Addr), (∀ b o, b ≠ z → b ≠ TO → b ≠ i1 → b ≠ i2 → s.heap.get? b = some o → h'.get? b = some o) → h'.get? s.heap.objs.size = some { cls := .type "list", dict := none, data := .seq acc c, slots := #[] } → as.length = n →
      ZG xs ys (s.heap.objs.size + 1) h' as → acc.toList = as.map Value.ref → Q (.ref s.heap.objs.size) { s with heap := h', toks := tk }) :
    wpAny (model prog w) A (call (.type "list") [.ref z]) Q E s := by
  have o_k1 : i1 < s.heap.objs.size := let ⟨_, e, _⟩ := h1; Heap.lt_size e
  have k2 : i2 < s.heap.objs.size := let ⟨_, e, _⟩ := h2; Heap.lt_size e
  have k3 : l1 < s.heap.objs.size := let ⟨_, e, _⟩ := o_hl1; Heap.lt_size e
  have k4 : l2 < s.heap.objs.size := let ⟨_, e, _⟩ := o_hl2; Heap.lt_size e
  have k5 : z < s.heap.objs.size := Heap.lt_size o_hz
  have k6 : TI < s.heap.objs.size := Heap.lt_size o_hTI
  have k7 : TO < s.heap.objs.size := Heap.lt_size o_hTO
  have SA : SApart s.heap.objs.size z TI TO i1 i2 l1 l2 := ⟨Nat.ne_of_gt k5, Nat.ne_of_gt k6, Nat.ne_of_gt k7, Nat.ne_of_gt o_k1, Nat.ne_of_gt k2, Nat.ne_of_gt k3, Nat.ne_of_gt k4⟩
  refine list_by fun o_h2 c o_hk o_hS o_hsz => ?_
  refine wpAny_mono (fill_zip (A := A.in1) (s := { s with heap := o_h2 }) (S := s.heap.objs.size) (lo := s.heap.objs.size + 1) (R := fun q s' => q = .ok (.ret .none) ∧ Q (.ref s.heap.objs.size) s') o_hh D SA (Nat.lt_succ_self _) (Nat.lt_succ_of_lt k5) (Nat.lt_succ_of_lt k7) (Nat.lt_succ_of_lt o_k1) (Nat.lt_succ_of_lt k2) o_hsz.symm en o_hn .none
    (o_hk _ _ o_hz) (o_hk _ _ o_hTI) (o_hk _ _ o_hTO) (h1.at fun o e => o_hk _ o e) (h2.at fun o e => o_hk _ o e) (o_hl1.at fun o e => o_hk _ o e) (o_hl2.at fun o e => o_hk _ o e) o_hS fun h' tk acc o_c' as hk' o_hS' o_hl o_hG o_hacc => ?_) (fun _ _ x => x) (fun e s' x => by cases x.1)
  exact ⟨rfl, o_hQ h' tk acc o_c' as (fun b o c1 c2 c3 c4 e => hk' b o (Nat.ne_of_lt (Heap.lt_size e)) c1 c2 c3 c4 (o_hk b o e)) o_hS' o_hl o_hG o_hacc⟩
end
/-- tuples of two, tracked at their addresses -/
def putP : Hp → List Addr → List (V × V) → Hp
  | H, a :: as, p :: ps => putP (upd H a (.tup [p.1, p.2])) as ps
  | H, _, _ => H
theorem putP_off {b : Addr} : ∀ (as : List Addr) (ps : List (V × V)) (H : Hp), b ∉ as → putP H as ps b = H b
  | [], _, _, _ => rfl
  | _ :: _, [], _, _ => rfl
  | a :: as, p :: ps, H, h => by
    show putP (upd H a (.tup [p.1, p.2])) as ps b = H b
    rw [putP_off as ps _ (fun z => h (List.mem_cons_of_mem _ z)), upd_ne (fun z => h (by rw [z]; exact List.mem_cons_self))]
/-- the address at place j holds the pair at place j -/
def AtP (H : Hp) (as : List Addr) (ps : List (V × V)) : Prop := as.length = ps.length ∧ ∀ (j : Nat) (a : Addr) (p : V × V), as[j]? = some a → ps[j]? = some p → H a = some (.tup [p.1, p.2])
theorem putP_at : ∀ (as : List Addr) (ps : List (V × V)) (H : Hp), as.length = ps.length → as.Nodup → AtP (putP H as ps) as ps
  | [], [], _, _, _ => ⟨rfl, fun j a p h => by simp at h⟩
  | [], _ :: _, _, h, _ => by cases h
  | _ :: _, [], _, h, _ => by cases h
  | a :: as, p :: ps, H, h, o_hn => by
    have o_hn' := List.nodup_cons.mp o_hn
    have ih := putP_at as ps (upd H a (.tup [p.1, p.2])) (Nat.succ.inj h) o_hn'.2
    refine ⟨h, fun j b q o_hb hq => ?_⟩
    cases j with
    | zero =>
      simp only [List.getElem?_cons_zero, Option.some.injEq] at o_hb hq
      subst o_hb hq
      show putP (upd H a (.tup [p.1, p.2])) as ps a = _
      rw [putP_off as ps _ o_hn'.1, upd_same]
    | succ j => exact ih.2 j b q (by simpa using o_hb) (by simpa using hq)
theorem vals_refs2 : ∀ as : List Addr, Vals (as.map V.ref) (as.map Value.ref)
  | [] => .nil
  | _ :: as => .cons rfl (vals_refs2 as)
theorem vals_at : ∀ {xs : List V} {us : List Value}, Vals xs us → ∀ {j : Nat} {u : Value}, us[j]? = some u → ∃ x, xs[j]? = some x ∧ RelV x u
  | _, _, .nil, j, u, h => by simp at h
  | _, _, .cons r t, 0, u, h => by
    simp only [List.getElem?_cons_zero, Option.some.injEq] at h
    subst h
    exact ⟨_, rfl, r⟩
  | _, _, .cons r t, j + 1, u, h => by
    obtain ⟨x, e, q⟩ := vals_at t (j := j) (u := u) (by simpa using h)
    exact ⟨x, by simpa using e, q⟩
def rLstZip (K : PySem.W.Frag) : List V → Hp → VK → Prop := fun vs H Q => ∃ (a b : Addr) (xs ys : List V), vs = [.ref a, .ref b] ∧ SqL K H a xs ∧ SqL K H b ys ∧
  ∀ (H' : Hp) (p : Addr) (ts : List Addr), Same H H' → H p = none → (∀ t ∈ ts, H t = none) → H' p = some (.lst (ts.map V.ref)) → AtP H' ts (xs.zip ys) → Q (.ref p) H'
def tLstZip (K : PySem.W.Frag) (ta : TA) : TE := fun σ H Q => ta σ H fun vs H1 => rLstZip K vs H1 Q
section
variable {X : Cx} {p o_p2 pos pos2 : Pos}
theorem zip_laid {pins : List (Addr × Obj)} {σ : L2.St} {H : Hp} {s : Shared} {h' : Heap} {tk c : Nat} {S : Addr} {xs ys : List V} {us vs : List Value} {acc : Array Value} {as : List Addr} (I : Inv X pins σ H s) (o_hz : xs.length ≤ sizeLine) (o_kx : Vals xs us) (o_ky : Vals ys vs)
    (o_hk : ∀ b o, s.heap.get? b = some o → h'.get? b = some o) (o_hle : s.heap.objs.size ≤ S) (o_hS : h'.get? S = some { cls := .type "list", dict := none, data := .seq acc c, slots := #[] }) (o_hl : as.length = min us.length vs.length) (o_hG : ZG us.toArray vs.toArray (S + 1) h' as) (o_hacc : acc.toList = as.map Value.ref) :
    ∃ H' : Hp, Same H H' ∧ H S = none ∧ (∀ t ∈ as, H t = none) ∧ H' S = some (.lst (as.map V.ref)) ∧ AtP H' as (xs.zip ys) ∧ Inv X pins σ H' { s with heap := h', toks := tk } := by
  have o_lx := o_kx.length
  have o_ly := o_ky.length
  have o_hln : as.length = (xs.zip ys).length := by rw [List.length_zip]; omega
  have o_hSn : S ∉ as := fun z => Nat.not_succ_le_self _ (o_hG.above _ z)
  have ge : ∀ t ∈ as, s.heap.objs.size ≤ t := fun t ht => Nat.le_trans o_hle (Nat.le_trans (Nat.le_succ _) (o_hG.above t ht))
  have o_nd : as.Nodup := List.Pairwise.imp (fun {a b} (h : a < b) => Nat.ne_of_lt h) o_hG.rise
  have o_new : ∀ t ∈ as, H t = none := fun t ht => I.hok.fresh (ge t ht)
  have o_newS : H S = none := I.hok.fresh o_hle
  have o_atP := putP_at as (xs.zip ys) (upd H S (.lst (as.map V.ref))) o_hln o_nd
  have o_off : ∀ b, b ∉ as → b ≠ S → putP (upd H S (.lst (as.map V.ref))) as (xs.zip ys) b = H b := fun b h1 h2 => by rw [putP_off as _ _ h1, upd_ne h2]
  have o_low : ∀ b o, s.heap.get? b = some o → b ∉ as ∧ b ≠ S := fun b o e => ⟨fun z => absurd (Heap.lt_size e) (Nat.not_lt.mpr (ge b z)), Nat.ne_of_lt (Nat.lt_of_lt_of_le (Heap.lt_size e) o_hle)⟩
  have o_kp : ∀ b u, H b = some u → (putP (upd H S (.lst (as.map V.ref))) as (xs.zip ys)) b = some u := fun b u e => by
    rw [o_off b (fun z => by rw [o_new b z] at e; cases e) (fun z => by rw [z, o_newS] at e; cases e)]
    exact e
  have o_eS : putP (upd H S (.lst (as.map V.ref))) as (xs.zip ys) S = some (.lst (as.map V.ref)) := by rw [putP_off as _ _ o_hSn, upd_same]
  refine ⟨putP (upd H S (.lst (as.map V.ref))) as (xs.zip ys), o_kp, o_newS, o_new, o_eS, o_atP, ?_⟩
  refine I.call' (ch := []) rfl ⟨fun b o q _ _ _ => o_hk b o q, fun b o q _ _ _ => ⟨o.slots, o_hk b o q⟩, fun b o q n _ => ?_, fun b o q _ => ⟨o, o_hk b o q⟩, fun b xs q => o_kp b _ q, fun b o u q => o_kp b _ q, fun b ps q => ⟨#[], by rw [o_kp b _ q]; simp⟩⟩ (fun b u q => ?_) I.bare fun b z => by simp at z
  · obtain ⟨z1, z2⟩ := o_low b o q
    rw [o_off b z1 z2]
    exact n
  · by_cases o_hb : b ∈ as
    · obtain ⟨j, hj⟩ := List.mem_iff_getElem?.mp o_hb
      obtain ⟨x, y, e1, e2, e3⟩ := o_hG.pairs j b hj
      obtain ⟨x', f1, o_g1⟩ := vals_at o_kx (j := j) (u := x) (by simpa using e1)
      obtain ⟨y', f2, g2⟩ := vals_at o_ky (j := j) (u := y) (by simpa using e2)
      have ez : (xs.zip ys)[j]? = some (x', y') := by rw [List.getElem?_zip_eq_some]; exact ⟨f1, f2⟩
      rw [o_atP.2 j b _ hj ez] at q
      cases q
      exact ⟨by show 2 ≤ sizeLine; decide, [x, y], .cons o_g1 (.cons g2 .nil), ⟨_, e3, rfl, _, rfl⟩⟩
    · by_cases hb2 : b = S
      · rw [hb2] at q ⊢
        rw [o_eS] at q
        cases q
        refine ⟨by rw [List.length_map]; omega, acc.toList, c, by rw [o_hacc]; exact vals_refs2 as, ?_⟩
        rw [Array.toArray_toList]
        exact o_hS
      · rw [o_off b o_hb hb2] at q
        exact (I.hok b u q).stay (fun d v _ y => o_hk d v y) (fun d y => o_kp d _ y) fun d xs y => o_kp d _ y
/-- list(zip(x, y)), x and y lists: a o_new list of o_new tuples -/
theorem pe_lstZip {e e2 : Expr} {ta : TA} (o_hc : X.calm = true) (o_hg : Gl X "list") (o_hm : X.mg "list" = none) (o_hg2 : Gl X "zip") (o_hm2 : X.mg "zip" = none) (ha : PA X [e, e2] ta)
    (o_hs : starEach [e, e2] X.env = (false, eval e X.env) :: starEach [e2] X.env := by rfl) (hpl : (backTo pos2 (starEach [e2] X.env)).any (·.1) = false := by rfl)
    (o_hs2 : starEach [.Call (.Name "zip" o_p2) [e, e2] [] pos2] X.env = (false, eval (.Call (.Name "zip" o_p2) [e, e2] [] pos2) X.env) :: starEach [] X.env := by rfl) :
    PE X (.Call (.Name "list" p) [.Call (.Name "zip" o_p2) [e, e2] [] pos2] [] pos) (tLstZip X.K ta) := by
  refine ⟨fun pins s σ H Q I h => ?_⟩
  refine Call_ (ld_blt I o_hg o_hm boot_list (PyProof.Rows.callWith_type1 (args_cons (Call_ (ld_blt I o_hg2 o_hm2 PyProof.Rows.boot_zip (PyProof.Rows.callWith_type1 (thn (ha.run pos2 pins s σ H _ I h) fun us s1 ⟨vs, H1, I1, r1, q1⟩ => ?_) o_hs hpl))) o_hs2) o_hs2 rfl))
  obtain ⟨a, b, xs, ys, ex, o_hqx, o_hqy, q⟩ := q1
  subst ex
  cases r1 with
  | cons r rr =>
    cases rr with
    | cons r' rr =>
      cases rr
      cases r
      cases r'
      obtain ⟨o_its, o_rv, o_p1, o_hz1⟩ := I1.list o_hqx
      obtain ⟨o_its2, o_rv2, o_p2, o_hz2⟩ := I1.list o_hqy
      have o_la : a < s1.heap.objs.size := o_p1.lt
      have o_lb : b < s1.heap.objs.size := o_p2.lt
      have o_lx := o_rv.length
      refine call_zip_2 o_p1.isList o_p2.isList fun h' o_hz o_hTI o_hTO h1 h2 o_hsz o_hk => args_nil ?_
      refine call_list_zip (s := { s1 with heap := h' }) (n := min o_its.length o_its2.length) (I1.ok.hd o_hc) (PySem.W.ktu_apart s1.heap.objs.size a b o_la o_lb) (by simp only [List.size_toArray]) (by omega) o_hz o_hTI o_hTO h1 h2 (o_p1.isList.at fun o e => o_hk _ o e) (o_p2.isList.at fun o e => o_hk _ o e) fun o_h2 tk acc c as hk2 o_hS o_hl o_hG o_hacc => ?_
      have up : ∀ b o, s1.heap.get? b = some o → o_h2.get? b = some o := fun b o e => by
        have lt : b < s1.heap.objs.size := Heap.lt_size e
        exact hk2 b o (Nat.ne_of_lt (Nat.lt_of_lt_of_le lt (Nat.le_add_right _ _))) (Nat.ne_of_lt (Nat.lt_of_lt_of_le lt (Nat.le_add_right _ _))) (Nat.ne_of_lt lt) (Nat.ne_of_lt (Nat.lt_of_lt_of_le lt (Nat.le_add_right _ _))) (o_hk b o e)
      obtain ⟨H', o_k1, k2, k3, k4, k5, J⟩ := zip_laid (tk := tk) I1 o_hz1 o_rv o_rv2 up (show s1.heap.objs.size ≤ h'.objs.size by rw [o_hsz]; exact Nat.le_add_right _ _) o_hS o_hl o_hG o_hacc
      exact ⟨.ref _, H', J, rfl, q H' _ as o_k1 k2 k3 k4 k5⟩
end
end OwR

set_option Elab.async false
set_option linter.all false
set_option maxRecDepth 100000
set_option maxHeartbeats 2000000
/-! sorted(set(..)) of pairs of ints of any sign -/
namespace OwR
open PySem PySem.Spec PyProof.Rows L2
def two (l : List Int) : Int × Int := (l.getD 0 0, l.getD 1 0)
section
variable {P : Program} {w : World} {A : Around} {E : Value → Shared → Prop} {s : Shared}
theorem pair_of {h : Heap} {v : Value} {ns : List Int} (x : TS.TupInts h v ns) (h2 : ns.length = 2) : Srt.IsPair h v (two ns).1 (two ns).2 := by
  obtain ⟨a, xs, rfl, ⟨o, o_ho, o_hc, n, o_hd⟩, i⟩ := x
  match ns, h2 with
  | [x, y], _ =>
    obtain ⟨l⟩ := xs
    cases i with
    | cons i t r =>
      cases r with
      | cons j u r' =>
        cases r'
        exact ⟨a, o, t, u, n, rfl, o_ho, o_hc, o_hd⟩
/-- refs to rows of L, in whatever order, are the rows in that order -/
theorem rows_back {L : List (Addr × List Int)} : ∀ us : List Value, (∀ u ∈ us, ∃ q ∈ L, u = Value.ref q.1) → ∃ M : List (Addr × List Int), us = M.map (fun q => Value.ref q.1) ∧ ∀ q ∈ M, q ∈ L
  | [], _ => ⟨[], rfl, fun q hq => nomatch hq⟩
  | u :: us, h => by
    obtain ⟨q, hq, e⟩ := h u (by simp)
    obtain ⟨M, e1, hM⟩ := rows_back us fun v o_hv => h v (List.mem_cons_of_mem _ o_hv)
    refine ⟨q :: M, by rw [e, e1]; rfl, fun r hr => ?_⟩
    rcases List.mem_cons.1 hr with z | z
    · rw [z]; exact hq
    · exact hM r z
theorem rows_perm {L M : List (Addr × List Int)} (one : ∀ q ∈ L, ∀ r ∈ L, q.1 = r.1 → q = r) (nL : L.Nodup) (hM : ∀ q ∈ M, q ∈ L) (o_pm : (M.map fun q => Value.ref q.1).Perm (L.map fun q => Value.ref q.1)) : M.Perm L := by
  have nr : (L.map fun q => Value.ref q.1).Nodup := by
    refine List.pairwise_map.mpr (List.Pairwise.imp_of_mem (fun {q r} hq hr o_hne e => ?_) nL)
    injection e with e
    exact o_hne (one q hq r hr e)
  have nM : M.Nodup := by
    have := o_pm.nodup_iff.mpr nr
    exact (List.pairwise_map.mp this).imp fun {q r} h e => h (by rw [e])
  refine (List.perm_ext_iff_of_nodup nM nL).mpr fun q => ⟨hM q, fun hq => ?_⟩
  obtain ⟨r, hr, e⟩ := List.mem_map.mp (o_pm.mem_iff.mpr (List.mem_map.mpr ⟨q, hq, rfl⟩))
  injection e with e
  rw [← one r (hM r hr) q hq e]
  exact hr
/-- what is before what, by the first number, then by the second -/
abbrev lex2 (l m : List Int) : Bool := SrtO.lexB (two l) (two m)
theorem sorted_setP {a : Addr} {L : List (Addr × List Int)} {es : Array (Int × Value)} {ep : Nat} {t : SetTable} {Q : Value → Shared → Prop} (R : SetTR P w s.heap a L es ep t) (o_hh : A.handled = none) (h2 : ∀ p ∈ L, p.2.length = 2)
    (o_hQ : ∀ s' p (out : List Value) (c : Nat) (M : List (Addr × List Int)), (∀ b o, s.heap.get? b = some o → s'.heap.get? b = some o) → s'.gens = s.gens → s'.os = s.os → s.heap.objs.size ≤ p →
      s'.heap.get? p = some (seqObj "list" out.toArray c) → out = M.map (fun q => Value.ref q.1) → M.Perm L → M.Pairwise (fun q r => lex2 r.2 q.2 = false) → Q (.ref p) s') :
    wpAny (model P w) A (call (.builtin "sorted") [.ref a]) Q E s := by
  obtain ⟨o, o_ho, o_hex, o_hd⟩ := R.ob
  have o_hsz := R.size
  have o_hfew := R.few
  refine Calls.call_function_entry kind_sorted plain_sorted entry_sorted (args_sorted1 _) ?_
  unfold Builtin.«sorted»
  refine wpAny_bind (m := checkCount "sorted" 1 1 _) (wpAny_pure ?_)
  refine wpAny_bind (collect_set (A := A.in1) o_hh ⟨o, o_ho, o_hex.1, o_hd⟩ R.fits (by unfold scanBound; omega) R.tab.ris R.led fun s1 vs o_k1 o_hz o_g1 o_o1 o_pm => ?_)
  have o_hes : es.toList.map (·.2) = L.map fun q => Value.ref q.1 := by
    rw [R.rows]
    unfold rowsOf
    rw [List.map_map] <;> rfl
  rw [o_hes] at o_pm
  have one : ∀ q ∈ L, ∀ r ∈ L, q.1 = r.1 → q = r := fun q hq r hr e => by
    have b1 := R.tup q hq
    have b2 := R.tup r hr
    rw [e] at b1
    exact Prod.ext e (b1.inj b2)
  have o_hvl : vs.length < 64 := by rw [o_pm.length_eq, List.length_map]; exact o_hfew
  refine wpAny_bind (wpAny_newList ?_ (by rw [sizeLine_eq]; omega))
  generalize eh : s1.heap.push (seqObj "list" vs.toArray 0) = h2' at *
  have o_hoL : h2'.get? s1.heap.objs.size = some (seqObj "list" vs.toArray 0) := by rw [← eh]; exact Heap.get?_push_size _ rfl
  have up : ∀ b u, s.heap.get? b = some u → h2'.get? b = some u := fun b u e => by rw [← eh]; exact Heap.get?_push_of_some _ (o_k1 b u e)
  have tk : ∀ q ∈ L, TS.TupInts h2' (.ref q.1) q.2 := fun q hq => tupInts_of (P := P) (w := w) (isT_keep (R.tup q hq) up)
  have o_hp : ∀ v ∈ vs, Srt.IsPair h2' v (two (TS.intsOf h2' v)).1 (two (TS.intsOf h2' v)).2 := fun v o_hv => by
    obtain ⟨q, hq, e⟩ := List.mem_map.mp (o_pm.mem_iff.mp o_hv)
    rw [← e, (tk q hq).ints]
    exact pair_of (tk q hq) (h2 q hq)
  refine wpAny_bind (wpAny_holding (wpAny_call_entry slot_list_sort (s := { s1 with heap := h2' }) ⟨_, o_hoL, rfl⟩ entry_list_sort (SrtO.list_sort_ord (s := { s1 with heap := h2' }) (SrtO.swo_lex fun v => two (TS.intsOf h2' v)) o_hoL (by rw [sizeLine_eq]; omega)
    (fun h3 => SrtO.pairs_sortableO (s := { s1 with heap := h2' }) (by omega) o_hp fun o e c => ?_) fun out o_hs o_hb => ⟨_, rfl, ?_⟩) (args_list_sort _)))
  · have e' : some o = some (seqObj "list" vs.toArray 0) := e.symm.trans o_hoL
    cases e'
    exact absurd (Value.type.inj c) (by decide)
  · obtain ⟨c, o_hc⟩ := sortedHeap_at (vs := vs) (out := out.toArray) o_hoL
    obtain ⟨M, e', hM⟩ := rows_back (L := L) out fun v o_hv => by
      obtain ⟨q, hq, e⟩ := List.mem_map.mp (o_pm.mem_iff.mp (o_hb.perm.mem_iff.mp o_hv))
      exact ⟨q, hq, e.symm⟩
    have pL : M.Perm L := rows_perm one (nodup_of_map R.nd) hM (by rw [← e']; exact o_hb.perm.trans o_pm)
    have pw : M.Pairwise (fun q r => lex2 r.2 q.2 = false) := by
      have hs' := o_hs
      rw [e'] at hs'
      refine List.Pairwise.imp_of_mem (fun {q r} hq hr o_hle => ?_) (List.pairwise_map.mp hs')
      have f1 := (tk q (hM q hq)).ints
      have f2 := (tk r (hM r hr)).ints
      have o_hle' : SrtO.lexB (two (TS.intsOf h2' (Value.ref r.1))) (two (TS.intsOf h2' (Value.ref q.1))) = false := o_hle
      rw [f1, f2] at o_hle'
      exact o_hle'
    refine wpAny_pure ⟨_, rfl, o_hQ _ s1.heap.objs.size out c M (fun b u e => ?_) o_g1 o_o1 o_hz o_hc e' pL pw⟩
    have q := o_k1 b u e
    have o_hlt := Heap.lt_size q
    show (sortedHeap h2' s1.heap.objs.size vs out.toArray).get? b = some u
    rw [sortedHeap_old (Nat.ne_of_lt o_hlt) (by rw [← eh, size_push']; exact Nat.lt_succ_of_lt o_hlt)]
    exact up b u e
end
section
variable {X : Cx}
/-- sorted(set), a set of pairs of ints -/
def rSortedS (K : PySem.W.Frag) (P : Program) (w : World) : List V → Hp → VK → Prop := fun vs H Q => ∃ (a : Addr) (L : List (Addr × List Int)), vs = [V.ref a] ∧ H a = some (SetTO P w a L) ∧ (∀ p ∈ L, SqT K H p.1 (p.2.map V.int)) ∧ (∀ p ∈ L, p.2.length = 2) ∧
  ∀ (M : List (Addr × List Int)) (p : Addr), M.Perm L → (M.map (·.2)).Nodup → M.length < 64 → M.Pairwise (fun q r => lex2 r.2 q.2 = false) → H p = none → Q (.ref p) (upd H p (.lst (M.map fun q => V.ref q.1)))
theorem cr_sortedS (o_hc : X.calm = true) : CallR X (.builtin "sorted") (rSortedS X.K X.prog X.w) := by
  intro pins s σ H vs us Q I r h
  obtain ⟨a, L, rfl, ha, o_hk, h2, q⟩ := h
  have R0 : SetT0 X.prog X.w s.heap a L := (I.hok a _ ha).1
  obtain ⟨es, ep, t, R⟩ := R0.full fun p o_hp => I.isT (o_hk p o_hp)
  rw [Vals.ref1 r]
  refine sorted_setP R (I.ok.hd o_hc) h2 fun s' p out c M k g o o_hp o_hg o_hout o_pm pw => ?_
  have o_hfew : M.length < 64 := by rw [o_pm.length_eq]; exact R.few
  have o_hlen : (M.map fun q => V.ref q.1).length ≤ sizeLine := by rw [List.length_map, sizeLine_eq]; omega
  have o_hn : H p = none := I.hok.fresh o_hp
  have o_hv : Vals (M.map fun q => V.ref q.1) out := by rw [o_hout]; exact vals_of_refs M
  have J : Inv X pins σ (upd H p (.lst (M.map fun q => V.ref q.1))) { s with heap := s'.heap, gens := s'.gens, drawn := s'.drawn, toks := s'.toks } :=
    I.call (ch := []) (Un.laid k o_hp o_hn) (I.hok.laid k o_hp ⟨o_hlen, out, c, o_hv, o_hg⟩) (by rw [g]; exact I.bare) (fun _ z => nomatch z)
  have e : s' = { s with heap := s'.heap, gens := s'.gens, drawn := s'.drawn, toks := s'.toks } := by
    cases s'
    cases s
    cases o
    rfl
  rw [e]
  exact ⟨.ref p, _, J, rfl, q M p o_pm ((o_pm.map (·.2)).nodup_iff.mpr R.nd) o_hfew pw o_hn⟩
end
end OwR

set_option Elab.async false
set_option linter.all false
set_option maxRecDepth 100000
set_option maxHeartbeats 2000000
namespace Pg
open PySem PySem.Spec PyProof.Rows L2
/-- a statement of the program's top, by its place -/
def topS (i : Nat) : Stmt := PySem.Challenge.pw_wholepolygons_s01_answers.main.body.getD i (.Pass ⟨0, 0, 0, 0⟩)
abbrev s_Polygon_init : Stmt := inClass (topS 29) 0
theorem sc_Polygon_init : FnScope ["self"] ["self"] (defScope s_Polygon_init) := ⟨rfl, rfl, rfl, by decide +kernel, rfl, by decide +kernel, by decide +kernel⟩
-- Polygon_init: self:local list:globalImplicit FIRST_CORNERS:globalImplicit
abbrev s_Reader_init : Stmt := inClass (topS 30) 0
theorem sc_Reader_init : FnScope ["self", "numbers"] ["self", "numbers"] (defScope s_Reader_init) := ⟨rfl, rfl, rfl, by decide +kernel, rfl, by decide +kernel, by decide +kernel⟩
-- Reader_init: self:local numbers:local
abbrev s_Reader_at_end : Stmt := inClass (topS 30) 1
theorem sc_Reader_at_end : FnScope ["self"] ["self"] (defScope s_Reader_at_end) := ⟨rfl, rfl, rfl, by decide +kernel, rfl, by decide +kernel, by decide +kernel⟩
-- Reader_at_end: self:local len:globalImplicit
abbrev s_Reader_take_number : Stmt := inClass (topS 30) 2
theorem sc_Reader_take_number : FnScope ["self", "number"] ["self"] (defScope s_Reader_take_number) := ⟨rfl, rfl, rfl, by decide +kernel, rfl, by decide +kernel, by decide +kernel⟩
-- Reader_take_number: self:local number:local
abbrev s_Reader_take_row : Stmt := inClass (topS 30) 3
theorem sc_Reader_take_row : FnScope ["self", "length", "row"] ["self"] (defScope s_Reader_take_row) := ⟨rfl, rfl, rfl, by decide +kernel, rfl, by decide +kernel, by decide +kernel⟩
-- Reader_take_row: self:local length:local row:local
abbrev s_cross : Stmt := topS 31
theorem sc_cross : FnScope ["a", "b"] ["a", "b"] (defScope s_cross) := ⟨rfl, rfl, rfl, by decide +kernel, rfl, by decide +kernel, by decide +kernel⟩
-- cross: a:local b:local
abbrev s_seen_from : Stmt := topS 32
theorem sc_seen_from : FnScope ["origin", "points", "x", "y"] ["origin", "points"] (defScope s_seen_from) := ⟨rfl, rfl, rfl, by decide +kernel, rfl, by decide +kernel, by decide +kernel⟩
-- seen_from: origin:cell points:local
abbrev s_turn : Stmt := topS 33
theorem sc_turn : FnScope ["a", "b", "c"] ["a", "b", "c"] (defScope s_turn) := ⟨rfl, rfl, rfl, by decide +kernel, rfl, by decide +kernel, by decide +kernel⟩
-- turn: a:local b:local c:local
abbrev s_left_turning_way : Stmt := topS 34
theorem sc_left_turning_way : FnScope ["points", "way", "point"] ["points"] (defScope s_left_turning_way) := ⟨rfl, rfl, rfl, by decide +kernel, rfl, by decide +kernel, by decide +kernel⟩
-- left_turning_way: points:local way:local point:local len:globalImplicit turn:globalImplicit
abbrev s_corners_of : Stmt := topS 35
theorem sc_corners_of : FnScope ["points", "ordered", "below", "above"] ["points"] (defScope s_corners_of) := ⟨rfl, rfl, rfl, by decide +kernel, rfl, by decide +kernel, by decide +kernel⟩
-- corners_of: points:local ordered:local below:local above:local sorted:globalImplicit set:globalImplicit left_turning_way:globalImplicit list:globalImplicit reversed:globalImplicit
abbrev s_edges_of : Stmt := topS 36
theorem sc_edges_of : FnScope ["corners"] ["corners"] (defScope s_edges_of) := ⟨rfl, rfl, rfl, by decide +kernel, rfl, by decide +kernel, by decide +kernel⟩
-- edges_of: corners:local list:globalImplicit zip:globalImplicit
abbrev s_divisor_and_factors : Stmt := topS 37
theorem sc_divisor_and_factors : FnScope ["a", "b", "greater", "lesser", "times", "rest", "g", "s", "number"] ["a", "b"] (defScope s_divisor_and_factors) := ⟨rfl, rfl, rfl, by decide +kernel, rfl, by decide +kernel, by decide +kernel⟩
-- divisor_and_factors: a:local b:local greater:local lesser:local times:cell rest:local tuple:globalImplicit zip:globalImplicit
abbrev s_greatest_divisor : Stmt := topS 38
theorem sc_greatest_divisor : FnScope ["a", "b"] ["a", "b"] (defScope s_greatest_divisor) := ⟨rfl, rfl, rfl, by decide +kernel, rfl, by decide +kernel, by decide +kernel⟩
-- greatest_divisor: a:local b:local divisor_and_factors:globalImplicit
abbrev s_twice_area : Stmt := topS 39
theorem sc_twice_area : FnScope ["corners", "a", "b"] ["corners"] (defScope s_twice_area) := ⟨rfl, rfl, rfl, by decide +kernel, rfl, by decide +kernel, by decide +kernel⟩
-- twice_area: corners:local sum:globalImplicit edges_of:globalImplicit
abbrev s_count_at_edge : Stmt := topS 40
theorem sc_count_at_edge : FnScope ["corners", "a", "b"] ["corners"] (defScope s_count_at_edge) := ⟨rfl, rfl, rfl, by decide +kernel, rfl, by decide +kernel, by decide +kernel⟩
-- count_at_edge: corners:local sum:globalImplicit edges_of:globalImplicit
abbrev s_count_all : Stmt := topS 41
theorem sc_count_all : FnScope ["corners", "k"] ["corners", "k"] (defScope s_count_all) := ⟨rfl, rfl, rfl, by decide +kernel, rfl, by decide +kernel, by decide +kernel⟩
-- count_all: corners:local k:local twice_area:globalImplicit count_at_edge:globalImplicit
abbrev s_count_within : Stmt := topS 42
theorem sc_count_within : FnScope ["corners"] ["corners"] (defScope s_count_within) := ⟨rfl, rfl, rfl, by decide +kernel, rfl, by decide +kernel, by decide +kernel⟩
-- count_within: corners:local count_all:globalImplicit count_at_edge:globalImplicit
abbrev s_standing_of : Stmt := topS 43
theorem sc_standing_of : FnScope ["corners", "point", "least", "a", "b"] ["corners", "point"] (defScope s_standing_of) := ⟨rfl, rfl, rfl, by decide +kernel, rfl, by decide +kernel, by decide +kernel⟩
-- standing_of: corners:local point:cell least:local min:globalImplicit edges_of:globalImplicit OUTSIDE:globalImplicit AT_EDGE:globalImplicit WITHIN:globalImplicit
abbrev s_points_within : Stmt := topS 44
theorem sc_points_within : FnScope ["corners", "xs", "ys", "found", "x", "y", "corner"] ["corners"] (defScope s_points_within) := ⟨rfl, rfl, rfl, by decide +kernel, rfl, by decide +kernel, by decide +kernel⟩
-- points_within: corners:local xs:local ys:local found:local x:local y:local range:globalImplicit min:globalImplicit max:globalImplicit standing_of:globalImplicit WITHIN:globalImplicit
abbrev s_width_across : Stmt := topS 45
theorem sc_width_across : FnScope ["corners", "direction", "values", "x", "y"] ["corners", "direction"] (defScope s_width_across) := ⟨rfl, rfl, rfl, by decide +kernel, rfl, by decide +kernel, by decide +kernel⟩
-- width_across: corners:local direction:cell values:local max:globalImplicit min:globalImplicit
abbrev s_pairs_reaching : Stmt := topS 46
theorem sc_pairs_reaching : FnScope ["reach", "t", "s"] ["reach"] (defScope s_pairs_reaching) := ⟨rfl, rfl, rfl, by decide +kernel, rfl, by decide +kernel, by decide +kernel⟩
-- pairs_reaching: reach:cell range:globalImplicit
abbrev s_direction_rising : Stmt := topS 47
theorem sc_direction_rising : FnScope ["b", "s", "c", "t", "area", "p", "q"] ["b", "s", "c", "t"] (defScope s_direction_rising) := ⟨rfl, rfl, rfl, by decide +kernel, rfl, by decide +kernel, by decide +kernel⟩
-- direction_rising: b:local s:local c:local t:local area:local p:local q:local cross:globalImplicit
abbrev s_narrowest_directions : Stmt := topS 48
theorem sc_narrowest_directions : FnScope ["corners", "seen", "least", "found", "reach", "s", "t", "direction", "width"] ["corners"] (defScope s_narrowest_directions) := ⟨rfl, rfl, rfl, by decide +kernel, rfl, by decide +kernel, by decide +kernel⟩
-- narrowest_directions: corners:local seen:local least:local found:local reach:local s:local t:local direction:local width:local seen_from:globalImplicit width_across:globalImplicit pairs_reaching:globalImplicit direction_rising:globalImplicit sorted:globalImplicit
abbrev s_mirrored : Stmt := topS 49
theorem sc_mirrored : FnScope ["corners", "x", "y"] ["corners"] (defScope s_mirrored) := ⟨rfl, rfl, rfl, by decide +kernel, rfl, by decide +kernel, by decide +kernel⟩
-- mirrored: corners:local reversed:globalImplicit
abbrev s_row_from : Stmt := topS 50
theorem sc_row_from : FnScope ["corners", "start", "seen", "ahead", "factors", "divisor", "level", "third", "lean", "x", "y"] ["corners", "start"] (defScope s_row_from) := ⟨rfl, rfl, rfl, by decide +kernel, rfl, by decide +kernel, by decide +kernel⟩
-- row_from: corners:local start:local seen:local ahead:cell factors:cell divisor:cell level:local third:local lean:cell seen_from:globalImplicit divisor_and_factors:globalImplicit
abbrev s_rows_from_each : Stmt := topS 51
theorem sc_rows_from_each : FnScope ["corners", "start"] ["corners"] (defScope s_rows_from_each) := ⟨rfl, rfl, rfl, by decide +kernel, rfl, by decide +kernel, by decide +kernel⟩
-- rows_from_each: corners:cell range:globalImplicit len:globalImplicit
abbrev s_one_form : Stmt := topS 52
theorem sc_one_form : FnScope ["corners"] ["corners"] (defScope s_one_form) := ⟨rfl, rfl, rfl, by decide +kernel, rfl, by decide +kernel, by decide +kernel⟩
-- one_form: corners:local min:globalImplicit rows_from_each:globalImplicit mirrored:globalImplicit
abbrev s_dual_corner : Stmt := topS 53
theorem sc_dual_corner : FnScope ["a", "b", "area"] ["a", "b"] (defScope s_dual_corner) := ⟨rfl, rfl, rfl, by decide +kernel, rfl, by decide +kernel, by decide +kernel⟩
-- dual_corner: a:local b:local area:local cross:globalImplicit
abbrev s_dual_corners : Stmt := topS 54
theorem sc_dual_corners : FnScope ["corners", "middle", "a", "b"] ["corners"] (defScope s_dual_corners) := ⟨rfl, rfl, rfl, by decide +kernel, rfl, by decide +kernel, by decide +kernel⟩
-- dual_corners: corners:local middle:local count_within:globalImplicit NotJustOneWithin:globalImplicit points_within:globalImplicit edges_of:globalImplicit seen_from:globalImplicit
abbrev s_read_points : Stmt := topS 55
theorem sc_read_points : FnScope ["plus", "minus", "numbers", "p", "m", "k"] ["plus", "minus"] (defScope s_read_points) := ⟨rfl, rfl, rfl, by decide +kernel, rfl, by decide +kernel, by decide +kernel⟩
-- read_points: plus:local minus:local numbers:cell len:globalImplicit NotPoints:globalImplicit zip:globalImplicit range:globalImplicit
abbrev s_read_one_point : Stmt := topS 56
theorem sc_read_one_point : FnScope ["plus", "minus", "points"] ["plus", "minus"] (defScope s_read_one_point) := ⟨rfl, rfl, rfl, by decide +kernel, rfl, by decide +kernel, by decide +kernel⟩
-- read_one_point: plus:local minus:local points:local read_points:globalImplicit len:globalImplicit NotPoints:globalImplicit
abbrev s_read_corners : Stmt := topS 57
theorem sc_read_corners : FnScope ["plus", "minus", "points", "corners", "x", "y"] ["plus", "minus"] (defScope s_read_corners) := ⟨rfl, rfl, rfl, by decide +kernel, rfl, by decide +kernel, by decide +kernel⟩
-- read_corners: plus:local minus:local points:local corners:local read_points:globalImplicit len:globalImplicit FEWEST_POINTS:globalImplicit MOST_POINTS:globalImplicit BeyondBounds:globalImplicit any:globalImplicit corners_of:globalImplicit InOneLine:globalImplicit
abbrev s_numbers_of : Stmt := topS 58
theorem sc_numbers_of : FnScope ["points", "numbers", "point"] ["points"] (defScope s_numbers_of) := ⟨rfl, rfl, rfl, by decide +kernel, rfl, by decide +kernel, by decide +kernel⟩
-- numbers_of: points:local numbers:local point:local
abbrev s_told_with_count : Stmt := topS 59
theorem sc_told_with_count : FnScope ["points"] ["points"] (defScope s_told_with_count) := ⟨rfl, rfl, rfl, by decide +kernel, rfl, by decide +kernel, by decide +kernel⟩
-- told_with_count: points:local len:globalImplicit numbers_of:globalImplicit
abbrev s_answer_begin : Stmt := topS 60
theorem sc_answer_begin : FnScope ["polygon", "reader", "plus", "minus"] ["polygon", "reader"] (defScope s_answer_begin) := ⟨rfl, rfl, rfl, by decide +kernel, rfl, by decide +kernel, by decide +kernel⟩
-- answer_begin: polygon:local reader:local plus:local minus:local read_corners:globalImplicit len:globalImplicit
abbrev s_answer_size : Stmt := topS 61
theorem sc_answer_size : FnScope ["corners"] ["corners"] (defScope s_answer_size) := ⟨rfl, rfl, rfl, by decide +kernel, rfl, by decide +kernel, by decide +kernel⟩
-- answer_size: corners:local twice_area:globalImplicit count_at_edge:globalImplicit count_within:globalImplicit
abbrev s_answer_count : Stmt := topS 62
theorem sc_answer_count : FnScope ["corners", "reader", "k"] ["corners", "reader"] (defScope s_answer_count) := ⟨rfl, rfl, rfl, by decide +kernel, rfl, by decide +kernel, by decide +kernel⟩
-- answer_count: corners:local reader:local k:local GREATEST_TIMES:globalImplicit BeyondBounds:globalImplicit count_all:globalImplicit
abbrev s_answer_where : Stmt := topS 63
theorem sc_answer_where : FnScope ["corners", "reader", "plus", "minus"] ["corners", "reader"] (defScope s_answer_where) := ⟨rfl, rfl, rfl, by decide +kernel, rfl, by decide +kernel, by decide +kernel⟩
-- answer_where: corners:local reader:local plus:local minus:local standing_of:globalImplicit read_one_point:globalImplicit
abbrev s_answer_width : Stmt := topS 64
theorem sc_answer_width : FnScope ["corners", "directions"] ["corners"] (defScope s_answer_width) := ⟨rfl, rfl, rfl, by decide +kernel, rfl, by decide +kernel, by decide +kernel⟩
-- answer_width: corners:local directions:local narrowest_directions:globalImplicit len:globalImplicit width_across:globalImplicit numbers_of:globalImplicit
abbrev s_answer_same : Stmt := topS 65
theorem sc_answer_same : FnScope ["corners", "reader", "plus", "minus"] ["corners", "reader"] (defScope s_answer_same) := ⟨rfl, rfl, rfl, by decide +kernel, rfl, by decide +kernel, by decide +kernel⟩
-- answer_same: corners:local reader:local plus:local minus:local one_form:globalImplicit read_corners:globalImplicit
abbrev s_answer_twelve : Stmt := topS 66
theorem sc_answer_twelve : FnScope ["corners"] ["corners"] (defScope s_answer_twelve) := ⟨rfl, rfl, rfl, by decide +kernel, rfl, by decide +kernel, by decide +kernel⟩
-- answer_twelve: corners:local count_at_edge:globalImplicit dual_corners:globalImplicit
abbrev s_answer_call : Stmt := topS 67
theorem sc_answer_call : FnScope ["polygon", "reader", "call"] ["polygon", "reader"] (defScope s_answer_call) := ⟨rfl, rfl, rfl, by decide +kernel, rfl, by decide +kernel, by decide +kernel⟩
-- answer_call: polygon:local reader:local call:local BEGIN:globalImplicit answer_begin:globalImplicit CORNERS:globalImplicit told_with_count:globalImplicit SIZE:globalImplicit answer_size:globalImplicit COUNT:globalImplicit answer_count:globalImplicit WHERE:globalImplicit answer_where:globalImplicit INNER:globalImplicit points_within:globalImplicit WIDTH:globalImplicit answer_width:globalImplicit FORM:globalImplicit one_form:globalImplicit SAME:globalImplicit answer_same:globalImplicit DUAL:globalImplicit dual_corners:globalImplicit TWELVE:globalImplicit answer_twelve:globalImplicit UnknownCall:globalImplicit
abbrev s_answer_or_refusal : Stmt := topS 68
theorem sc_answer_or_refusal : FnScope ["polygon", "reader"] ["polygon", "reader"] (defScope s_answer_or_refusal) := ⟨rfl, rfl, rfl, by decide +kernel, rfl, by decide +kernel, by decide +kernel⟩
-- answer_or_refusal: polygon:local reader:local answer_call:globalImplicit NotPoints:globalImplicit REFUSED_LISTS:globalImplicit BeyondBounds:globalImplicit REFUSED_BOUNDS:globalImplicit InOneLine:globalImplicit REFUSED_LINE:globalImplicit NotJustOneWithin:globalImplicit REFUSED_WITHIN:globalImplicit
abbrev s_answers : Stmt := topS 69
theorem sc_answers : FnScope ["calls", "reader", "polygon", "told", "answer"] ["calls"] (defScope s_answers) := ⟨rfl, rfl, rfl, by decide +kernel, rfl, by decide +kernel, by decide +kernel⟩
-- answers: calls:local reader:local polygon:local told:local answer:local Reader:globalImplicit Polygon:globalImplicit answer_or_refusal:globalImplicit len:globalImplicit
end Pg

set_option Elab.async false
set_option linter.all false
set_option maxRecDepth 100000
set_option maxHeartbeats 2000000
namespace Pg
open PySem PySem.Spec PyProof.Rows L2
open Hl (ori)
abbrev Pt := Sq68.Point
/-! ### points in the heap: addresses of tuples, and what they hold -/
abbrev AP := Addr × Pt
def tupV (p : Pt) : List V := [.int p.1, .int p.2]
def refs (ks : List AP) : List V := ks.map fun k => V.ref k.1
def pts (ks : List AP) : List Pt := ks.map (·.2)
def TPs (K : PySem.W.Frag) (H : Hp) (ks : List AP) : Prop := ∀ k ∈ ks, SqT K H k.1 (tupV k.2)
theorem same_sqT {K : PySem.W.Frag} {H H' : Hp} (s : Same H H') {a : Addr} {xs : List V} (h : SqT K H a xs) : SqT K H' a xs := by
  rcases h with (h | ⟨o, h⟩) | ⟨h1, h2⟩
  · exact .inl (.inl (s _ _ h))
  · exact .inl (.inr ⟨o, s _ _ h⟩)
  · exact .inr ⟨h1, h2⟩
theorem same_upd {H : Hp} {p : Addr} {o : HO} (h : H p = none) : Same H (upd H p o) := fun b x e => by
  rw [upd_ne (ne_of_none e h)]
  exact e
/-- what stood before H1 stands when an address that was free in H is written -/
theorem same_upd' {H H1 : Hp} {p : Addr} {o : HO} (s : Same H H1) (h : H p = none) : Same H (upd H1 p o) := fun b x e => by
  rw [upd_ne (ne_of_none e h)]
  exact s _ _ e
theorem TPs.same {K : PySem.W.Frag} {H H' : Hp} {ks : List AP} (h : TPs K H ks) (s : Same H H') : TPs K H' ks := fun k hk => same_sqT s (h k hk)
theorem TPs.sub {K : PySem.W.Frag} {H : Hp} {ks js : List AP} (h : TPs K H ks) (s : ∀ k ∈ js, k ∈ ks) : TPs K H js := fun k hk => h k (s k hk)
theorem refs_get {ks : List AP} {i : Nat} {v : V} (h : (refs ks)[i]? = some v) : ∃ k, ks[i]? = some k ∧ v = .ref k.1 := by
  unfold refs at h
  rw [List.getElem?_map] at h
  cases e : ks[i]? with
  | none => rw [e] at h; cases h
  | some k => rw [e] at h; exact ⟨k, rfl, (Option.some.inj h).symm⟩
theorem refs_len (ks : List AP) : (refs ks).length = ks.length := List.length_map ..
theorem pts_len (ks : List AP) : (pts ks).length = ks.length := List.length_map ..
theorem refs_append (ks js : List AP) : refs (ks ++ js) = refs ks ++ refs js := List.map_append
theorem pts_append (ks js : List AP) : pts (ks ++ js) = pts ks ++ pts js := List.map_append
theorem ifT {b : Bool} {A B : Prop} (e : b = true) (h : A) : if b = true then A else B := by rw [if_pos e]; exact h
theorem ifF {b : Bool} {A B : Prop} (e : b = false) (h : B) : if b = true then A else B := by rw [if_neg (by rw [e]; decide)]; exact h
/-- a def of the top: where it stands, how it binds -/
structure DefF (K : PySem.W.Frag) (mg : Str → Option Value) (x : Str) (st : Stmt) (ps : List Str) where
  f : Addr
  fd : FuncData
  F : Fun K x x st f fd
  b : Binds K fd ps []
  g : mg x = some (.ref f)
/-- Python's own names are still Python's own -/
structure Blt (mg : Str → Option Value) : Prop where
  len : mg "len" = none
  lst : mg "list" = none
  zip : mg "zip" = none
  rev : mg "reversed" = none
  set : mg "set" = none
  srt : mg "sorted" = none
  sum : mg "sum" = none
  min : mg "min" = none
  max : mg "max" = none
  abs : mg "abs" = none
  any : mg "any" = none
  rng : mg "range" = none
  tup : mg "tuple" = none
section
variable {P : Program} {w : World} {K : PySem.W.Frag} {mg : Str → Option Value} {base : Heap}
/-- far less than the line at which a product is asked for its size -/
def Near (a b : Pt) : Prop := (-(2 ^ 64) < b.1 - a.1 ∧ b.1 - a.1 < 2 ^ 64) ∧ -(2 ^ 64) < b.2 - a.2 ∧ b.2 - a.2 < 2 ^ 64
/-! ### turn(a, b, c) -/
def spTurn (K : PySem.W.Frag) : Sp := fun vs H Q _ => ∃ (ta tb tc : Addr) (a b c : Pt), vs = [.ref ta, .ref tb, .ref tc] ∧ SqT K H ta (tupV a) ∧ SqT K H tb (tupV b) ∧ SqT K H tc (tupV c) ∧ Near a b ∧ Q (.int (ori a b c)) H
abbrev D_turn (K : PySem.W.Frag) (mg : Str → Option Value) := DefF K mg "turn" s_turn ["a", "b", "c"]
theorem ok_turn (D : D_turn K mg) : FnOk P w K mg base CX0 1 D.f D.fd ["a", "b", "c"] (spTurn K) := by
  refine D.F.ok sc_turn (fun vs H Q E h => ?_) (fun cdv A outer s H vs Q E hr h => ?_)
  · obtain ⟨ta, tb, tc, a, b, c, rfl, _⟩ := h
    rfl
  · obtain ⟨ta, tb, tc, a, b, c, rfl, ha, hb, hc, ⟨⟨n1, n2⟩, n3, n4⟩, q⟩ := h
    refine ⟨_, pss_one (ps_ret (pe_op op_sub
      (pe_op op_mul (pe_op op_sub (pe_ix ix_tup (pv 1) pe_int (fun _ _ => rfl)) (pe_ix ix_tup (pv 0) pe_int (fun _ _ => rfl))) (pe_op op_sub (pe_ix ix_tup (pv 2) pe_int (fun _ _ => rfl)) (pe_ix ix_tup (pv 0) pe_int (fun _ _ => rfl))))
      (pe_op op_mul (pe_op op_sub (pe_ix ix_tup (pv 1) pe_int (fun _ _ => rfl)) (pe_ix ix_tup (pv 0) pe_int (fun _ _ => rfl))) (pe_op op_sub (pe_ix ix_tup (pv 2) pe_int (fun _ _ => rfl)) (pe_ix ix_tup (pv 0) pe_int (fun _ _ => rfl)))))), ?_⟩
    have a0 : atI (tupV a) 0 = some (.int a.1) := atI_nat (j := 0) rfl
    have a1 : atI (tupV a) 1 = some (.int a.2) := atI_nat (j := 1) rfl
    have b0 : atI (tupV b) 0 = some (.int b.1) := atI_nat (j := 0) rfl
    have b1 : atI (tupV b) 1 = some (.int b.2) := atI_nat (j := 1) rfl
    have c0 : atI (tupV c) 0 = some (.int c.1) := atI_nat (j := 0) rfl
    have c1 : atI (tupV c) 1 = some (.int c.2) := atI_nat (j := 1) rfl
    refine ⟨_, rfl, tb, _, _, _, rfl, rfl, hb, b0, _, rfl, ta, _, _, _, rfl, rfl, ha, a0, _, _, rfl, rfl, _, rfl, tc, _, _, _, rfl, rfl, hc, c1, _, rfl, ta, _, _, _, rfl, rfl, ha, a1, _, _, rfl, rfl, _, _, rfl, rfl, .inl ⟨n1, n2⟩,
      _, rfl, tb, _, _, _, rfl, rfl, hb, b1, _, rfl, ta, _, _, _, rfl, rfl, ha, a1, _, _, rfl, rfl, _, rfl, tc, _, _, _, rfl, rfl, hc, c0, _, rfl, ta, _, _, _, rfl, rfl, ha, a0, _, _, rfl, rfl, _, _, rfl, rfl, .inl ⟨n3, n4⟩, _, _, rfl, rfl, ?_⟩
    exact q
/-! ### left_turning_way(points) -/
def popsK (q : Pt) : List AP → List AP
  | b :: a :: s => if ori a.2 b.2 q ≤ 0 then popsK q (a :: s) else b :: a :: s
  | s => s
def stackK (l s : List AP) : List AP := l.foldl (fun s q => q :: popsK q.2 s) s
theorem popsK_pts (q : Pt) : ∀ s : List AP, pts (popsK q s) = Hl.pops q (pts s)
  | [] => rfl
  | [_] => rfl
  | b :: a :: s => by
    unfold popsK
    show pts (if ori a.2 b.2 q ≤ 0 then popsK q (a :: s) else b :: a :: s) = Hl.pops q (b.2 :: a.2 :: pts s)
    unfold Hl.pops
    split
    · exact popsK_pts q (a :: s)
    · rfl
theorem popsK_sub (q : Pt) : ∀ s : List AP, ∀ k ∈ popsK q s, k ∈ s
  | [], k, h => h
  | [_], k, h => h
  | b :: a :: s, k, h => by
    unfold popsK at h
    split at h
    · exact List.mem_cons_of_mem _ (popsK_sub q (a :: s) k h)
    · exact h
theorem popsK_len (q : Pt) : ∀ s : List AP, (popsK q s).length ≤ s.length
  | [] => Nat.le_refl _
  | [_] => Nat.le_refl _
  | b :: a :: s => by
    unfold popsK
    split
    · have := popsK_len q (a :: s)
      simp only [List.length_cons] at *
      omega
    · exact Nat.le_refl _
theorem stackK_pts : ∀ (l s : List AP), pts (stackK l s) = Hl.stack (pts l) (pts s)
  | [], s => rfl
  | q :: l, s => by
    show pts (stackK l (q :: popsK q.2 s)) = Hl.stack (pts l) (q.2 :: Hl.pops q.2 (pts s))
    rw [stackK_pts l]
    show Hl.stack (pts l) (q.2 :: pts (popsK q.2 s)) = _
    rw [popsK_pts]
theorem stackK_sub : ∀ (l s : List AP), ∀ k ∈ stackK l s, k ∈ s ∨ k ∈ l
  | [], s, k, h => .inl h
  | q :: l, s, k, h => by
    rcases stackK_sub l (q :: popsK q.2 s) k h with h | h
    · rcases List.mem_cons.1 h with rfl | h
      · exact .inr (by simp)
      · exact .inl (popsK_sub _ _ k h)
    · exact .inr (List.mem_cons_of_mem _ h)
theorem stackK_len : ∀ (l s : List AP), (stackK l s).length ≤ s.length + l.length
  | [], s => Nat.le_refl _
  | q :: l, s => by
    have h1 := stackK_len l (q :: popsK q.2 s)
    have h2 := popsK_len q.2 s
    show (stackK l (q :: popsK q.2 s)).length ≤ _
    simp only [List.length_cons] at *
    omega
theorem stackK_snoc (l : List AP) (q : AP) (s : List AP) : stackK (l ++ [q]) s = q :: popsK q.2 (stackK l s) := by
  unfold stackK
  rw [List.foldl_append]
  rfl
theorem take_snoc {α : Type} {l : List α} {i : Nat} {x : α} (h : l[i]? = some x) : l.take (i + 1) = l.take i ++ [x] := by
  rw [List.take_add_one, h]
  rfl
/-- the refs of a stack as Python's list has them: the top last -/
def upR (s : List AP) : List V := refs s.reverse
theorem upR_cons (q : AP) (s : List AP) : upR (q :: s) = upR s ++ [.ref q.1] := by
  unfold upR
  rw [List.reverse_cons, refs_append]
  rfl
theorem upR_len (s : List AP) : (upR s).length = s.length := by unfold upR; rw [refs_len, List.length_reverse]
theorem atI_last2 {α : Type} (xs : List α) (u v : α) : atI (xs ++ [u] ++ [v]) (-2) = some u := by
  have hl : (xs ++ [u] ++ [v]).length = xs.length + 2 := by simp
  have e : ixN (xs ++ [u] ++ [v]).length (-2) = some xs.length := by
    unfold ixN
    rw [hl, if_neg (by decide), if_pos (by omega)]
    congr 1
    omega
  unfold atI
  rw [e]
  simp
/-- all points of the list near one another -/
def Tame (ks : List AP) : Prop := ∀ k ∈ ks, Hl.Small k.2
theorem near_of {a b : Pt} (ha : Hl.Small a) (hb : Hl.Small b) : Near a b := by
  obtain ⟨⟨_, _⟩, _, _⟩ := ha
  obtain ⟨⟨_, _⟩, _, _⟩ := hb
  exact ⟨⟨by omega, by omega⟩, by omega, by omega⟩
def spWay (K : PySem.W.Frag) : Sp := fun vs H Q _ => ∃ (a : Addr) (ks : List AP), vs = [.ref a] ∧ SqL K H a (refs ks) ∧ TPs K H ks ∧ Tame ks ∧ ks.length ≤ 100 ∧
  ∀ (H' : Hp) (p : Addr) (js : List AP), Same H H' → H p = none → H' p = some (.lst (refs js)) → pts js = Hl.way (pts ks) → (∀ k ∈ js, k ∈ ks) → js.length ≤ ks.length → Q (.ref p) H'
abbrev D_way (K : PySem.W.Frag) (mg : Str → Option Value) := DefF K mg "left_turning_way" s_left_turning_way ["points"]
theorem ok_way (D : D_way K mg) (DT : D_turn K mg) (B : Blt mg) : FnOk P w K mg base CX0 2 D.f D.fd ["points"] (spWay K) := by
  have GT : FnOk P w K mg base CX0 1 DT.f DT.fd ["a", "b", "c"] (spTurn K) := ok_turn DT
  refine D.F.ok sc_left_turning_way (fun vs H Q E h => ?_) (fun cdv A outer s H vs Q E hr h => ?_)
  · obtain ⟨a, ks, rfl, _⟩ := h
    rfl
  · obtain ⟨a, ks, rfl, hS, hT, hM, hlen, q⟩ := h
    have nd := sc_left_turning_way.nd
    refine ⟨_, pss_cons (ps_set (i := 1) nd rfl (.inl rfl) (pe_lst pa_nil))
      (pss_cons (ps_for PassesOwn.never rfl (pi_list (pv 0)) (pg_name (i := 2) nd rfl (.inl rfl))
        (pss_cons (ps_while PassesOwn.never (PW.pt (pw_and (pt_cmpR op_gt (pe_callB call_len_seq (by rfl) B.len PySem.boot_len (pa_cons (pv 1) pa_nil)) pe_int (nomark _))
            (pw_and1 (pt_cmpR op_le (pe_call GT hr (by rfl) DT.g DT.F.kp DT.b .nil pass0 (pa_cons (pe_ix ix_list (pv 1) (pe_un un_neg pe_int) (fun _ _ => rfl)) (pa_cons (pe_ix ix_list (pv 1) (pe_un un_neg pe_int) (fun _ _ => rfl)) (pa_cons (pv 2) pa_nil)))) pe_int (nomark _)))))
          (pss_one (ps_expr (pe_bm0 PySem.F.plainAttrs_list PySem.F.slot_list_pop PySem.F.type_list_pop mt_pop (pv 1)))))
        (pss_one (ps_expr (pe_bm PySem.F.plainAttrs_list PySem.F.slot_list_append PySem.F.type_list_append mt_append (pv 1) (pa_cons (pv 2) pa_nil))))))
      (pss_one (ps_ret (pv 1)))), ?_⟩
    refine ⟨Nat.zero_le _, fun o no => ?_⟩
    have s1 : Same H (upd H o (.lst [])) := same_upd no
    refine ⟨.ref a, rfl, a, rfl, ⟨_, s1.seq hS⟩, for_list (K := K) (a := a) (xs := refs ks) (fun i σ H' => ∃ v, σ = [some (.ref a), some (.ref o), v] ∧ Same H H' ∧ H' o = some (.lst (upR (stackK (ks.take i) []))))
      ⟨none, rfl, s1, upd_same⟩ (fun i σ H' _ ⟨_, _, sm, _⟩ => sm.seq hS) ?_ ?_⟩
    · rintro i y σ H' hi ⟨v, rfl, sm, ho⟩
      obtain ⟨kq, hk, rfl⟩ := refs_get hi
      have mq : kq ∈ ks := List.mem_of_getElem? hk
      have hsub : ∀ k ∈ stackK (ks.take i) [], k ∈ ks := fun k h => by
        rcases stackK_sub _ _ k h with h | h
        · cases h
        · exact List.mem_of_mem_take h
      -- the while: t is what is left of the stack
      refine ⟨fun m σ' H2 => ∃ t : List AP, m = t.length ∧ σ' = [some (.ref a), some (.ref o), some (.ref kq.1)] ∧ Same H H2 ∧ H2 o = some (.lst (upR t)) ∧ popsK kq.2 t = popsK kq.2 (stackK (ks.take i) []) ∧ (∀ k ∈ t, k ∈ ks) ∧ t.length ≤ (stackK (ks.take i) []).length,
        ⟨_, _, rfl, rfl, sm, ho, rfl, hsub, Nat.le_refl _⟩, ?_⟩
      rintro m σ' H2 ⟨t, rfl, rfl, sm2, ho2, ep, ts, tl⟩
      have fin : popsK kq.2 t = t → (upR t).length < sizeLine ∧ (∃ v, ([some (V.ref a), some (V.ref o), some (V.ref kq.1)] : L2.St) = [some (.ref a), some (.ref o), v] ∧ Same H (upd H2 o (.lst (upR t ++ [.ref kq.1]))) ∧ (upd H2 o (.lst (upR t ++ [.ref kq.1]))) o = some (.lst (upR (stackK (ks.take (i + 1)) [])))) := fun e => by
        refine ⟨?_, _, rfl, same_upd' sm2 no, ?_⟩
        · have h1 := stackK_len (ks.take i) []
          have h2 : (ks.take i).length ≤ ks.length := by rw [List.length_take]; omega
          rw [upR_len]
          simp only [List.length_nil] at h1
          exact small1000 (by omega)
        · rw [upd_same, take_snoc hk, stackK_snoc, ← ep, e, upR_cons]
      refine ⟨.ref o, rfl, o, _, rfl, .inl (SqL.of ho2), _, _, rfl, rfl, _, rfl, ?_⟩
      rw [upR_len]
      match t, ho2, ep, ts, tl, fin with
      | [], ho2, ep, ts, tl, fin =>
        have fin := fin rfl
        refine ifF (decide_eq_false (by simp)) ?_
        refine ifF (b := false) rfl ?_
        exact ⟨.ref o, rfl, .inl ⟨rfl, _, SqL.of ho2⟩, _, rfl, o, _, _, rfl, rfl, ho2, fin.1, fin.2⟩
      | [x], ho2, ep, ts, tl, fin =>
        have fin := fin rfl
        refine ifF (decide_eq_false (by simp)) ?_
        refine ifF (b := false) rfl ?_
        exact ⟨.ref o, rfl, .inl ⟨rfl, _, SqL.of ho2⟩, _, rfl, o, _, _, rfl, rfl, ho2, fin.1, fin.2⟩
      | y :: x :: t, ho2, ep, ts, tl, fin =>
        have mx : x ∈ ks := ts x (by simp)
        have my : y ∈ ks := ts y (by simp)
        have e2 : upR (y :: x :: t) = upR t ++ [.ref x.1] ++ [.ref y.1] := by rw [upR_cons, upR_cons]
        refine ifT (decide_eq_true (by simp only [List.length_cons]; omega)) ?_
        have hH : TPs K H2 ks := hT.same sm2
        refine ⟨.ref o, rfl, 2, rfl, o, _, -2, .ref x.1, rfl, rfl, SqL.of ho2, (by rw [e2]; exact atI_last2 _ _ _), .ref o, rfl, 1, rfl, o, _, -1, .ref y.1, rfl, rfl, SqL.of ho2, (by rw [e2]; exact atI_last _ _), _, rfl,
          x.1, y.1, kq.1, x.2, y.2, kq.2, rfl, hH x mx, hH y my, hH kq mq, near_of (hM x mx) (hM y my), _, _, rfl, rfl, _, rfl, ?_⟩
        by_cases c : ori x.2 y.2 kq.2 ≤ 0
        · refine ifT (decide_eq_true c) ?_
          have ed : upR (y :: x :: t) = upR (x :: t) ++ [.ref y.1] := upR_cons _ _
          refine ⟨fun σ' H' => σ' = [some (.ref a), some (.ref o), some (.ref kq.1)] ∧ Same H H' ∧ H' o = some (.lst (upR (x :: t))), fun σ' H' ⟨e1, e3, e4⟩ => ⟨_, Nat.lt_succ_self _, x :: t, rfl, e1, e3, e4, ?_, fun k h => ts k (List.mem_cons_of_mem _ h), by simp only [List.length_cons] at *; omega⟩, ?_⟩
          · rw [← ep]
            show popsK kq.2 (x :: t) = if ori x.2 y.2 kq.2 ≤ 0 then popsK kq.2 (x :: t) else y :: x :: t
            rw [if_pos c]
          · refine ⟨.ref o, rfl, .inl ⟨rfl, _, SqL.of ho2⟩, o, _, .ref y.1, rfl, rfl, ho2, ?_, rfl, same_upd' sm2 no, ?_⟩
            · rw [ed]; simp
            · rw [upd_same, ed, List.dropLast_concat]
        · refine ifF (decide_eq_false c) ?_
          have fin := fin (by
            show (if ori x.2 y.2 kq.2 ≤ 0 then popsK kq.2 (x :: t) else y :: x :: t) = _
            rw [if_neg c])
          exact ⟨.ref o, rfl, .inl ⟨rfl, _, SqL.of ho2⟩, _, rfl, o, _, _, rfl, rfl, ho2, fin.1, fin.2⟩
    · rintro σ H' ⟨v, rfl, sm, ho⟩
      refine ⟨.ref o, rfl, q H' o (stackK ks []).reverse sm no ?_ ?_ ?_ ?_⟩
      · rw [refs_len, List.take_length] at ho
        exact ho
      · show pts (stackK ks []).reverse = (Hl.stack (pts ks) []).reverse
        rw [show Hl.stack (pts ks) [] = pts (stackK ks []) from (stackK_pts ks []).symm]
        exact List.map_reverse ..
      · intro k hk
        rcases stackK_sub _ _ k (List.mem_reverse.1 hk) with h | h
        · cases h
        · exact h
      · have := stackK_len ks []
        rw [List.length_reverse]
        simpa using this
end
end Pg

set_option Elab.async false
set_option linter.all false
set_option maxRecDepth 100000
set_option maxHeartbeats 2000000
namespace Pg
open PySem PySem.Spec PyProof.Rows L2 OwR
open Hl (ori)
theorem mem_init {α : Type} {x : α} {l : List α} (h : x ∈ l.dropLast) : x ∈ l := by
  rw [List.dropLast_eq_take] at h
  exact List.mem_of_mem_take h
/-! ### slices -/
theorem cut_init (xs : List V) : cutV xs none (some (-1)) = xs.dropLast := by
  unfold cutV
  rw [HT.sIx_none, List.dropLast_eq_take]
  show (xs.drop 0).take ((if (-1 : Int) < 0 then ((-1 : Int) + (xs.length : Int)).toNat else min (-1 : Int).toNat xs.length) - 0) = _
  rw [if_pos (by decide), List.drop_zero]
  congr 1
  omega
theorem cut_tail (xs : List V) : cutV xs (some 1) none = xs.drop 1 := by
  unfold cutV
  rw [show HT.sIx xs.length 0 (some 1) = min 1 xs.length from HT.sIx_nat xs.length 0 1, HT.sIx_none]
  cases xs with
  | nil => rfl
  | cons x r =>
    rw [show min 1 (x :: r).length = 1 by rw [List.length_cons]; omega, List.drop_succ_cons, List.drop_zero, List.length_cons, Nat.add_sub_cancel, List.take_length]
theorem cut_head (xs : List V) : cutV xs none (some 1) = xs.take 1 := by
  unfold cutV
  rw [HT.sIx_none, show HT.sIx xs.length xs.length (some 1) = min 1 xs.length from HT.sIx_nat xs.length xs.length 1, List.drop_zero, Nat.sub_zero]
  cases xs with
  | nil => rfl
  | cons x r => rw [show min 1 (x :: r).length = 1 by rw [List.length_cons]; omega]
/-! ### a sorted set of points is the specification's order -/
def asL (k : AP) : Addr × List Int := (k.1, [k.2.1, k.2.2])
def asP (m : Addr × List Int) : AP := (m.1, two m.2)
theorem asP_asL (k : AP) : asP (asL k) = k := rfl
theorem sorted_pts {ks : List AP} {L M : List (Addr × List Int)} (hM : Tame ks) (h1 : ∀ p ∈ L, p ∈ ks.map asL) (h2 : ∀ p ∈ ks.map asL, p.2 ∈ L.map (·.2)) (pm : M.Perm L) (nd : (M.map (·.2)).Nodup) (pw : M.Pairwise fun q r => lex2 r.2 q.2 = false) :
    (∀ k ∈ M.map asP, k ∈ ks) ∧ pts (M.map asP) = Sq68.inOrder (pts ks) := by
  have back : ∀ m ∈ M, ∃ k ∈ ks, m = asL k := fun m hm => by
    obtain ⟨k, hk, e⟩ := List.mem_map.1 (h1 m (pm.mem_iff.1 hm))
    exact ⟨k, hk, e.symm⟩
  have sub : ∀ k ∈ M.map asP, k ∈ ks := fun k hk => by
    obtain ⟨m, hm, rfl⟩ := List.mem_map.1 hk
    obtain ⟨k', hk', rfl⟩ := back m hm
    exact hk'
  refine ⟨sub, ?_⟩
  obtain ⟨A, hmem⟩ := Hl.inOrder_ok (l := pts ks) fun y hy => by
    obtain ⟨k, hk, rfl⟩ := List.mem_map.1 hy
    exact hM k hk
  refine Hl.asc_unique (f := Hl.F) ?_ A fun x => ?_
  · show (pts (M.map asP)).Pairwise _
    unfold pts
    rw [List.map_map]
    refine List.pairwise_map.2 ?_
    have nd' := List.pairwise_map.1 nd
    refine List.Pairwise.imp_of_mem (fun {q r} hq hr h => ?_) (nd'.and pw)
    obtain ⟨k, hk, rfl⟩ := back q hq
    obtain ⟨j, hj, rfl⟩ := back r hr
    obtain ⟨ne, lx⟩ := h
    have lx := SrtO.lexB_no.1 lx
    show Hl.lam Hl.F k.2 < Hl.lam Hl.F j.2
    obtain ⟨⟨_, _⟩, _, _⟩ := hM k hk
    obtain ⟨⟨_, _⟩, _, _⟩ := hM j hj
    have lx1 : ¬ (j.2.1 < k.2.1 ∨ (j.2.1 = k.2.1 ∧ j.2.2 < k.2.2)) := lx
    have ne1 : ¬ (k.2.1 = j.2.1 ∧ k.2.2 = j.2.2) := fun z => ne (by
      show [k.2.1, k.2.2] = [j.2.1, j.2.2]
      rw [z.1, z.2])
    unfold Hl.lam Hl.F
    simp only
    omega
  · rw [hmem x]
    constructor
    · intro h
      obtain ⟨k, hk, rfl⟩ := List.mem_map.1 h
      exact List.mem_map.2 ⟨k, sub k hk, rfl⟩
    · intro h
      obtain ⟨k, hk, rfl⟩ := List.mem_map.1 h
      obtain ⟨m, hm, e⟩ := List.mem_map.1 (h2 (asL k) (List.mem_map.2 ⟨k, hk, rfl⟩))
      refine List.mem_map.2 ⟨asP m, List.mem_map.2 ⟨m, pm.mem_iff.2 hm, rfl⟩, ?_⟩
      show two m.2 = k.2
      rw [e]
      rfl
section
variable {P : Program} {w : World} {K : PySem.W.Frag} {mg : Str → Option Value} {base : Heap}
/-! ### corners_of(points) -/
def spCorners (K : PySem.W.Frag) : Sp := fun vs H Q _ => ∃ (a : Addr) (ks : List AP), vs = [.ref a] ∧ SqL K H a (refs ks) ∧ TPs K H ks ∧ Tame ks ∧ ks.length ≤ 12 ∧
  ∀ (H' : Hp) (p : Addr) (js : List AP), Same H H' → H p = none → H' p = some (.lst (refs js)) → pts js = Hl.hull (Sq68.inOrder (pts ks)) → (∀ k ∈ js, k ∈ ks) → js.length ≤ 24 → Q (.ref p) H'
abbrev D_cor (K : PySem.W.Frag) (mg : Str → Option Value) := DefF K mg "corners_of" s_corners_of ["points"]
theorem ok_cor (D : D_cor K mg) (DW : D_way K mg) (DT : D_turn K mg) (B : Blt mg) : FnOk P w K mg base CX0 3 D.f D.fd ["points"] (spCorners K) := by
  have GW : FnOk P w K mg base CX0 2 DW.f DW.fd ["points"] (spWay K) := ok_way DW DT B
  refine D.F.ok sc_corners_of (fun vs H Q E h => ?_) (fun cdv A outer s H vs Q E hr h => ?_)
  · obtain ⟨a, ks, rfl, _⟩ := h
    rfl
  · obtain ⟨a, ks, rfl, hS, hT, hM, hlen, q⟩ := h
    have nd := sc_corners_of.nd
    refine ⟨_, pss_cons (ps_set (i := 1) nd rfl (.inl rfl) (pe_callB (cr_sortedS rfl) (by rfl) B.srt (by decide +kernel) (pa_cons (pe_callTy (cr_setOfT rfl hr.units) (by rfl) B.set (by decide +kernel) (pa_cons (pv 0) pa_nil)) pa_nil)))
      (pss_cons (ps_set (i := 2) nd rfl (.inl rfl) (pe_call GW hr (by rfl) DW.g DW.F.kp DW.b .nil pass0 (pa_cons (pv 1) pa_nil)))
      (pss_cons (ps_set (i := 3) nd rfl (.inl rfl) (pe_call GW hr (by rfl) DW.g DW.F.kp DW.b .nil pass0 (pa_cons (pe_lstRev rfl (by rfl) B.lst (by rfl) B.rev (pv 1)) pa_nil)))
      (pss_one (ps_ret (pe_op op_cat (pe_slice sl_list (pv 2) po_none (po_some (pe_un un_neg pe_int))) (pe_slice sl_list (pv 3) po_none (po_some (pe_un un_neg pe_int)))))))), ?_⟩
    -- ordered = sorted(set(points))
    refine ⟨.ref a, rfl, a, ks.map asL, rfl, (by rw [List.map_map]; exact hS), (fun p hp => ?_), (by rw [List.length_map]; omega), fun st L nst h1 h2 => ?_⟩
    · obtain ⟨k, hk, rfl⟩ := List.mem_map.1 hp
      exact hT k hk
    have s1 : Same H (upd H st (SetTO P w st L)) := same_upd nst
    refine ⟨st, L, rfl, upd_same, (fun p hp => ?_), (fun p hp => ?_), fun M od pm ndM lM pw nod => ?_⟩
    · obtain ⟨k, hk, e⟩ := List.mem_map.1 (h1 p hp)
      rw [← e]
      exact same_sqT s1 (hT k hk)
    · obtain ⟨k, hk, e⟩ := List.mem_map.1 (h1 p hp)
      rw [← e]
      rfl
    obtain ⟨sub, epts⟩ := sorted_pts hM h1 h2 pm ndM pw
    have s2 : Same H (upd (upd H st (SetTO P w st L)) od (.lst (M.map fun q => V.ref q.1))) := s1.trans (same_upd nod)
    have ho : (upd (upd H st (SetTO P w st L)) od (.lst (M.map fun q => V.ref q.1))) od = some (.lst (refs (M.map asP))) := by
      rw [upd_same]
      unfold refs
      rw [List.map_map]
      rfl
    have lms : (M.map asP).length ≤ 12 := by
      have := Hl.len_inOrder (pts ks)
      rw [← epts, pts_len, pts_len] at this
      omega
    generalize hms : M.map asP = ms at *
    have tms : Tame ms := fun k hk => hM k (sub k hk)
    -- below
    refine ⟨.ref od, rfl, od, ms, rfl, SqL.of ho, (hT.same s2).sub sub, tms, by omega, fun H3 bl j1 s3 nbl hbl e1 sub1 l1 => ?_⟩
    -- above
    refine ⟨.ref od, rfl, od, _, rfl, SqL.of (s3 _ _ ho), fun rv nrv => ?_⟩
    have s4 : Same H3 (upd H3 rv (.lst (refs ms).reverse)) := same_upd nrv
    have er : (upd H3 rv (.lst (refs ms).reverse)) rv = some (.lst (refs ms.reverse)) := by
      rw [upd_same]
      unfold refs
      rw [List.map_reverse]
    have h24 : Same H (upd H3 rv (.lst (refs ms).reverse)) := (s2.trans s3).trans s4
    refine ⟨rv, ms.reverse, rfl, SqL.of er, (hT.same h24).sub (fun k hk => sub k (List.mem_reverse.1 hk)), (fun k hk => tms k (List.mem_reverse.1 hk)), by rw [List.length_reverse]; omega, fun H5 ab j2 s5 nab hab e2 sub2 l2 => ?_⟩
    have hbl5 : H5 bl = some (.lst (refs j1)) := s5 _ _ (s4 _ _ hbl)
    rw [List.length_reverse] at l2
    -- below[:-1] + above[:-1]
    refine ⟨.ref bl, rfl, 1, rfl, -1, rfl, bl, _, rfl, SqL.of hbl5, fun p1 n1 => ?_⟩
    have s6 : Same H5 (upd H5 p1 (.lst (cutV (refs j1) none (some (-1))))) := same_upd n1
    refine ⟨.ref ab, rfl, 1, rfl, -1, rfl, ab, _, rfl, SqL.of (s6 _ _ hab), fun p2 n2 => ?_⟩
    have n21 : p1 ≠ p2 := ne_of_none (o := .lst (cutV (refs j1) none (some (-1)))) upd_same n2
    refine ⟨p1, p2, cutV (refs j1) none (some (-1)), cutV (refs j2) none (some (-1)), rfl, rfl, ?_, upd_same, ?_, fun p np => ?_⟩
    · rw [upd_ne n21, upd_same]
    · have q1 := cutV_length (refs j1) none (some (-1))
      have q2 := cutV_length (refs j2) none (some (-1))
      rw [refs_len] at q1 q2
      exact Nat.le_of_lt (small1000 (by omega))
    · have s7 : Same H5 (upd (upd H5 p1 (.lst (cutV (refs j1) none (some (-1))))) p2 (.lst (cutV (refs j2) none (some (-1))))) := s6.trans (same_upd n2)
      have sA : Same H H5 := h24.trans s5
      refine q _ p (j1.dropLast ++ j2.dropLast) ((sA.trans s7).trans (same_upd np)) ((sA.trans s7).free np) ?_ ?_ ?_ ?_
      · rw [upd_same, cut_init, cut_init, refs_append]
        unfold refs
        rw [List.map_dropLast, List.map_dropLast]
      · rw [pts_append]
        show pts j1.dropLast ++ pts j2.dropLast = (Hl.way (Sq68.inOrder (pts ks))).dropLast ++ (Hl.way (Sq68.inOrder (pts ks)).reverse).dropLast
        rw [← epts, ← e1, show (pts ms).reverse = pts ms.reverse from (List.map_reverse ..).symm, ← e2]
        unfold pts
        rw [List.map_dropLast, List.map_dropLast]
      · intro k hk
        rcases List.mem_append.1 hk with h | h
        · exact sub k (sub1 k (mem_init h))
        · exact sub k (List.mem_reverse.1 (sub2 k (mem_init h)))
      · rw [List.length_append, List.length_dropLast, List.length_dropLast]
        omega
end
end Pg

set_option Elab.async false
set_option linter.all false
set_option maxRecDepth 100000
set_option maxHeartbeats 2000000
namespace Pg
open PySem PySem.Spec PyProof.Rows L2 OwR
open Hl (ori)
/-! ### edges: pairs of points, in new tuples -/
abbrev EP2 := Addr × (AP × AP)
def edgesK (ks : List AP) : List (AP × AP) := ks.zip (ks.drop 1 ++ ks.take 1)
def erefs (es : List EP2) : List V := es.map fun e => V.ref e.1
/-- the tuples of the edges stand in the heap -/
def ETs (H : Hp) (es : List EP2) : Prop := ∀ e ∈ es, H e.1 = some (.tup [.ref e.2.1.1, .ref e.2.2.1])
theorem edges_pts (ks : List AP) : Sq68.edges (pts ks) = (edgesK ks).map fun e => (e.1.2, e.2.2) := by
  cases ks with
  | nil => rfl
  | cons k l =>
    show (pts (k :: l)).zip (pts l ++ [k.2]) = ((k :: l).zip (l ++ [k])).map fun e => (e.1.2, e.2.2)
    have e : pts l ++ [k.2] = (l ++ [k]).map (·.2) := by rw [List.map_append]; rfl
    rw [e]
    unfold pts
    rw [List.zip_map]
    rfl
theorem edgesK_len (ks : List AP) : (edgesK ks).length = ks.length := by
  unfold edgesK
  rw [List.length_zip, List.length_append, List.length_drop, List.length_take]
  omega
theorem edgesK_mem {ks : List AP} {e : AP × AP} (h : e ∈ edgesK ks) : e.1 ∈ ks ∧ e.2 ∈ ks := by
  obtain ⟨h1, h2⟩ := List.of_mem_zip (a := e.1) (b := e.2) h
  refine ⟨h1, ?_⟩
  rcases List.mem_append.1 h2 with q | q
  · exact List.mem_of_mem_drop q
  · exact List.mem_of_mem_take q
theorem ETs.same {H H' : Hp} {es : List EP2} (h : ETs H es) (s : Same H H') : ETs H' es := fun e he => s _ _ (h e he)
theorem erefs_len (es : List EP2) : (erefs es).length = es.length := List.length_map ..
theorem erefs_get {es : List EP2} {i : Nat} {v : V} (h : (erefs es)[i]? = some v) : ∃ e, es[i]? = some e ∧ v = .ref e.1 := by
  unfold erefs at h
  rw [List.getElem?_map] at h
  cases e : es[i]? with
  | none => rw [e] at h; cases h
  | some k => rw [e] at h; exact ⟨k, rfl, (Option.some.inj h).symm⟩
/-- addresses and edges side by side -/
theorem mk_es {H : Hp} : ∀ (ts : List Addr) (ps : List (AP × AP)), AtP H ts (ps.map fun e => (V.ref e.1.1, V.ref e.2.1)) → ∃ es : List EP2, es.map (·.2) = ps ∧ ts.map V.ref = erefs es ∧ ETs H es
  | [], [], _ => ⟨[], rfl, rfl, fun e h => nomatch h⟩
  | [], _ :: _, h => by have := h.1; simp at this
  | _ :: _, [], h => by have := h.1; simp at this
  | t :: ts, p :: ps, h => by
    obtain ⟨es, e1, e2, e3⟩ := mk_es ts ps ⟨by have := h.1; simpa using this, fun j a q ha hq => h.2 (j + 1) a q (by simpa using ha) (by simpa using hq)⟩
    refine ⟨(t, p) :: es, by rw [List.map_cons, e1], by show V.ref t :: ts.map V.ref = V.ref t :: erefs es; rw [e2], fun e he => ?_⟩
    rcases List.mem_cons.1 he with rfl | he
    · exact h.2 0 t _ rfl rfl
    · exact e3 e he
/-- numbers that are far from any line -/
def Fair (p : Pt) : Prop := (-10000000 ≤ p.1 ∧ p.1 ≤ 10000000) ∧ -10000000 ≤ p.2 ∧ p.2 ≤ 10000000
def Fairs (ks : List AP) : Prop := ∀ k ∈ ks, Fair k.2
theorem Fair.of_small {p : Pt} (h : Hl.Small p) : Fair p := by
  obtain ⟨⟨_, _⟩, _, _⟩ := h
  exact ⟨⟨by omega, by omega⟩, by omega, by omega⟩
theorem Fair.near {p q : Pt} (h : Fair p) (k : Fair q) : Near p q := by
  obtain ⟨⟨_, _⟩, _, _⟩ := h
  obtain ⟨⟨_, _⟩, _, _⟩ := k
  exact ⟨⟨by omega, by omega⟩, by omega, by omega⟩
section
variable {P : Program} {w : World} {K : PySem.W.Frag} {mg : Str → Option Value} {base : Heap}
def spEdges (K : PySem.W.Frag) : Sp := fun vs H Q _ => ∃ (a : Addr) (ks : List AP), vs = [.ref a] ∧ SqL K H a (refs ks) ∧ ks.length ≤ 100 ∧
  ∀ (H' : Hp) (p : Addr) (es : List EP2), Same H H' → H p = none → H' p = some (.lst (erefs es)) → es.map (·.2) = edgesK ks → ETs H' es → Q (.ref p) H'
abbrev D_edg (K : PySem.W.Frag) (mg : Str → Option Value) := DefF K mg "edges_of" s_edges_of ["corners"]
theorem ok_edg (D : D_edg K mg) (B : Blt mg) : FnOk P w K mg base CX0 1 D.f D.fd ["corners"] (spEdges K) := by
  refine D.F.ok sc_edges_of (fun vs H Q E h => ?_) (fun cdv A outer s H vs Q E hr h => ?_)
  · obtain ⟨a, ks, rfl, _⟩ := h
    rfl
  · obtain ⟨a, ks, rfl, hS, hlen, q⟩ := h
    refine ⟨_, pss_one (ps_ret (pe_lstZip rfl (by rfl) B.lst (by rfl) B.zip (pa_cons (pv 0) (pa_cons (pe_op op_cat (pe_slice sl_list (pv 0) (po_some pe_int) po_none) (pe_slice sl_list (pv 0) po_none (po_some pe_int))) pa_nil)))), ?_⟩
    refine ⟨.ref a, rfl, .ref a, rfl, 1, rfl, a, _, rfl, hS, fun p1 n1 => ?_⟩
    have s1 : Same H (upd H p1 (.lst (cutV (refs ks) (some 1) none))) := same_upd n1
    refine ⟨.ref a, rfl, 1, rfl, a, _, rfl, s1.seq hS, fun p2 n2 => ?_⟩
    have n21 : p1 ≠ p2 := ne_of_none (o := .lst (cutV (refs ks) (some 1) none)) upd_same n2
    have s2 : Same H (upd (upd H p1 (.lst (cutV (refs ks) (some 1) none))) p2 (.lst (cutV (refs ks) none (some 1)))) := s1.trans (same_upd n2)
    refine ⟨p1, p2, _, _, rfl, rfl, (by rw [upd_ne n21, upd_same]), upd_same, ?_, fun p3 n3 => ?_⟩
    · have q1 := cutV_length (refs ks) (some 1) none
      have q2 := cutV_length (refs ks) none (some 1)
      rw [refs_len] at q1 q2
      exact Nat.le_of_lt (small1000 (by omega))
    have s3 := s2.trans (same_upd (o := .lst (cutV (refs ks) (some 1) none ++ cutV (refs ks) none (some 1))) n3)
    refine ⟨a, p3, refs ks, _, rfl, s3.seq hS, SqL.of upd_same, fun H' p ts sm np _ hp hat => ?_⟩
    have e : (refs ks).zip (cutV (refs ks) (some 1) none ++ cutV (refs ks) none (some 1)) = (edgesK ks).map fun e => (V.ref e.1.1, V.ref e.2.1) := by
      rw [cut_tail, cut_head]
      unfold edgesK refs
      rw [← List.map_drop, ← List.map_take, ← List.map_append, List.zip_map]
      rfl
    rw [e] at hat
    obtain ⟨es, e1, e2, e3⟩ := mk_es ts _ hat
    rw [e2] at hp
    exact q H' p es (s3.trans sm) (s3.free np) hp e1 e3
/-! ### cross(a, b) -/
def spCross (K : PySem.W.Frag) : Sp := fun vs H Q _ => ∃ (ta tb : Addr) (a b : Pt), vs = [.ref ta, .ref tb] ∧ SqT K H ta (tupV a) ∧ SqT K H tb (tupV b) ∧ Fair a ∧ Q (.int (Sq68.cross a b)) H
abbrev D_crs (K : PySem.W.Frag) (mg : Str → Option Value) := DefF K mg "cross" s_cross ["a", "b"]
theorem ok_crs (D : D_crs K mg) : FnOk P w K mg base CX0 1 D.f D.fd ["a", "b"] (spCross K) := by
  refine D.F.ok sc_cross (fun vs H Q E h => ?_) (fun cdv A outer s H vs Q E hr h => ?_)
  · obtain ⟨ta, tb, a, b, rfl, _⟩ := h
    rfl
  · obtain ⟨ta, tb, a, b, rfl, ha, hb, ⟨⟨f1, f2⟩, f3, f4⟩, q⟩ := h
    refine ⟨_, pss_one (ps_ret (pe_op op_sub (pe_op op_mul (pe_ix ix_tup (pv 0) pe_int (fun _ _ => rfl)) (pe_ix ix_tup (pv 1) pe_int (fun _ _ => rfl))) (pe_op op_mul (pe_ix ix_tup (pv 0) pe_int (fun _ _ => rfl)) (pe_ix ix_tup (pv 1) pe_int (fun _ _ => rfl))))), ?_⟩
    have a0 : atI (tupV a) 0 = some (.int a.1) := atI_nat (j := 0) rfl
    have a1 : atI (tupV a) 1 = some (.int a.2) := atI_nat (j := 1) rfl
    have b0 : atI (tupV b) 0 = some (.int b.1) := atI_nat (j := 0) rfl
    have b1 : atI (tupV b) 1 = some (.int b.2) := atI_nat (j := 1) rfl
    refine ⟨_, rfl, ta, _, _, _, rfl, rfl, ha, a0, _, rfl, tb, _, _, _, rfl, rfl, hb, b1, _, _, rfl, rfl, .inl ⟨by omega, by omega⟩, _, rfl, ta, _, _, _, rfl, rfl, ha, a1, _, rfl, tb, _, _, _, rfl, rfl, hb, b0, _, _, rfl, rfl, .inl ⟨by omega, by omega⟩, _, _, rfl, rfl, ?_⟩
    exact q
/-! ### divisor_and_factors(a, b), greatest_divisor(a, b) -/
theorem walk_zipT {K : PySem.W.Frag} {a b : Addr} {xs ys : List V} {n : Nat} (hn : n = min xs.length ys.length) : Walk (RZ.ItzT K a b) n (fun H => SqT K H a xs ∧ SqT K H b ys) (YPair (fun i => xs[i]?) (fun i => ys[i]?)) := by
  subst hn
  constructor
  · intro i H1 hi both
    have k1 : i < xs.length := Nat.lt_of_lt_of_le hi (Nat.min_le_left _ _)
    have k2 : i < ys.length := Nat.lt_of_lt_of_le hi (Nat.min_le_right _ _)
    exact ⟨xs, ys, xs[i], ys[i], both.1, both.2, List.getElem?_eq_getElem k1, List.getElem?_eq_getElem k2⟩
  · intro H1 both
    exact ⟨xs, ys, both.1, both.2, by omega⟩
  · rintro i H1 v H2 _ both ⟨T, u, z, e1, e2, e3, e4, e5⟩
    exact ⟨T, u, z, e1, e2, e3, e4 _ both.1, e5 _ both.2⟩
theorem fmod_lt {x y : Int} (h : y ≠ 0) : (x.fmod y).natAbs < y.natAbs := by
  rw [Int.fmod_eq_emod]
  have h1 := Int.emod_nonneg x h
  have h2 := Int.emod_lt x h
  split
  · omega
  · rename_i k
    have : x % y ≠ 0 := fun z => k (.inr (Int.dvd_of_emod_eq_zero z))
    omega
theorem fdiv_le {x y B : Int} (h : y ≠ 0) (hx : -B ≤ x ∧ x ≤ B) : -(2 * B + 2) ≤ x.fdiv y ∧ x.fdiv y ≤ 2 * B + 2 := by
  have h1 := fmod_lt (x := x) h
  have h2 := Int.fmod_def x y
  have h3 : (y * x.fdiv y).natAbs ≤ B.toNat + y.natAbs := by omega
  rw [Int.natAbs_mul] at h3
  have h4 : (x.fdiv y).natAbs ≤ B.toNat + 1 := by
    rcases Nat.lt_or_ge (B.toNat + 1) (x.fdiv y).natAbs with k | k
    · exfalso
      have a1 : y.natAbs * (B.toNat + 2) ≤ y.natAbs * (x.fdiv y).natAbs := Nat.mul_le_mul_left _ (by omega)
      have a2 : 1 * B.toNat ≤ y.natAbs * B.toNat := Nat.mul_le_mul_right _ (by omega)
      rw [Nat.mul_add] at a1
      omega
    · exact k
  omega
/-- g times one row less of another -/
def less (k : Int) (gs ls : List Int) : List Int := (gs.zip ls).map fun x => x.1 - k * x.2
theorem less_get {k : Int} {gs ls : List Int} {i : Nat} {x y : Int} (h1 : gs[i]? = some x) (h2 : ls[i]? = some y) : (less k gs ls)[i]? = some (x - k * y) := by
  unfold less
  rw [List.getElem?_map, (List.getElem?_zip_eq_some (z := (x, y))).2 ⟨h1, h2⟩]
  rfl
/-- three numbers: a sum of times of a and b, and the two times -/
def Trip (a b : Int) (l : List Int) : Prop := ∃ g m n, l = [g, m, n] ∧ m * a + n * b = g
def headI (l : List Int) : Int := l.getD 0 0
def Mild (a : Int) : Prop := -100000000 ≤ a ∧ a ≤ 100000000
def spDF (K : PySem.W.Frag) : Sp := fun vs H Q _ => ∃ (a b : Int), vs = [.int a, .int b] ∧ Mild a ∧ Mild b ∧ ∀ (H' : Hp) (t : Addr) (m n : Int), Same H H' → H' t = some (.tup [.int (Nat.gcd a.natAbs b.natAbs : Nat), .int m, .int n]) → m * a + n * b = (Nat.gcd a.natAbs b.natAbs : Nat) → Q (.ref t) H'
abbrev D_daf (K : PySem.W.Frag) (mg : Str → Option Value) := DefF K mg "divisor_and_factors" s_divisor_and_factors ["a", "b"]
def rMulI : R2 := rI CMul fun i j => .int (i * j)
def rSubI : R2 := rI0 fun i j => .int (i - j)
/-- slot i, a tuple, at the place c -/
def ixT (K : PySem.W.Frag) (i : Nat) (c : Int) : TE := tOp (rIxT K) (tVar i) (tC (.int c))
/-- two names at once -/
def gPair (K : PySem.W.Frag) (i j : Nat) : TG := gTup K 2 (gCons (gName i) (gCons (gName j) gNil))
theorem lc_yes {σ : L2.St} {H : Hp} {A B : Hp → Prop} (h : A H) : tYes σ H (fun b H3 => if b = true then A H3 else B H3) := by
  show (if true = true then A H else B H)
  rw [if_pos rfl]
  exact h
theorem neB (x y : Int) : (!decide (V.int x = V.int y)) = decide (x ≠ y) := by
  by_cases z : x = y
  · rw [decide_eq_true (show V.int x = V.int y by rw [z]), decide_eq_false (by simpa using z)]; rfl
  · rw [decide_eq_false (fun k => z (V.int.inj k)), decide_eq_true z]; rfl
theorem ok_daf (D : D_daf K mg) (B : Blt mg) : FnOk P w K mg base CX0 1 D.f D.fd ["a", "b"] (spDF K) := by
  refine D.F.ok sc_divisor_and_factors (fun vs H Q E h => ?_) (fun cdv A outer s H vs Q E hr h => ?_)
  · obtain ⟨a, b, rfl, _⟩ := h
    rfl
  · obtain ⟨a, b, rfl, ⟨ba1, ba2⟩, ⟨bb1, bb2⟩, q⟩ := h
    have nd := sc_divisor_and_factors.nd
    refine ⟨_, pss_cons (ps_set (i := 2) nd rfl (.inl rfl) (pe_tup (pa_cons (pv 0) (pa_cons pe_int (pa_cons pe_int pa_nil)))))
      (pss_cons (ps_set (i := 3) nd rfl (.inl rfl) (pe_tup (pa_cons (pv 1) (pa_cons pe_int (pa_cons pe_int pa_nil)))))
      (pss_cons (ps_while PassesOwn.never (pt_cmpR op_ne (pe_ix ix_tup (pv 3) pe_int (fun _ _ => rfl)) pe_int (nomark _))
        (pss_cons (ps_set (i := 4) nd rfl (.inr rfl) (pe_op op_fdivN (pe_ix ix_tup (pv 2) pe_int (fun _ _ => rfl)) (pe_ix ix_tup (pv 3) pe_int (fun _ _ => rfl))))
        (pss_cons (ps_set (i := 5) nd rfl (.inl rfl) (pe_callTy call_tuple_of (by rfl) B.tup (by decide +kernel) (pa_cons (pe_lc (own := [("g", 6), ("s", 7)]) (g := gPair K 6 7) (tt := tYes) (te := tOp rSubI (tVar 6) (tOp rMulI (tVar 4) (tVar 7))) rfl nd (RZ.pi_zipA (by rfl) B.zip (pa_cons (pv 2) (pa_cons (pv 3) pa_nil)))
            (blkOk_by (N := ["a", "b", "greater", "lesser", "times", "rest", "g", "s", "number"]) (sc := defScope s_divisor_and_factors) (by decide +kernel))
            (fun _ _ _ _ _ => pg_tup rfl (pgs_cons (pg_name (i := 6) nd rfl (.inl rfl)) (pgs_cons (pg_name (i := 7) nd rfl (.inl rfl)) pgs_nil))) (fun _ _ _ _ _ => pts_nil) (fun _ _ _ _ _ => pe_op op_sub (pv 6) (pe_op op_mul (pv 4) (pv 7)))) pa_nil)))
        (pss_cons (ps_set (i := 2) nd rfl (.inl rfl) (pv 3)) (pss_one (ps_set (i := 3) nd rfl (.inl rfl) (pv 5)))))))
      (pss_cons (ps_if (pt_cmpR op_lt (pe_ix ix_tup (pv 2) pe_int (fun _ _ => rfl)) pe_int (nomark _))
        (pss_one (ps_ret (pe_callTy call_tuple_of (by rfl) B.tup (by decide +kernel) (pa_cons (pe_lc (own := [("number", 8)]) (g := gName 8) (tt := tYes) rfl nd (pi_tup (pv 2))
            (blkOk_by (N := ["a", "b", "greater", "lesser", "times", "rest", "g", "s", "number"]) (sc := defScope s_divisor_and_factors) (by decide +kernel))
            (fun _ _ _ _ _ => pg_name (i := 8) nd rfl (.inl rfl)) (fun _ _ _ _ _ => pts_nil) (fun _ _ _ _ _ => pe_un un_neg (pv 8))) pa_nil)))) pss_nil)
      (pss_one (ps_ret (pv 2)))))), ?_⟩
    refine ⟨_, rfl, (by show 3 ≤ sizeLine; decide), fun t1 n1 => ?_⟩
    have s1 : Same H (upd H t1 (.tup [.int a, .int 1, .int 0])) := same_upd n1
    refine ⟨_, rfl, (by show 3 ≤ sizeLine; decide), fun t2 n2 => ?_⟩
    have s2 : Same H (upd (upd H t1 (.tup [.int a, .int 1, .int 0])) t2 (.tup [.int b, .int 0, .int 1])) := s1.trans (same_upd n2)
    have n12 : t1 ≠ t2 := ne_of_none (o := .tup [.int a, .int 1, .int 0]) upd_same n2
    refine ⟨fun m σ H' => ∃ (tg tl : Addr) (gs ls : List Int) (v4 v5 : Option V), m = (headI ls).natAbs ∧ σ = [some (.int a), some (.int b), some (.ref tg), some (.ref tl), v4, v5, none, none, none] ∧ Same H H' ∧ H' tg = some (.tup (gs.map V.int)) ∧ H' tl = some (.tup (ls.map V.int)) ∧
        Trip a b gs ∧ Trip a b ls ∧ Nat.gcd (headI gs).natAbs (headI ls).natAbs = Nat.gcd a.natAbs b.natAbs ∧ Mild (headI gs) ∧ Mild (headI ls),
      ⟨_, t1, t2, [a, 1, 0], [b, 0, 1], none, none, rfl, rfl, s2, ?_, upd_same, ⟨a, 1, 0, rfl, by omega⟩, ⟨b, 0, 1, rfl, by omega⟩, rfl, ⟨ba1, ba2⟩, ⟨bb1, bb2⟩⟩, ?_⟩
    · rw [upd_ne n12, upd_same]
      rfl
    · rintro m σ H' ⟨tg, tl, gs, ls, v4, v5, rfl, rfl, sm, hg, hl, ⟨g, m1, m2, rfl, eg⟩, ⟨l, k1, k2, rfl, el⟩, egcd, bg, bl⟩
      have egcd : Nat.gcd g.natAbs l.natAbs = Nat.gcd a.natAbs b.natAbs := egcd
      have bg : Mild g := bg
      have bl : Mild l := bl
      obtain ⟨bg1, bg2⟩ := bg
      obtain ⟨bl1, bl2⟩ := bl
      refine ⟨_, rfl, tl, _, _, .int l, rfl, rfl, SqT.of hl, atI_nat (j := 0) rfl, rfl, _, rfl, ?_⟩
      by_cases c : l = 0
      · refine ifF (by rw [neB]; exact decide_eq_false (by simpa using c)) ?_
        subst c
        have egg : g.natAbs = Nat.gcd a.natAbs b.natAbs := by
          rw [← egcd]
          simp
        refine ⟨_, rfl, tg, _, _, .int g, rfl, rfl, SqT.of hg, atI_nat (j := 0) rfl, _, _, rfl, rfl, _, rfl, ?_⟩
        by_cases c2 : g < 0
        · refine ifT (decide_eq_true c2) ?_
          refine ⟨_, rfl, tg, rfl, ⟨_, SqT.of hg⟩, fun d nd1 => ?_⟩
          refine lc_it (walk_tup (K := K) (a := tg) (xs := [g, m1, m2].map V.int)) (fun i H2 => Same H' H2 ∧ H2 d = some (.lst (([-g, -m1, -m2].take i).map V.int)))
            ⟨same_upd nd1, upd_same⟩ (fun i H2 _ ⟨s5, _⟩ => SqT.of (s5 _ _ hg)) ?_ ?_
          · rintro i x H2 H3 hi ⟨s5, hd⟩ ⟨rfl, hx⟩
            have hi3 : i < 3 := hi
            have gx : [-g, -m1, -m2][i]? = some (-(([g, m1, m2] : List Int)[i]'hi3)) := by
              match i, hi3 with
              | 0, _ => rfl
              | 1, _ => rfl
              | 2, _ => rfl
            have ex : x = .int (([g, m1, m2] : List Int)[i]'hi3) := by
              rw [List.getElem?_map, List.getElem?_eq_getElem hi3] at hx
              exact (Option.some.inj hx).symm
            subst ex
            refine ⟨rfl, ?_⟩
            refine lc_yes ?_
            refine ⟨_, rfl, _, rfl, _, hd, ?_, same_upd' s5 nd1, ?_⟩
            · rw [List.length_map, List.length_take]
              exact small1000 (by omega)
            · rw [upd_same, take_snoc gx, List.map_append]
              rfl
          · rintro H2 ⟨s5, hd⟩
            refine ⟨d, _, rfl, .inl ⟨SqL.of hd, fun t nt => ?_⟩⟩
            have egi : ((Nat.gcd a.natAbs b.natAbs : Nat) : Int) = -g := by omega
            refine q _ t (-m1) (-m2) ((sm.trans s5).trans (same_upd nt)) ?_ ?_
            · rw [upd_same, egi]
              rfl
            · rw [egi, ← eg]
              grind
        · refine ifF (decide_eq_false c2) ?_
          have egi : ((Nat.gcd a.natAbs b.natAbs : Nat) : Int) = g := by omega
          refine ⟨_, rfl, q H' tg m1 m2 sm ?_ ?_⟩
          · rw [hg, egi]
            rfl
          · rw [egi, eg]
      · refine ifT (by rw [neB]; exact decide_eq_true c) ?_
        have fl := fmod_lt (x := g) c
        have fk := fdiv_le (x := g) (B := 100000000) c ⟨bg1, bg2⟩
        have fd := Int.fmod_def g l
        generalize hk : g.fdiv l = k at *
        refine ⟨fun σ' H'' => ∃ (tr : Addr) (v4 v5 : Option V), σ' = [some (.int a), some (.int b), some (.ref tl), some (.ref tr), v4, v5, none, none, none] ∧ Same H H'' ∧ H'' tl = some (.tup ([l, k1, k2].map V.int)) ∧ H'' tr = some (.tup ([g - k * l, m1 - k * k1, m2 - k * k2].map V.int)),
          fun σ' H'' ⟨tr, v4, v5, e1, e2, e3, e4⟩ => ⟨_, ?_, tl, tr, [l, k1, k2], [g - k * l, m1 - k * k1, m2 - k * k2], v4, v5, rfl, e1, e2, e3, e4, ⟨l, k1, k2, rfl, el⟩, ⟨_, _, _, rfl, ?_⟩, ?_, ⟨bl1, bl2⟩, ?_⟩, ?_⟩
        · show (g - k * l).natAbs < l.natAbs
          rw [Int.mul_comm k l]
          omega
        · rw [← eg, ← el]
          grind
        · show Nat.gcd l.natAbs (g - k * l).natAbs = _
          rw [← egcd]
          show Int.gcd l (g - k * l) = Int.gcd g l
          rw [Int.gcd_sub_mul_right_right, Int.gcd_comm]
        · show Mild (g - k * l)
          rw [Int.mul_comm k l]
          unfold Mild
          omega
        · refine ⟨_, rfl, tg, _, _, .int g, rfl, rfl, SqT.of hg, atI_nat (j := 0) rfl, _, rfl, tl, _, _, .int l, rfl, rfl, SqT.of hl, atI_nat (j := 0) rfl, _, _, rfl, rfl, ⟨c, by omega⟩, ?_⟩
          subst hk
          refine ⟨_, rfl, _, rfl, tg, tl, [g, m1, m2].map V.int, [l, k1, k2].map V.int, rfl, .inr ⟨SqT.of hg, SqT.of hl, fun d nd1 => ?_⟩⟩
          refine lc_it (walk_zipT (K := K) (a := tg) (b := tl) (xs := [g, m1, m2].map V.int) (ys := [l, k1, k2].map V.int) (n := 3) rfl) (fun i H2 => Same H' H2 ∧ H2 d = some (.lst (((less (g.fdiv l) [g, m1, m2] [l, k1, k2]).take i).map V.int)))
            ⟨same_upd nd1, upd_same⟩ (fun i H2 _ ⟨s5, _⟩ => ⟨SqT.of (s5 _ _ hg), SqT.of (s5 _ _ hl)⟩) ?_ ?_
          · rintro i x H2 H3 hi ⟨s5, hd⟩ ⟨T, u, v, rfl, nT, rfl, hu, hv⟩
            have g1 : ([g, m1, m2].map V.int)[i]? = some (.int (([g, m1, m2] : List Int)[i]'hi)) := by rw [List.getElem?_map, List.getElem?_eq_getElem (show i < [g, m1, m2].length from hi)]; rfl
            have g2 : ([l, k1, k2].map V.int)[i]? = some (.int (([l, k1, k2] : List Int)[i]'hi)) := by rw [List.getElem?_map, List.getElem?_eq_getElem (show i < [l, k1, k2].length from hi)]; rfl
            have eu := Option.some.inj (hu.symm.trans g1)
            have ev := Option.some.inj (hv.symm.trans g2)
            subst eu ev
            have ndT : d ≠ T := ne_of_none hd nT
            have gd := less_get (k := g.fdiv l) (List.getElem?_eq_getElem (show i < [g, m1, m2].length from hi)) (List.getElem?_eq_getElem (show i < [l, k1, k2].length from hi))
            refine ⟨T, _, rfl, SqT.of upd_same, rfl, _, _, rfl, _, _, rfl, rfl, rfl, ?_⟩
            refine lc_yes ?_
            refine ⟨_, rfl, _, rfl, _, rfl, _, _, rfl, rfl, .inl ⟨by omega, by omega⟩, _, _, rfl, rfl, _, (by rw [upd_ne ndT]; exact hd), ?_, same_upd' (s5.trans (same_upd nT)) nd1, ?_⟩
            · rw [List.length_map, List.length_take]
              exact small1000 (by omega)
            · rw [upd_same, take_snoc gd, List.map_append]
              rfl
          · rintro H2 ⟨s5, hd⟩
            refine ⟨d, _, rfl, .inl ⟨SqL.of hd, fun t nt => ?_⟩⟩
            have s6 : Same H2 (upd H2 t (.tup (((less (g.fdiv l) [g, m1, m2] [l, k1, k2]).take 3).map V.int))) := same_upd nt
            exact ⟨_, rfl, _, rfl, t, _, _, rfl, (sm.trans s5).trans s6, s6 _ _ (s5 _ _ hl), upd_same⟩
def spGcd : Sp := fun vs H Q _ => ∃ (a b : Int), vs = [.int a, .int b] ∧ Mild a ∧ Mild b ∧ ∀ H', Same H H' → Q (.int (Nat.gcd a.natAbs b.natAbs : Nat)) H'
abbrev D_gcd (K : PySem.W.Frag) (mg : Str → Option Value) := DefF K mg "greatest_divisor" s_greatest_divisor ["a", "b"]
theorem ok_gcd (D : D_gcd K mg) (DD : D_daf K mg) (B : Blt mg) : FnOk P w K mg base CX0 2 D.f D.fd ["a", "b"] spGcd := by
  have GD : FnOk P w K mg base CX0 1 DD.f DD.fd ["a", "b"] (spDF K) := ok_daf DD B
  refine D.F.ok sc_greatest_divisor (fun vs H Q E h => ?_) (fun cdv A outer s H vs Q E hr h => ?_)
  · obtain ⟨a, b, rfl, _⟩ := h
    rfl
  · obtain ⟨a, b, rfl, ma, mb, q⟩ := h
    refine ⟨_, pss_one (ps_ret (pe_ix ix_tup (pe_call GD hr (by rfl) DD.g DD.F.kp DD.b .nil pass0 (pa_cons (pv 0) (pa_cons (pv 1) pa_nil))) pe_int (fun _ _ => rfl))), ?_⟩
    exact ⟨_, rfl, _, rfl, a, b, rfl, ma, mb, fun H' t m n sm ht _ => ⟨t, _, _, _, rfl, rfl, SqT.of ht, atI_nat (j := 0) rfl, q H' sm⟩⟩
/-! ### twice_area(corners), count_at_edge(corners) -/
/-- a list of points that the program may count with -/
def PolyAt (K : PySem.W.Frag) (H : Hp) (a : Addr) (ks : List AP) : Prop := SqL K H a (refs ks) ∧ TPs K H ks ∧ Fairs ks ∧ ks.length ≤ 100
theorem PolyAt.same {K : PySem.W.Frag} {H H' : Hp} {a : Addr} {ks : List AP} (h : PolyAt K H a ks) (s : Same H H') : PolyAt K H' a ks := ⟨s.seq h.1, h.2.1.same s, h.2.2⟩
def spOfPoly (K : PySem.W.Frag) (g : List Pt → Int) : Sp := fun vs H Q _ => ∃ (a : Addr) (ks : List AP), vs = [.ref a] ∧ PolyAt K H a ks ∧ ∀ H', Same H H' → Q (.int (g (pts ks))) H'
abbrev D_twi (K : PySem.W.Frag) (mg : Str → Option Value) := DefF K mg "twice_area" s_twice_area ["corners"]
theorem ints_snoc {α : Type} (f : α → Int) (l : List α) {i : Nat} {e : α} (h : l[i]? = some e) : ((l.take i).map fun e => V.int (f e)) ++ [V.int (f e)] = (l.take (i + 1)).map fun e => V.int (f e) := by
  rw [take_snoc h, List.map_append]
  rfl
theorem map_ints {α : Type} (f : α → Int) (l : List α) : (l.map fun e => V.int (f e)) = (l.map f).map V.int := by rw [List.map_map]; rfl
theorem ok_twi (D : D_twi K mg) (DE : D_edg K mg) (DX : D_crs K mg) (B : Blt mg) : FnOk P w K mg base CX0 2 D.f D.fd ["corners"] (spOfPoly K Sq68.twice) := by
  have GE : FnOk P w K mg base CX0 1 DE.f DE.fd ["corners"] (spEdges K) := ok_edg DE B
  have GX : FnOk P w K mg base CX0 1 DX.f DX.fd ["a", "b"] (spCross K) := ok_crs DX
  refine D.F.ok sc_twice_area (fun vs H Q E h => ?_) (fun cdv A outer s H vs Q E hr h => ?_)
  · obtain ⟨a, ks, rfl, _⟩ := h
    rfl
  · obtain ⟨a, ks, rfl, ⟨hS, hT, hF, hlen⟩, q⟩ := h
    have nd := sc_twice_area.nd
    refine ⟨_, pss_one (ps_ret (pe_callB (cr_sum rfl) (by rfl) B.sum (by decide +kernel) (pa_cons (pe_lc (own := [("a", 1), ("b", 2)]) (g := gPair K 1 2) (tt := tYes) (te := tCall (spCross K) [] (fun _ _ _ => False) (tCons (tVar 1) (tCons (tVar 2) tNil))) rfl nd (pi_list (pe_call GE hr (by rfl) DE.g DE.F.kp DE.b .nil pass0 (pa_cons (pv 0) pa_nil)))
      (blkOk_by (N := ["corners", "a", "b"]) (sc := defScope s_twice_area) (by decide +kernel))
      (fun _ _ _ _ _ => pg_tup rfl (pgs_cons (pg_name (i := 1) nd rfl (.inl rfl)) (pgs_cons (pg_name (i := 2) nd rfl (.inl rfl)) pgs_nil))) (fun _ _ _ _ _ => pts_nil)
      (fun _ _ _ _ _ => pe_call GX hr (by rfl) DX.g DX.F.kp DX.b .nil pass0 (pa_cons (pv 1) (pa_cons (pv 2) pa_nil)))) pa_nil))), ?_⟩
    refine ⟨.ref a, rfl, a, ks, rfl, hS, hlen, fun H1 l es s1 nl hl ee het => ?_⟩
    refine ⟨l, rfl, ⟨_, SqL.of hl⟩, fun d nd' => ?_⟩
    have les : es.length = ks.length := by rw [← edgesK_len ks, ← ee, List.length_map]
    refine lc_list (K := K) (a := l) (xs := erefs es) (fun i H' => Same H1 H' ∧ H' d = some (.lst ((es.take i).map fun e => V.int (Sq68.cross e.2.1.2 e.2.2.2))))
      ⟨same_upd nd', upd_same⟩ (fun i H' _ ⟨sm, _⟩ => SqL.of (sm _ _ hl)) ?_ ?_
    · rintro i y H' hi ⟨sm, hd⟩
      obtain ⟨e, he, rfl⟩ := erefs_get hi
      have me : e ∈ es := List.mem_of_getElem? he
      have mk : e.2 ∈ edgesK ks := by rw [← ee]; exact List.mem_map.2 ⟨e, me, rfl⟩
      obtain ⟨m1, m2⟩ := edgesK_mem mk
      have t1 : SqT K H' e.2.1.1 (tupV e.2.1.2) := same_sqT (s1.trans sm) (hT _ m1)
      have t2 : SqT K H' e.2.2.1 (tupV e.2.2.2) := same_sqT (s1.trans sm) (hT _ m2)
      refine ⟨e.1, _, rfl, SqT.of (sm _ _ (het e me)), rfl, _, _, rfl, _, _, rfl, rfl, rfl, ?_⟩
      refine lc_yes ?_
      refine ⟨_, rfl, _, rfl, e.2.1.1, e.2.2.1, e.2.1.2, e.2.2.2, rfl, t1, t2, hF _ m1, _, hd, ?_, same_upd' sm nd', ?_⟩
      · rw [List.length_map, List.length_take]
        exact small1000 (by omega)
      · rw [upd_same]
        exact congrArg (fun z => some (HO.lst z)) (ints_snoc (fun e : EP2 => Sq68.cross e.2.1.2 e.2.2.2) es he)
    · rintro H' ⟨sm, hd⟩
      rw [erefs_len, List.take_length, map_ints] at hd
      refine ⟨d, _, rfl, SqL.of hd, ?_⟩
      have e : (es.map fun e => Sq68.cross e.2.1.2 e.2.2.2).sum = Sq68.twice (pts ks) := by
        unfold Sq68.twice
        rw [edges_pts, ← ee, List.map_map, List.map_map]
        rfl
      rw [e]
      exact q H' (s1.trans sm)
end
end Pg

set_option Elab.async false
set_option linter.all false
set_option maxRecDepth 100000
set_option maxHeartbeats 2000000
namespace Pg
open PySem PySem.Spec PyProof.Rows L2 OwR
open Hl (ori)
section
variable {P : Program} {w : World} {K : PySem.W.Frag} {mg : Str → Option Value} {base : Heap}
def noX : XK := fun _ _ _ => False
/-! ### count_at_edge(corners) -/
def stepsI (e : AP × AP) : Int := (Nat.gcd (e.2.2.1 - e.1.2.1).natAbs (e.2.2.2 - e.1.2.2).natAbs : Nat)
def edgeI (c : List Pt) : Int := (Sq68.edge c : Nat)
abbrev D_cae (K : PySem.W.Frag) (mg : Str → Option Value) := DefF K mg "count_at_edge" s_count_at_edge ["corners"]
theorem sum_cast {α : Type} (f : α → Nat) : ∀ l : List α, (l.map fun e => ((f e : Nat) : Int)).sum = ((l.map f).sum : Nat)
  | [] => rfl
  | x :: l => by
    simp only [List.map_cons, List.sum_cons, sum_cast f l]
    omega
theorem edge_sum {ks : List AP} : ((edgesK ks).map stepsI).sum = edgeI (pts ks) := by
  unfold edgeI Sq68.edge
  rw [edges_pts, List.map_map]
  exact sum_cast (fun e : AP × AP => Nat.gcd (e.2.2.1 - e.1.2.1).natAbs (e.2.2.2 - e.1.2.2).natAbs) _
theorem ok_cae (D : D_cae K mg) (DE : D_edg K mg) (DG : D_gcd K mg) (DD : D_daf K mg) (B : Blt mg) : FnOk P w K mg base CX0 3 D.f D.fd ["corners"] (spOfPoly K edgeI) := by
  have GE : FnOk P w K mg base CX0 1 DE.f DE.fd ["corners"] (spEdges K) := ok_edg DE B
  have GG : FnOk P w K mg base CX0 2 DG.f DG.fd ["a", "b"] spGcd := ok_gcd DG DD B
  refine D.F.ok sc_count_at_edge (fun vs H Q E h => ?_) (fun cdv A outer s H vs Q E hr h => ?_)
  · obtain ⟨a, ks, rfl, _⟩ := h
    rfl
  · obtain ⟨a, ks, rfl, ⟨hS, hT, hF, hlen⟩, q⟩ := h
    have nd := sc_count_at_edge.nd
    have hr1 : Room 1 _ := hr.mono (by decide)
    refine ⟨_, pss_one (ps_ret (pe_callB (cr_sum rfl) (by rfl) B.sum (by decide +kernel) (pa_cons (pe_lc (own := [("a", 1), ("b", 2)]) (g := gPair K 1 2) (tt := tYes) (te := tCall spGcd [] noX (tCons (tOp rSubI (ixT K 2 0) (ixT K 1 0)) (tCons (tOp rSubI (ixT K 2 1) (ixT K 1 1)) tNil))) rfl nd
      (pi_list (pe_call GE hr1 (by rfl) DE.g DE.F.kp DE.b .nil pass0 (pa_cons (pv 0) pa_nil)))
      (blkOk_by (N := ["corners", "a", "b"]) (sc := defScope s_count_at_edge) (by decide +kernel))
      (fun _ _ _ _ _ => pg_tup rfl (pgs_cons (pg_name (i := 1) nd rfl (.inl rfl)) (pgs_cons (pg_name (i := 2) nd rfl (.inl rfl)) pgs_nil))) (fun _ _ _ _ _ => pts_nil)
      (fun _ _ _ _ _ => pe_call GG hr (by rfl) DG.g DG.F.kp DG.b .nil pass0 (pa_cons (pe_op op_sub (pe_ix ix_tup (pv 2) pe_int (fun _ _ => rfl)) (pe_ix ix_tup (pv 1) pe_int (fun _ _ => rfl))) (pa_cons (pe_op op_sub (pe_ix ix_tup (pv 2) pe_int (fun _ _ => rfl)) (pe_ix ix_tup (pv 1) pe_int (fun _ _ => rfl))) pa_nil)))) pa_nil))), ?_⟩
    refine ⟨.ref a, rfl, a, ks, rfl, hS, hlen, fun H1 l es s1 nl hl ee het => ?_⟩
    refine ⟨l, rfl, ⟨_, SqL.of hl⟩, fun d nd' => ?_⟩
    have les : es.length = ks.length := by rw [← edgesK_len ks, ← ee, List.length_map]
    refine lc_list (K := K) (a := l) (xs := erefs es) (fun i H' => Same H1 H' ∧ H' d = some (.lst ((es.take i).map fun e => V.int (stepsI e.2))))
      ⟨same_upd nd', upd_same⟩ (fun i H' _ ⟨sm, _⟩ => SqL.of (sm _ _ hl)) ?_ ?_
    · rintro i y H' hi ⟨sm, hd⟩
      obtain ⟨e, he, rfl⟩ := erefs_get hi
      have me : e ∈ es := List.mem_of_getElem? he
      have mk : e.2 ∈ edgesK ks := by rw [← ee]; exact List.mem_map.2 ⟨e, me, rfl⟩
      obtain ⟨m1, m2⟩ := edgesK_mem mk
      have t1 : SqT K H' e.2.1.1 (tupV e.2.1.2) := same_sqT (s1.trans sm) (hT _ m1)
      have t2 : SqT K H' e.2.2.1 (tupV e.2.2.2) := same_sqT (s1.trans sm) (hT _ m2)
      refine ⟨e.1, _, rfl, SqT.of (sm _ _ (het e me)), rfl, _, _, rfl, _, _, rfl, rfl, rfl, ?_⟩
      refine lc_yes ?_
      refine ⟨_, rfl, e.2.2.1, _, _, _, rfl, rfl, t2, atI_nat (j := 0) rfl, _, rfl, e.2.1.1, _, _, _, rfl, rfl, t1, atI_nat (j := 0) rfl, _, _, rfl, rfl,
        _, rfl, e.2.2.1, _, _, _, rfl, rfl, t2, atI_nat (j := 1) rfl, _, rfl, e.2.1.1, _, _, _, rfl, rfl, t1, atI_nat (j := 1) rfl, _, _, rfl, rfl, _, _, rfl, ?_, ?_, fun H2 s2 => ⟨_, s2 _ _ hd, ?_, same_upd' (sm.trans s2) nd', ?_⟩⟩
      · obtain ⟨⟨_, _⟩, _, _⟩ := hF _ m1
        obtain ⟨⟨_, _⟩, _, _⟩ := hF _ m2
        unfold Mild
        omega
      · obtain ⟨⟨_, _⟩, _, _⟩ := hF _ m1
        obtain ⟨⟨_, _⟩, _, _⟩ := hF _ m2
        unfold Mild
        omega
      · rw [List.length_map, List.length_take]
        exact small1000 (by omega)
      · rw [upd_same]
        exact congrArg (fun z => some (HO.lst z)) (ints_snoc (fun e : EP2 => stepsI e.2) es he)
    · rintro H' ⟨sm, hd⟩
      rw [erefs_len, List.take_length, map_ints] at hd
      refine ⟨d, _, rfl, SqL.of hd, ?_⟩
      have e : (es.map fun e => stepsI e.2).sum = edgeI (pts ks) := by
        rw [← edge_sum, ← ee, List.map_map]
        rfl
      rw [e]
      exact q H' (s1.trans sm)
/-! ### count_all(corners, k), count_within(corners) -/
abbrev D_all (K : PySem.W.Frag) (mg : Str → Option Value) := DefF K mg "count_all" s_count_all ["corners", "k"]
abbrev D_cwi (K : PySem.W.Frag) (mg : Str → Option Value) := DefF K mg "count_within" s_count_within ["corners"]
def spAll (K : PySem.W.Frag) : Sp := fun vs H Q _ => ∃ (a : Addr) (ks : List AP) (k : Nat), vs = [.ref a, .int (k : Nat)] ∧ PolyAt K H a ks ∧ k ≤ 1000 ∧ ∀ H', Same H H' → Q (.int (Sq68.count (pts ks) k)) H'
theorem count_eq (t : Int) (e k : Nat) : ((k : Int) * (k : Int) * t + (k : Int) * (e : Int)) / 2 + 1 = (t * k * k + e * k + 2) / 2 := by
  have h : (t * k * k + e * k + 2) = ((k : Int) * (k : Int) * t + (k : Int) * (e : Int)) + 1 * 2 := by grind
  rw [h, Int.add_mul_ediv_right _ _ (by decide)]
theorem ok_all (D : D_all K mg) (DW : D_twi K mg) (DC : D_cae K mg) (DE : D_edg K mg) (DG : D_gcd K mg) (DD : D_daf K mg) (DX : D_crs K mg) (B : Blt mg) : FnOk P w K mg base CX0 4 D.f D.fd ["corners", "k"] (spAll K) := by
  have GT : FnOk P w K mg base CX0 2 DW.f DW.fd ["corners"] (spOfPoly K Sq68.twice) := ok_twi DW DE DX B
  have GC : FnOk P w K mg base CX0 3 DC.f DC.fd ["corners"] (spOfPoly K edgeI) := ok_cae DC DE DG DD B
  refine D.F.ok sc_count_all (fun vs H Q E h => ?_) (fun cdv A outer s H vs Q E hr h => ?_)
  · obtain ⟨a, ks, k, rfl, _⟩ := h
    rfl
  · obtain ⟨a, ks, k, rfl, hp, hk, q⟩ := h
    have hr2 : Room 2 _ := hr.mono (by decide)
    refine ⟨_, pss_one (ps_ret (pe_op op_add (pe_op op_fdiv (pe_op op_add (pe_op op_mul (pe_op op_mul (pv 1) (pv 1)) (pe_call GT hr2 (by rfl) DW.g DW.F.kp DW.b .nil pass0 (pa_cons (pv 0) pa_nil)))
      (pe_op op_mul (pv 1) (pe_call GC hr (by rfl) DC.g DC.F.kp DC.b .nil pass0 (pa_cons (pv 0) pa_nil)))) pe_int) pe_int)), ?_⟩
    refine ⟨_, rfl, _, rfl, _, _, rfl, rfl, .inl ⟨by omega, by omega⟩, .ref a, rfl, a, ks, rfl, hp, fun H1 s1 => ?_⟩
    have kk : ((k : Nat) : Int) * ((k : Nat) : Int) ≤ 1000 * 1000 := Int.mul_le_mul (by omega) (by omega) (by omega) (by omega)
    have kk0 : 0 ≤ ((k : Nat) : Int) * ((k : Nat) : Int) := Int.mul_nonneg (by omega) (by omega)
    refine ⟨_, _, rfl, rfl, .inl ⟨by omega, by omega⟩, _, rfl, .ref a, rfl, a, ks, rfl, hp.same s1, fun H2 s2 => ?_⟩
    refine ⟨_, _, rfl, rfl, .inl ⟨by omega, by omega⟩, _, _, rfl, rfl, _, _, rfl, rfl, ⟨by decide, by decide⟩, _, _, rfl, rfl, ?_⟩
    have e := count_eq (Sq68.twice (pts ks)) (Sq68.edge (pts ks)) k
    show Q (V.int (((k : Int) * (k : Int) * Sq68.twice (pts ks) + (k : Int) * edgeI (pts ks)) / 2 + 1)) H2
    unfold edgeI
    rw [e]
    exact q H2 (s1.trans s2)
theorem ok_cwi (D : D_cwi K mg) (DA : D_all K mg) (DW : D_twi K mg) (DC : D_cae K mg) (DE : D_edg K mg) (DG : D_gcd K mg) (DD : D_daf K mg) (DX : D_crs K mg) (B : Blt mg) : FnOk P w K mg base CX0 5 D.f D.fd ["corners"] (spOfPoly K Sq68.inner) := by
  have GA : FnOk P w K mg base CX0 4 DA.f DA.fd ["corners", "k"] (spAll K) := ok_all DA DW DC DE DG DD DX B
  have GC : FnOk P w K mg base CX0 3 DC.f DC.fd ["corners"] (spOfPoly K edgeI) := ok_cae DC DE DG DD B
  refine D.F.ok sc_count_within (fun vs H Q E h => ?_) (fun cdv A outer s H vs Q E hr h => ?_)
  · obtain ⟨a, ks, rfl, _⟩ := h
    rfl
  · obtain ⟨a, ks, rfl, hp, q⟩ := h
    have hr2 : Room 3 _ := hr.mono (by decide)
    refine ⟨_, pss_one (ps_ret (pe_op op_sub (pe_call GA hr (by rfl) DA.g DA.F.kp DA.b .nil pass0 (pa_cons (pv 0) (pa_cons pe_int pa_nil))) (pe_call GC hr2 (by rfl) DC.g DC.F.kp DC.b .nil pass0 (pa_cons (pv 0) pa_nil)))), ?_⟩
    refine ⟨.ref a, rfl, a, ks, 1, rfl, hp, by decide, fun H1 s1 => ⟨.ref a, rfl, a, ks, rfl, hp.same s1, fun H2 s2 => ⟨_, _, rfl, rfl, ?_⟩⟩⟩
    have e : Sq68.count (pts ks) 1 - edgeI (pts ks) = Sq68.inner (pts ks) := by
      unfold Sq68.count Sq68.inner edgeI
      omega
    show Q (V.int (Sq68.count (pts ks) 1 - edgeI (pts ks))) H2
    rw [e]
    exact q H2 (s1.trans s2)
end
end Pg

set_option Elab.async false
set_option linter.all false
set_option maxRecDepth 100000
set_option maxHeartbeats 2000000
namespace Pg
open PySem PySem.Spec PyProof.Rows L2 OwR
open Hl (ori)
/-- a name of the top that holds a whole number -/
abbrev IntG (mg : Str → Option Value) (x : Str) (n : Int) : Prop := ∃ t, mg x = some (.int n t)
theorem where_min {c : List Pt} {p : Pt} {ns : List Int} {m : Int} (e : ns = (Sq68.edges c).map fun e => ori e.1 e.2 p) (hm : m ∈ ns) (hle : ∀ x ∈ ns, m ≤ x) :
    Sq68.where_ c p = if m < 0 then 0 else if m = 0 then 1 else 2 := by
  have a1 : (((Sq68.edges c).map fun e => Sq68.cross (Sq68.sub e.2 e.1) (Sq68.sub p e.1)).all fun x => decide (0 < x)) = decide (0 < m) := by
    show (((Sq68.edges c).map fun e => ori e.1 e.2 p).all fun x => decide (0 < x)) = _
    rw [← e]
    by_cases k : 0 < m
    · rw [decide_eq_true k, List.all_eq_true]
      intro x hx
      have := hle x hx
      exact decide_eq_true (by omega)
    · rw [decide_eq_false k, List.all_eq_false]
      exact ⟨m, hm, by simpa using k⟩
  have a2 : (((Sq68.edges c).map fun e => Sq68.cross (Sq68.sub e.2 e.1) (Sq68.sub p e.1)).all fun x => decide (0 ≤ x)) = decide (0 ≤ m) := by
    show (((Sq68.edges c).map fun e => ori e.1 e.2 p).all fun x => decide (0 ≤ x)) = _
    rw [← e]
    by_cases k : 0 ≤ m
    · rw [decide_eq_true k, List.all_eq_true]
      intro x hx
      have := hle x hx
      exact decide_eq_true (by omega)
    · rw [decide_eq_false k, List.all_eq_false]
      exact ⟨m, hm, by simpa using k⟩
  unfold Sq68.where_
  simp only [a1, a2, decide_eq_true_eq]
  split
  · rw [if_neg (by omega), if_neg (by omega)]
  · split
    · rw [if_neg (by omega), if_pos (by omega)]
    · rw [if_pos (by omega)]
section
variable {P : Program} {w : World} {K : PySem.W.Frag} {mg : Str → Option Value} {base : Heap}
structure CstW (mg : Str → Option Value) : Prop where
  out : IntG mg "OUTSIDE" 0
  edge : IntG mg "AT_EDGE" 1
  ins : IntG mg "WITHIN" 2
/-! ### standing_of(corners, point) -/
def spStand (K : PySem.W.Frag) : Sp := fun vs H Q _ => ∃ (a tp : Addr) (ks : List AP) (p : Pt), vs = [.ref a, .ref tp] ∧ PolyAt K H a ks ∧ ks ≠ [] ∧ SqT K H tp (tupV p) ∧ ∀ H', Same H H' → Q (.int (Sq68.where_ (pts ks) p : Nat)) H'
abbrev D_sta (K : PySem.W.Frag) (mg : Str → Option Value) := DefF K mg "standing_of" s_standing_of ["corners", "point"]
theorem ok_sta (D : D_sta K mg) (DE : D_edg K mg) (DT : D_turn K mg) (C : CstW mg) (B : Blt mg) : FnOk P w K mg base CX0 2 D.f D.fd ["corners", "point"] (spStand K) := by
  have GE : FnOk P w K mg base CX0 1 DE.f DE.fd ["corners"] (spEdges K) := ok_edg DE B
  have GT : FnOk P w K mg base CX0 1 DT.f DT.fd ["a", "b", "c"] (spTurn K) := ok_turn DT
  obtain ⟨⟨t0, g0⟩, ⟨t1, g1⟩, ⟨t2, g2⟩⟩ := C
  refine D.F.ok sc_standing_of (fun vs H Q E h => ?_) (fun cdv A outer s H vs Q E hr h => ?_)
  · obtain ⟨a, tp, ks, p, rfl, _⟩ := h
    rfl
  · obtain ⟨a, tp, ks, p, rfl, ⟨hS, hT, hF, hlen⟩, hne, hP, q⟩ := h
    have nd := sc_standing_of.nd
    refine ⟨_, pss_cons (ps_set (i := 2) nd rfl (.inl rfl) (pe_callB (cr_min rfl) (by rfl) B.min (by decide +kernel) (pa_cons (pe_lc (own := [("a", 3), ("b", 4)]) (g := gPair K 3 4) (tt := tYes) (te := tCall (spTurn K) [] noX (tCons (tVar 3) (tCons (tVar 4) (tCons (tVar 1) tNil)))) rfl nd
        (pi_list (pe_call GE hr (by rfl) DE.g DE.F.kp DE.b .nil pass0 (pa_cons (pv 0) pa_nil)))
        (blkOk_by (N := ["corners", "point", "least", "a", "b"]) (sc := defScope s_standing_of) (by decide +kernel))
        (fun _ _ _ _ _ => pg_tup rfl (pgs_cons (pg_name (i := 3) nd rfl (.inl rfl)) (pgs_cons (pg_name (i := 4) nd rfl (.inl rfl)) pgs_nil))) (fun _ _ _ _ _ => pts_nil)
        (fun _ _ _ _ _ => pe_call GT hr (by rfl) DT.g DT.F.kp DT.b .nil pass0 (pa_cons (pv 3) (pa_cons (pv 4) (pa_cons (pv 1) pa_nil))))) pa_nil)))
      (pss_cons (ps_if (pt_cmpR op_lt (pv 2) pe_int (nomark _)) (pss_one (ps_ret (pe_glob rfl g0 (v := .int 0) ⟨_, rfl⟩))) pss_nil)
      (pss_cons (ps_if (pt_cmpR op_eq (pv 2) pe_int (nomark _)) (pss_one (ps_ret (pe_glob rfl g1 (v := .int 1) ⟨_, rfl⟩))) pss_nil)
      (pss_one (ps_ret (pe_glob rfl g2 (v := .int 2) ⟨_, rfl⟩))))), ?_⟩
    refine ⟨.ref a, rfl, a, ks, rfl, hS, hlen, fun H1 l es s1 nl hl ee het => ?_⟩
    refine ⟨l, rfl, ⟨_, SqL.of hl⟩, fun d nd' => ?_⟩
    have les : es.length = ks.length := by rw [← edgesK_len ks, ← ee, List.length_map]
    refine lc_list (K := K) (a := l) (xs := erefs es) (fun i H' => Same H1 H' ∧ H' d = some (.lst ((es.take i).map fun e => V.int (ori e.2.1.2 e.2.2.2 p))))
      ⟨same_upd nd', upd_same⟩ (fun i H' _ ⟨sm, _⟩ => SqL.of (sm _ _ hl)) ?_ ?_
    · rintro i y H' hi ⟨sm, hd⟩
      obtain ⟨e, he, rfl⟩ := erefs_get hi
      have me : e ∈ es := List.mem_of_getElem? he
      have mk : e.2 ∈ edgesK ks := by rw [← ee]; exact List.mem_map.2 ⟨e, me, rfl⟩
      obtain ⟨m1, m2⟩ := edgesK_mem mk
      have sA := s1.trans sm
      refine ⟨e.1, _, rfl, SqT.of (sm _ _ (het e me)), rfl, _, _, rfl, _, _, rfl, rfl, rfl, ?_⟩
      refine lc_yes ?_
      refine ⟨_, rfl, _, rfl, _, rfl, e.2.1.1, e.2.2.1, tp, e.2.1.2, e.2.2.2, p, rfl, same_sqT sA (hT _ m1), same_sqT sA (hT _ m2), same_sqT sA hP, (hF _ m1).near (hF _ m2), _, hd, ?_, same_upd' sm nd', ?_⟩
      · rw [List.length_map, List.length_take]
        exact small1000 (by omega)
      · rw [upd_same]
        exact congrArg (fun z => some (HO.lst z)) (ints_snoc (fun e : EP2 => ori e.2.1.2 e.2.2.2 p) es he)
    · rintro H' ⟨sm, hd⟩
      rw [erefs_len, List.take_length, map_ints] at hd
      refine ⟨d, _, rfl, SqL.of hd, ?_, fun m hm hle => ?_⟩
      · rw [List.length_map, les]
        exact List.length_pos_iff.2 hne
      have ew : Sq68.where_ (pts ks) p = if m < 0 then 0 else if m = 0 then 1 else 2 := where_min (by
        rw [edges_pts, ← ee, List.map_map, List.map_map]
        rfl) hm hle
      have q := q H' (s1.trans sm)
      rw [ew] at q
      refine ⟨_, rfl, _, _, rfl, rfl, _, rfl, ?_⟩
      by_cases c : m < 0
      · rw [if_pos c] at q
        exact ifT (decide_eq_true c) q
      · rw [if_neg c] at q
        refine ifF (decide_eq_false c) ⟨_, rfl, rfl, _, rfl, ?_⟩
        by_cases c2 : m = 0
        · rw [if_pos c2] at q
          exact ifT (decide_eq_true (by rw [c2])) q
        · rw [if_neg c2] at q
          exact ifF (decide_eq_false fun z => c2 (V.int.inj z)) q
end
end Pg

set_option Elab.async false
set_option linter.all false
set_option maxRecDepth 100000
set_option maxHeartbeats 2000000
namespace Pg
open PySem PySem.Spec PyProof.Rows L2 OwR
open Hl (ori rg)
theorem rg_get {lo hi : Int} {i : Nat} (h : i < (hi - lo).toNat) : (rg lo hi)[i]? = some (lo + (i : Int)) := by
  unfold rg
  rw [List.getElem?_map, List.getElem?_range h]
  rfl
theorem rg_len (lo hi : Int) : (rg lo hi).length = (hi - lo).toNat := by unfold rg; rw [List.length_map, List.length_range]
theorem flat_snoc {α β : Type} (f : α → List β) {l : List α} {i : Nat} {x : α} (h : l[i]? = some x) : (l.take (i + 1)).flatMap f = (l.take i).flatMap f ++ f x := by
  rw [take_snoc h, List.flatMap_append]
  simp
theorem min_unique {l : List Int} {m n : Int} (a : m ∈ l) (b : ∀ x ∈ l, m ≤ x) (c : n ∈ l) (d : ∀ x ∈ l, n ≤ x) : m = n := by
  have := b n c
  have := d m a
  omega
theorem max_unique {l : List Int} {m n : Int} (a : m ∈ l) (b : ∀ x ∈ l, x ≤ m) (c : n ∈ l) (d : ∀ x ∈ l, x ≤ n) : m = n := by
  have := b n c
  have := d m a
  omega
theorem has_min : ∀ l : List Int, l ≠ [] → ∃ m ∈ l, ∀ x ∈ l, m ≤ x
  | [], h => absurd rfl h
  | [a], _ => ⟨a, by simp, fun x hx => by rw [List.mem_singleton.1 hx]; exact Int.le_refl _⟩
  | a :: b :: l, _ => by
    obtain ⟨m, hm, h⟩ := has_min (b :: l) (by simp)
    by_cases c : a ≤ m
    · refine ⟨a, by simp, fun x hx => ?_⟩
      rcases List.mem_cons.1 hx with rfl | hx
      · exact Int.le_refl _
      · have := h x hx; omega
    · refine ⟨m, List.mem_cons_of_mem _ hm, fun x hx => ?_⟩
      rcases List.mem_cons.1 hx with rfl | hx
      · omega
      · exact h x hx
theorem has_max (l : List Int) (h : l ≠ []) : ∃ m ∈ l, ∀ x ∈ l, x ≤ m := by
  obtain ⟨m, hm, k⟩ := has_min (l.map fun x => -x) (by simpa using h)
  obtain ⟨y, hy, rfl⟩ := List.mem_map.1 hm
  refine ⟨y, hy, fun x hx => ?_⟩
  have := k (-x) (List.mem_map.2 ⟨x, hx, rfl⟩)
  omega
/-- a tuple stands though a list is written -/
theorem sqT_upd {K : PySem.W.Frag} {H : Hp} {o b : Addr} {xs ys zs : List V} (ho : H o = some (.lst xs)) (h : SqT K H b zs) : SqT K (upd H o (.lst ys)) b zs := by
  rcases h with (h | ⟨u, h⟩) | ⟨h1, h2⟩
  · refine .inl (.inl ?_)
    rw [upd_ne (ne_of h ho (by intro z; cases z))]
    exact h
  · refine .inl (.inr ⟨u, ?_⟩)
    rw [upd_ne (ne_of h ho (by intro z; cases z))]
    exact h
  · exact .inr ⟨h1, h2⟩
/-- numbers of a polygon that is walked point by point -/
def Mid (p : Pt) : Prop := (-1000 ≤ p.1 ∧ p.1 ≤ 1000) ∧ -1000 ≤ p.2 ∧ p.2 ≤ 1000
def Mids (ks : List AP) : Prop := ∀ k ∈ ks, Mid k.2
section
variable {P : Program} {w : World} {K : PySem.W.Frag} {mg : Str → Option Value} {base : Heap}
/-! ### points_within(corners) -/
def spWithin (K : PySem.W.Frag) : Sp := fun vs H Q _ => ∃ (a : Addr) (ks : List AP), vs = [.ref a] ∧ PolyAt K H a ks ∧ Mids ks ∧ ks ≠ [] ∧
  ∀ (H' : Hp) (p : Addr) (js : List AP), Same H H' → H p = none → H' p = some (.lst (refs js)) → TPs K H' js → pts js = Sq68.innerPoints (pts ks) → js.length ≤ 4000000 → Q (.ref p) H'
abbrev D_ptw (K : PySem.W.Frag) (mg : Str → Option Value) := DefF K mg "points_within" s_points_within ["corners"]
theorem ok_ptw (D : D_ptw K mg) (DS : D_sta K mg) (DE : D_edg K mg) (DT : D_turn K mg) (C : CstW mg) (B : Blt mg) : FnOk P w K mg base CX0 3 D.f D.fd ["corners"] (spWithin K) := by
  have GS : FnOk P w K mg base CX0 2 DS.f DS.fd ["corners", "point"] (spStand K) := ok_sta DS DE DT C B
  obtain ⟨t2, g2⟩ := C.ins
  refine D.F.ok sc_points_within (fun vs H Q E h => ?_) (fun cdv A outer s H vs Q E hr h => ?_)
  · obtain ⟨a, ks, rfl, _⟩ := h
    rfl
  · obtain ⟨a, ks, rfl, ⟨hS, hT, hF, hlen⟩, hMd, hne, q⟩ := h
    have nd := sc_points_within.nd
    refine ⟨_, pss_cons (ps_setLc (i := 1) (own := [("corner", 6)]) (g := gName 6) (tt := tYes) (te := ixT K 6 0) (by rfl) nd rfl rfl (sw_true rfl rfl rfl (by decide +kernel)) (pi_list (pv 0))
        (blkOk_by (N := ["corners", "xs", "ys", "found", "x", "y", "corner"]) (sc := defScope s_points_within) (by decide +kernel)) (fun _ _ _ _ _ => pg_name (i := 6) nd rfl (.inl rfl)) (fun _ _ _ _ _ => pts_nil) (fun _ _ _ _ _ => pe_ix ix_tup (pv 6) pe_int (fun _ _ => rfl)))
      (pss_cons (ps_setLc (i := 2) (own := [("corner", 6)]) (g := gName 6) (tt := tYes) (te := ixT K 6 1) (by rfl) nd rfl rfl (sw_true rfl rfl rfl (by decide +kernel)) (pi_list (pv 0))
        (blkOk_by (N := ["corners", "xs", "ys", "found", "x", "y", "corner"]) (sc := defScope s_points_within) (by decide +kernel)) (fun _ _ _ _ _ => pg_name (i := 6) nd rfl (.inl rfl)) (fun _ _ _ _ _ => pts_nil) (fun _ _ _ _ _ => pe_ix ix_tup (pv 6) pe_int (fun _ _ => rfl)))
      (pss_cons (ps_set (i := 3) nd rfl (.inl rfl) (pe_lst pa_nil))
      (pss_cons (ps_for PassesOwn.never rfl (pi_range2 (by rfl) B.rng (pa_cons (pe_op op_add (pe_callB (cr_min rfl) (by rfl) B.min (by decide +kernel) (pa_cons (pv 1) pa_nil)) pe_int) (pa_cons (pe_callB (cr_max rfl) (by rfl) B.max (by decide +kernel) (pa_cons (pv 1) pa_nil)) pa_nil))) (pg_name (i := 4) nd rfl (.inl rfl))
        (pss_one (ps_for PassesOwn.never rfl (pi_range2 (by rfl) B.rng (pa_cons (pe_op op_add (pe_callB (cr_min rfl) (by rfl) B.min (by decide +kernel) (pa_cons (pv 2) pa_nil)) pe_int) (pa_cons (pe_callB (cr_max rfl) (by rfl) B.max (by decide +kernel) (pa_cons (pv 2) pa_nil)) pa_nil))) (pg_name (i := 5) nd rfl (.inl rfl))
          (pss_one (ps_if (pt_cmpR op_eq (pe_call GS hr (by rfl) DS.g DS.F.kp DS.b .nil pass0 (pa_cons (pv 0) (pa_cons (pe_tup (pa_cons (pv 4) (pa_cons (pv 5) pa_nil))) pa_nil))) (pe_glob rfl g2 (v := .int 2) ⟨_, rfl⟩) (nomark _))
            (pss_one (ps_expr (pe_bm PySem.F.plainAttrs_list PySem.F.slot_list_append PySem.F.type_list_append mt_append (pv 3) (pa_cons (pe_tup (pa_cons (pv 4) (pa_cons (pv 5) pa_nil))) pa_nil)))) pss_nil)))))
      (pss_one (ps_ret (pv 3)))))), ?_⟩
    -- xs
    refine ⟨_, rfl, a, rfl, ⟨_, hS⟩, fun d1 n1 => ?_⟩
    refine lc_list (K := K) (a := a) (xs := refs ks) (fun i H' => Same H H' ∧ H' d1 = some (.lst ((ks.take i).map fun k => V.int k.2.1)))
      ⟨same_upd n1, upd_same⟩ (fun i H' _ ⟨sm, _⟩ => sm.seq hS) ?_ ?_
    · rintro i y H' hi ⟨sm, hd⟩
      obtain ⟨k, hk, rfl⟩ := refs_get hi
      have mk : k ∈ ks := List.mem_of_getElem? hk
      refine ⟨rfl, ?_⟩
      refine lc_yes ?_
      refine ⟨_, rfl, k.1, _, _, _, rfl, rfl, same_sqT sm (hT k mk), atI_nat (j := 0) rfl, _, hd, ?_, same_upd' sm n1, ?_⟩
      · rw [List.length_map, List.length_take]
        exact small1000 (by omega)
      · rw [upd_same]
        exact congrArg (fun z => some (HO.lst z)) (ints_snoc (fun k : AP => k.2.1) ks hk)
    rintro H1 ⟨s1, hx⟩
    rw [refs_len, List.take_length, map_ints] at hx
    -- ys
    refine ⟨_, rfl, a, rfl, ⟨_, s1.seq hS⟩, fun d2 n2 => ?_⟩
    refine lc_list (K := K) (a := a) (xs := refs ks) (fun i H' => Same H1 H' ∧ H' d2 = some (.lst ((ks.take i).map fun k => V.int k.2.2)))
      ⟨same_upd n2, upd_same⟩ (fun i H' _ ⟨sm, _⟩ => (s1.trans sm).seq hS) ?_ ?_
    · rintro i y H' hi ⟨sm, hd⟩
      obtain ⟨k, hk, rfl⟩ := refs_get hi
      have mk : k ∈ ks := List.mem_of_getElem? hk
      refine ⟨rfl, ?_⟩
      refine lc_yes ?_
      refine ⟨_, rfl, k.1, _, _, _, rfl, rfl, same_sqT (s1.trans sm) (hT k mk), atI_nat (j := 1) rfl, _, hd, ?_, same_upd' sm n2, ?_⟩
      · rw [List.length_map, List.length_take]
        exact small1000 (by omega)
      · rw [upd_same]
        exact congrArg (fun z => some (HO.lst z)) (ints_snoc (fun k : AP => k.2.2) ks hk)
    rintro H2 ⟨s2, hy⟩
    rw [refs_len, List.take_length, map_ints] at hy
    have hx2 := s2 _ _ hx
    refine ⟨Nat.zero_le _, fun o no => ?_⟩
    have sH2 : Same H H2 := s1.trans s2
    have so : Same H2 (upd H2 o (.lst [])) := same_upd no
    have exm : ks.map (fun k => k.2.1) = (pts ks).map (·.1) := by unfold pts; rw [List.map_map]; rfl
    have eym : ks.map (fun k => k.2.2) = (pts ks).map (·.2) := by unfold pts; rw [List.map_map]; rfl
    have nx : ks.map (fun k => k.2.1) ≠ [] := by simpa using hne
    have ny : ks.map (fun k => k.2.2) ≠ [] := by simpa using hne
    obtain ⟨x0, x0m, x0l⟩ := has_min _ nx
    obtain ⟨x1, x1m, x1l⟩ := has_max _ nx
    obtain ⟨y0, y0m, y0l⟩ := has_min _ ny
    obtain ⟨y1, y1m, y1l⟩ := has_max _ ny
    have bx0 : -1000 ≤ x0 ∧ x0 ≤ 1000 := by obtain ⟨k, hk, rfl⟩ := List.mem_map.1 x0m; exact (hMd k hk).1
    have bx1 : -1000 ≤ x1 ∧ x1 ≤ 1000 := by obtain ⟨k, hk, rfl⟩ := List.mem_map.1 x1m; exact (hMd k hk).1
    have by0 : -1000 ≤ y0 ∧ y0 ≤ 1000 := by obtain ⟨k, hk, rfl⟩ := List.mem_map.1 y0m; exact (hMd k hk).2
    have by1 : -1000 ≤ y1 ∧ y1 ≤ 1000 := by obtain ⟨k, hk, rfl⟩ := List.mem_map.1 y1m; exact (hMd k hk).2
    have einn : Sq68.innerPoints (pts ks) = (rg (x0 + 1) x1).flatMap fun x => (rg (y0 + 1) y1).flatMap fun y => if (Sq68.where_ (pts ks) (x, y) == 2) = true then [(x, y)] else [] :=
      Hl.inner_eq (by unfold pts; simpa using hne) (by rw [← exm]; exact x0m) (by rw [← exm]; exact x0l) (by rw [← exm]; exact x1m) (by rw [← exm]; exact x1l) (by rw [← eym]; exact y0m) (by rw [← eym]; exact y0l) (by rw [← eym]; exact y1m) (by rw [← eym]; exact y1l)
    generalize hrow : (fun x => (rg (y0 + 1) y1).flatMap fun y => if (Sq68.where_ (pts ks) (x, y) == 2) = true then [(x, y)] else []) = row at einn
    have lenx : 0 < (ks.map fun k => k.2.1).length := List.length_pos_iff.2 nx
    have leny : 0 < (ks.map fun k => k.2.2).length := List.length_pos_iff.2 ny
    have nxy : (x1 - (x0 + 1)).toNat ≤ 2000 := by omega
    have nyy : (y1 - (y0 + 1)).toNat ≤ 2000 := by omega
    refine ⟨.ref d1, rfl, d1, _, rfl, SqL.of (so _ _ hx2), lenx, fun m hm hle => ⟨_, _, rfl, rfl, .ref d1, rfl, d1, _, rfl, SqL.of (so _ _ hx2), lenx, fun M hM hge => ?_⟩⟩
    obtain rfl := min_unique hm hle x0m x0l
    obtain rfl := max_unique hM hge x1m x1l
    refine ⟨m + 1, M, rfl, ⟨by omega, by omega, by omega, by omega⟩, for_range (lo := m + 1) (n := (M - (m + 1)).toNat) (fun i σ H' => ∃ (v5 v6 : Option V) (js : List AP), σ = [some (.ref a), some (.ref d1), some (.ref d2), some (.ref o), v5, v6, none] ∧ Same H2 H' ∧ H' o = some (.lst (refs js)) ∧ TPs K H' js ∧ pts js = ((rg (m + 1) M).take i).flatMap row ∧ js.length ≤ i * (y1 - (y0 + 1)).toNat)
      ⟨none, none, [], rfl, so, upd_same, (fun k hk => nomatch hk), rfl, Nat.zero_le _⟩ ?_ ?_⟩
    · rintro i σ H' hi ⟨v5, v6, js, rfl, sm, ho, hjs, ejs, ljs⟩
      have hx' := sm _ _ hx2
      have hy' := sm _ _ hy
      have gx := rg_get hi
      refine ⟨.ref d2, rfl, d2, _, rfl, SqL.of hy', leny, fun m' hm' hle' => ⟨_, _, rfl, rfl, .ref d2, rfl, d2, _, rfl, SqL.of hy', leny, fun M' hM' hge' => ?_⟩⟩
      obtain rfl := min_unique hm' hle' y0m y0l
      obtain rfl := max_unique hM' hge' y1m y1l
      refine ⟨m' + 1, M', rfl, ⟨by omega, by omega, by omega, by omega⟩, for_range (lo := m' + 1) (n := (M' - (m' + 1)).toNat) (fun j σ H' => ∃ (v6 : Option V) (js : List AP), σ = [some (.ref a), some (.ref d1), some (.ref d2), some (.ref o), some (.int (m + 1 + (i : Int))), v6, none] ∧ Same H2 H' ∧ H' o = some (.lst (refs js)) ∧ TPs K H' js ∧
          pts js = ((rg (m + 1) M).take i).flatMap row ++ ((rg (m' + 1) M').take j).flatMap (fun y => if (Sq68.where_ (pts ks) (m + 1 + (i : Int), y) == 2) = true then [(m + 1 + (i : Int), y)] else []) ∧ js.length ≤ i * (M' - (m' + 1)).toNat + j)
        ⟨_, js, rfl, sm, ho, hjs, (by rw [ejs]; simp), ljs⟩ ?_ ?_⟩
      · rintro j σ H3 hj ⟨v6, js, rfl, sm3, ho3, hjs3, ejs3, ljs3⟩
        have gy := rg_get hj
        have s3 : Same H H3 := sH2.trans sm3
        -- standing_of(corners, (x, y))
        refine ⟨_, rfl, _, rfl, _, rfl, (by show 2 ≤ sizeLine; decide), fun T nT => ?_⟩
        have sT : Same H3 (upd H3 T (.tup [.int (m + 1 + (i : Int)), .int (m' + 1 + (j : Int))])) := same_upd nT
        refine ⟨a, T, ks, (m + 1 + (i : Int), m' + 1 + (j : Int)), rfl, ⟨(s3.trans sT).seq hS, hT.same (s3.trans sT), hF, hlen⟩, hne, SqT.of upd_same, fun H4 s4 => ?_⟩
        have s34 : Same H3 H4 := sT.trans s4
        refine ⟨rfl, _, rfl, ?_⟩
        have bound : i * (M' - (m' + 1)).toNat + j < 4000000 := by
          have h1 : (i + 1) * (M' - (m' + 1)).toNat ≤ 2000 * 2000 := Nat.mul_le_mul (by omega) nyy
          rw [Nat.succ_mul] at h1
          omega
        by_cases c : Sq68.where_ (pts ks) (m + 1 + (i : Int), m' + 1 + (j : Int)) = 2
        · refine ifT (decide_eq_true (by rw [c]; rfl)) ?_
          refine ⟨_, rfl, .inl ⟨rfl, _, SqL.of (s34 _ _ ho3)⟩, _, rfl, _, rfl, (by show 2 ≤ sizeLine; decide), fun T2 nT2 => ?_⟩
          have nTo : o ≠ T2 := ne_of_none (s34 _ _ ho3) nT2
          have sT2 : Same H4 (upd H4 T2 (.tup [.int (m + 1 + (i : Int)), .int (m' + 1 + (j : Int))])) := same_upd nT2
          refine ⟨o, _, _, rfl, rfl, sT2 _ _ (s34 _ _ ho3), ?_, ?_⟩
          · rw [refs_len]
            exact Nat.lt_of_le_of_lt (Nat.le_trans ljs3 (Nat.le_of_lt bound)) (by decide)
          · refine ⟨_, js ++ [(T2, (m + 1 + (i : Int), m' + 1 + (j : Int)))], rfl, ?_, ?_, ?_, ?_, ?_⟩
            · exact same_upd' ((sm3.trans s34).trans sT2) no
            · rw [upd_same, refs_append]
              rfl
            · intro k hk
              rcases List.mem_append.1 hk with h | h
              · have : SqT K (upd H4 T2 (.tup [.int (m + 1 + (i : Int)), .int (m' + 1 + (j : Int))])) k.1 (tupV k.2) := same_sqT (s34.trans sT2) (hjs3 k h)
                exact sqT_upd (sT2 _ _ (s34 _ _ ho3)) this
              · rw [List.mem_singleton.1 h]
                refine SqT.of ?_
                rw [upd_ne (Ne.symm nTo), upd_same]
                rfl
            · rw [pts_append, ejs3, flat_snoc _ gy, List.append_assoc]
              congr 1
              rw [c]
              rfl
            · rw [List.length_append, List.length_singleton]
              omega
        · refine ifF (decide_eq_false fun z => c ?_) ?_
          · have := V.int.inj z
            omega
          · refine ⟨_, js, rfl, sm3.trans s34, s34 _ _ ho3, hjs3.same s34, ?_, by omega⟩
            rw [ejs3, flat_snoc _ gy, if_neg (by simpa using c), List.append_nil]
      · rintro σ H3 ⟨v6, js, rfl, sm3, ho3, hjs3, ejs3, ljs3⟩
        refine ⟨_, _, js, rfl, sm3, ho3, hjs3, ?_, ?_⟩
        · rw [flat_snoc _ gx, ejs3, ← rg_len, List.take_length, ← hrow]
        · rw [Nat.succ_mul]
          exact ljs3
    · rintro σ H' ⟨v5, v6, js, rfl, sm, ho, hjs, ejs, ljs⟩
      rw [← rg_len, List.take_length, ← einn] at ejs
      refine ⟨_, rfl, q H' o js (sH2.trans sm) (sH2.free no) ho hjs ejs ?_⟩
      exact Nat.le_trans ljs (Nat.mul_le_mul nxy nyy)
end
end Pg

set_option Elab.async false
set_option linter.all false
set_option maxRecDepth 100000
set_option maxHeartbeats 2000000
namespace Pg
open PySem PySem.Spec PyProof.Rows L2 OwR
open Hl (ori rg)
/-- an own error of the program, straight under Exception -/
structure ExF (K : PySem.W.Frag) (mg : Str → Option Value) (x : Str) where
  C : Addr
  g : mg x = some (.ref C)
  x : PySem.W.excIn K C [.type "Exception", .type "BaseException", .type "object"] "Exception.__new__" = true
  k : PySem.W.keepIn K (.ref C) = true
  b : PySem.W.subIn K (.ref C) (.type "BaseException") = some true
  t : PySem.W.typeIn K (.ref C) = some (.type "type")
  i : PySem.W.isClsIn K C = true
theorem exm_by {K : PySem.W.Frag} {S D : Addr} {v : Bool} (h1 : PySem.W.subIn K (.ref D) (.type "BaseException") = some true) (h2 : PySem.W.isClsIn K D = true) (h3 : PySem.W.typeIn K (.ref D) = some (.type "type")) (h4 : PySem.W.subIn K (.ref S) (.ref D) = some v) :
    PySem.W.exmOne K (.ref S) (.ref D) = some v := by
  have e1 : (PySem.W.subIn K (.ref D) (.type "BaseException") == some true) = true := by rw [h1] <;> rfl
  have e2 : ((PySem.W.clsIn K D).isSome && PySem.W.typeIn K (.ref D) == some (.type "type")) = true := by
    have h2' : (PySem.W.clsIn K D).isSome = true := h2
    rw [h2', h3] <;> rfl
  show (if (PySem.W.subIn K (.ref D) (.type "BaseException") == some true) = true then (if ((PySem.W.clsIn K D).isSome && PySem.W.typeIn K (.ref D) == some (.type "type")) = true then PySem.W.subIn K (.ref S) (.ref D) else none) else none) = some v
  rw [if_pos e1, if_pos e2]
  exact h4
/-! ### read_points(plus, minus) -/
def diffs (ps ms : List Int) : List Int := (ps.zip ms).map fun x => x.1 - x.2
def pairUp : List Int → List Pt
  | x :: y :: l => (x, y) :: pairUp l
  | _ => []
theorem diffs_get {ps ms : List Int} {i : Nat} {x y : Int} (h1 : ps[i]? = some x) (h2 : ms[i]? = some y) : (diffs ps ms)[i]? = some (x - y) := by
  unfold diffs
  rw [List.getElem?_map, (List.getElem?_zip_eq_some (z := (x, y))).2 ⟨h1, h2⟩]
  rfl
theorem diffs_len (ps ms : List Int) : (diffs ps ms).length = min ps.length ms.length := by unfold diffs; rw [List.length_map, List.length_zip]
theorem pairUp_len : ∀ l : List Int, (pairUp l).length = l.length / 2
  | [] => rfl
  | [_] => by show 0 = (0 + 1) / 2; rfl
  | x :: y :: l => by
    show (pairUp l).length + 1 = (l.length + 1 + 1) / 2
    rw [pairUp_len l]
    omega
theorem pairUp_get : ∀ (l : List Int) (i : Nat) (x y : Int), l[2 * i]? = some x → l[2 * i + 1]? = some y → (pairUp l)[i]? = some (x, y)
  | [], i, x, y, h, _ => by simp at h
  | [a], i, x, y, h, h2 => by
    have : (2 * i + 1) < [a].length := (List.getElem?_eq_some_iff.1 h2).1
    simp at this
  | a :: b :: l, 0, x, y, h, h2 => by
    simp only [Nat.mul_zero, List.getElem?_cons_zero, Option.some.injEq, Nat.zero_add, List.getElem?_cons_succ] at h h2
    subst h h2
    rfl
  | a :: b :: l, i + 1, x, y, h, h2 => by
    show (pairUp l)[i]? = some (x, y)
    refine pairUp_get l i x y ?_ ?_
    · rw [show 2 * (i + 1) = 2 * i + 1 + 1 by omega] at h
      simpa using h
    · rw [show 2 * (i + 1) + 1 = 2 * i + 1 + 1 + 1 by omega] at h2
      simpa using h2
theorem rgC_two {n : Nat} (h : n ≤ 1000) : RgC 0 (2 * n : Nat) 2 n := by
  have e : Builtin.Range.rangeSize 0 (2 * n : Nat) 2 = (n : Nat) := by
    unfold Builtin.Range.rangeSize
    rw [if_pos (by decide)]
    split <;> omega
  refine ⟨by decide, by decide, ?_, e⟩
  unfold Builtin.Range.small
  rw [e]
  unfold Builtin.Range.rangeFitsLong
  rw [if_pos (by decide)]
  simp only [Bool.and_eq_true, Bool.or_eq_true, decide_eq_true_eq, beq_iff_eq]
  omega
def rAddI : R2 := rI0 fun i j => .int (i + j)
section
variable {P : Program} {w : World} {K : PySem.W.Frag} {mg : Str → Option Value} {base : Heap}
/-- two rows of numbers, each a list -/
def RowsAt (K : PySem.W.Frag) (H : Hp) (ap am : Addr) (ps ms : List Int) : Prop := SqL K H ap (ps.map V.int) ∧ SqL K H am (ms.map V.int) ∧ ps.length ≤ 100 ∧ ms.length ≤ 100
theorem RowsAt.same {K : PySem.W.Frag} {H H' : Hp} {ap am : Addr} {ps ms : List Int} (h : RowsAt K H ap am ps ms) (s : Same H H') : RowsAt K H' ap am ps ms := ⟨s.seq h.1, s.seq h.2.1, h.2.2⟩
def okRows (ps ms : List Int) : Prop := ps.length = ms.length ∧ ps.length % 2 = 0
def spRead (K : PySem.W.Frag) (C : Addr) : Sp := fun vs H Q E => ∃ (ap am : Addr) (ps ms : List Int), vs = [.ref ap, .ref am] ∧ RowsAt K H ap am ps ms ∧ (¬ okRows ps ms → E (.ref C) none H) ∧
  (okRows ps ms → ∀ (H' : Hp) (p : Addr) (js : List AP), Same H H' → H p = none → H' p = some (.lst (refs js)) → TPs K H' js → pts js = pairUp (diffs ps ms) → Q (.ref p) H')
abbrev D_rpt (K : PySem.W.Frag) (mg : Str → Option Value) := DefF K mg "read_points" s_read_points ["plus", "minus"]
theorem ok_rpt (D : D_rpt K mg) (X : ExF K mg "NotPoints") (B : Blt mg) : FnOk P w K mg base (L2.CX P w) 1 D.f D.fd ["plus", "minus"] (spRead K X.C) := by
  refine D.F.okX sc_read_points (fun vs H Q E h => ?_) (fun cdv A outer s H vs Q E hr h => ?_)
  · obtain ⟨ap, am, ps, ms, rfl, _⟩ := h
    rfl
  · obtain ⟨ap, am, ps, ms, rfl, ⟨hP, hM, lP, lM⟩, bad, good⟩ := h
    have nd := sc_read_points.nd
    refine ⟨_, pss_cons (ps_if (PW.pt (pw_or (pt_cmpR op_ne (pe_callB call_len_seq (by rfl) B.len PySem.boot_len (pa_cons (pv 0) pa_nil)) (pe_callB call_len_seq (by rfl) B.len PySem.boot_len (pa_cons (pv 1) pa_nil)) (nomark _))
        (pw_or1 (pt_cmpR op_ne (pe_op op_mod (pe_callB call_len_seq (by rfl) B.len PySem.boot_len (pa_cons (pv 0) pa_nil)) pe_int) pe_int (nomark _)))))
        (pss_one (ps_raise rfl (takes_of rfl rfl rfl rfl) (pmk_own0 PySem.F.excBase_Exception X.x X.g X.k (raises_own X.b X.t) rfl))) pss_nil)
      (PSs.nox (pss_cons (ps_set (i := 2) nd rfl (.inr rfl) (pe_lc (own := [("p", 3), ("m", 4)]) (g := gPair K 3 4) (tt := tYes) (te := tOp rSubI (tVar 3) (tVar 4)) rfl nd (pi_zip (by rfl) B.zip (pa_cons (pv 0) (pa_cons (pv 1) pa_nil)))
          (blkOk_by (N := ["plus", "minus", "numbers", "p", "m", "k"]) (sc := defScope s_read_points) (by decide +kernel))
          (fun _ _ _ _ _ => pg_tup rfl (pgs_cons (pg_name (i := 3) nd rfl (.inl rfl)) (pgs_cons (pg_name (i := 4) nd rfl (.inl rfl)) pgs_nil))) (fun _ _ _ _ _ => pts_nil) (fun _ _ _ _ _ => pe_op op_sub (pv 3) (pv 4))))
      (pss_one (ps_ret (pe_lc (own := [("k", 5)]) (g := gName 5) (tt := tYes) (te := tTup (tCons (tOp (rIxL K) (tVar 2) (tVar 5)) (tCons (tOp (rIxL K) (tVar 2) (tOp rAddI (tVar 5) (tC (.int 1)))) tNil))) rfl nd
          (pi_range3 (by rfl) B.rng (pa_cons pe_int (pa_cons (pe_callB call_len_seq (by rfl) B.len PySem.boot_len (pa_cons (pv 2) pa_nil)) (pa_cons pe_int pa_nil))))
          (blkOk_by (N := ["plus", "minus", "numbers", "p", "m", "k"]) (sc := defScope s_read_points) (by decide +kernel))
          (fun _ _ _ _ _ => pg_name (i := 5) nd rfl (.inl rfl)) (fun _ _ _ _ _ => pts_nil)
          (fun _ _ _ _ _ => pe_tup (pa_cons (pe_ix ix_list (pv 2) (pv 5) (fun _ _ => rfl)) (pa_cons (pe_ix ix_list (pv 2) (pe_op op_add (pv 5) pe_int) (fun _ _ => rfl)) pa_nil)))))))), ?_⟩
    have lp : ((ps.map V.int).length : Int) = (ps.length : Nat) := by rw [List.length_map]
    have lm : ((ms.map V.int).length : Int) = (ms.length : Nat) := by rw [List.length_map]
    refine ⟨_, rfl, ap, _, rfl, .inl hP, _, rfl, am, _, rfl, .inl hM, rfl, _, rfl, ?_⟩
    have ne_bool : ∀ x y : Int, (!decide (V.int x = V.int y)) = decide (x ≠ y) := fun x y => by
      by_cases z : x = y
      · rw [decide_eq_true (show V.int x = V.int y by rw [z]), decide_eq_false (by simpa using z)]; rfl
      · rw [decide_eq_false (fun k => z (V.int.inj k)), decide_eq_true z]; rfl
    by_cases c1 : ps.length = ms.length
    · refine ifF (by rw [ne_bool]; exact decide_eq_false (by rw [lp, lm, c1]; simp)) ?_
      refine ⟨_, rfl, ap, _, rfl, .inl hP, _, _, rfl, rfl, (by show (0 : Int) < 2; decide), rfl, _, rfl, ?_⟩
      by_cases c2 : ps.length % 2 = 0
      · refine ifF (by rw [ne_bool]; exact decide_eq_false (by rw [lp]; omega)) ?_
        have hok : okRows ps ms := ⟨c1, c2⟩
        -- numbers = [p - m for p, m in zip(plus, minus)]
        refine ⟨_, rfl, _, rfl, ap, am, _, _, rfl, hP, hM, fun d nd1 => ?_⟩
        refine lc_it (walk_zip (K := K) (a := ap) (b := am) (xs := ps.map V.int) (ys := ms.map V.int) (n := ps.length) (by simp only [List.length_map]; omega)) (fun i H' => Same H H' ∧ H' d = some (.lst (((diffs ps ms).take i).map V.int)))
          ⟨same_upd nd1, upd_same⟩ (fun i H' _ ⟨sm, _⟩ => ⟨sm.seq hP, sm.seq hM⟩) ?_ ?_
        · rintro i x H1 H2 hi ⟨sm, hd⟩ ⟨T, u, v, rfl, nT, rfl, hu, hv⟩
          have g1 : (ps.map V.int)[i]? = some (.int ps[i]) := by rw [List.getElem?_map, List.getElem?_eq_getElem hi]; rfl
          have g2 : (ms.map V.int)[i]? = some (.int (ms[i]'(by omega))) := by rw [List.getElem?_map, List.getElem?_eq_getElem (by omega)]; rfl
          have eu : u = .int ps[i] := Option.some.inj (hu.symm.trans g1)
          have ev : v = .int (ms[i]'(by omega)) := Option.some.inj (hv.symm.trans g2)
          subst eu ev
          have ndT : d ≠ T := ne_of_none hd nT
          refine ⟨T, _, rfl, SqT.of upd_same, rfl, _, _, rfl, _, _, rfl, rfl, rfl, ?_⟩
          refine lc_yes ?_
          have gd := diffs_get (List.getElem?_eq_getElem hi) (List.getElem?_eq_getElem (show i < ms.length by omega))
          refine ⟨_, rfl, _, rfl, _, _, rfl, rfl, _, (by rw [upd_ne ndT]; exact hd), ?_, same_upd' (sm.trans (same_upd nT)) nd1, ?_⟩
          · rw [List.length_map, List.length_take]
            have := diffs_len ps ms
            exact small1000 (by omega)
          · rw [upd_same, take_snoc gd, List.map_append]
            rfl
        rintro H1 ⟨s1, hd⟩
        have ld : (diffs ps ms).length = ps.length := by rw [diffs_len]; omega
        rw [← ld, List.take_length] at hd
        -- the pairs
        obtain ⟨n, en⟩ : ∃ n, ps.length = 2 * n := ⟨ps.length / 2, by omega⟩
        refine ⟨_, rfl, d, _, rfl, .inl (SqL.of hd), 0, _, 2, n, rfl, ?_, fun o no => ?_⟩
        · rw [List.length_map, ld, en]
          exact rgC_two (by omega)
        refine lc_it walk_rangeC (fun i H' => ∃ js : List AP, Same H1 H' ∧ H' o = some (.lst (refs js)) ∧ TPs K H' js ∧ pts js = (pairUp (diffs ps ms)).take i)
          ⟨[], same_upd no, upd_same, (fun k hk => nomatch hk), rfl⟩ (fun i H' _ _ => trivial) ?_ ?_
        · rintro i x H2 H3 hi ⟨js, sm, ho, hjs, ejs⟩ ⟨rfl, rfl⟩
          have h1 : 2 * i < (diffs ps ms).length := by omega
          have h2 : 2 * i + 1 < (diffs ps ms).length := by omega
          have g1 : ((diffs ps ms).map V.int)[2 * i]? = some (.int (diffs ps ms)[2 * i]) := by rw [List.getElem?_map, List.getElem?_eq_getElem h1]; rfl
          have g2 : ((diffs ps ms).map V.int)[2 * i + 1]? = some (.int (diffs ps ms)[2 * i + 1]) := by rw [List.getElem?_map, List.getElem?_eq_getElem h2]; rfl
          have gp := pairUp_get _ i _ _ (List.getElem?_eq_getElem h1) (List.getElem?_eq_getElem h2)
          have hd' := sm _ _ hd
          refine ⟨rfl, ?_⟩
          refine lc_yes ?_
          refine ⟨_, rfl, _, rfl, d, _, _, _, rfl, rfl, SqL.of hd', (by rw [show (0 : Int) + (i : Nat) * 2 = ((2 * i : Nat) : Int) by omega]; exact atI_nat g1), _, rfl, _, rfl, _, _, rfl, rfl, d, _, _, _, rfl, rfl, SqL.of hd',
            (by rw [show (0 : Int) + (i : Nat) * 2 + 1 = ((2 * i + 1 : Nat) : Int) by omega]; exact atI_nat g2), (by show 2 ≤ sizeLine; decide), fun T nT => ?_⟩
          have noT : o ≠ T := ne_of_none ho nT
          refine ⟨_, (by rw [upd_ne noT]; exact ho), ?_, js ++ [(T, ((diffs ps ms)[2 * i], (diffs ps ms)[2 * i + 1]))], same_upd' (sm.trans (same_upd nT)) no, ?_, ?_, ?_⟩
          · have : (pts js).length ≤ n := by rw [ejs, List.length_take]; omega
            rw [refs_len]
            rw [pts_len] at this
            exact small1000 (by omega)
          · rw [upd_same, refs_append]
            rfl
          · intro k hk
            have hoT : (upd H3 T (.tup [V.int (diffs ps ms)[2 * i], V.int (diffs ps ms)[2 * i + 1]])) o = some (.lst (refs js)) := by rw [upd_ne noT]; exact ho
            rcases List.mem_append.1 hk with h | h
            · exact sqT_upd hoT (same_sqT (same_upd nT) (hjs k h))
            · rw [List.mem_singleton.1 h]
              refine SqT.of ?_
              rw [upd_ne (Ne.symm noT), upd_same]
              rfl
          · rw [pts_append, ejs, take_snoc gp]
            rfl
        · rintro H2 ⟨js, sm, ho, hjs, ejs⟩
          have : n = (pairUp (diffs ps ms)).length := by rw [pairUp_len]; omega
          rw [this, List.take_length] at ejs
          exact good hok H2 o js (s1.trans sm) (s1.free no) ho hjs ejs
      · refine ifT (by rw [ne_bool]; exact decide_eq_true (by rw [lp]; omega)) ?_
        exact bad fun z => c2 z.2
    · refine ifT (by rw [ne_bool]; exact decide_eq_true (by rw [lp, lm]; omega)) ?_
      dsimp only
      rw [if_pos rfl]
      exact bad fun z => c1 z.1
end
end Pg

set_option Elab.async false
set_option linter.all false
set_option maxRecDepth 100000
set_option maxHeartbeats 2000000
namespace Pg
open PySem PySem.Spec PyProof.Rows L2 OwR
open Hl (ori rg)
theorem ne_bool (x y : Int) : (!decide (V.int x = V.int y)) = decide (x ≠ y) := by
  by_cases z : x = y
  · rw [decide_eq_true (show V.int x = V.int y by rw [z]), decide_eq_false (by simpa using z)]; rfl
  · rw [decide_eq_false (fun k => z (V.int.inj k)), decide_eq_true z]; rfl
section
variable {P : Program} {w : World} {K : PySem.W.Frag} {mg : Str → Option Value} {base : Heap}
/-! ### read_one_point(plus, minus) -/
def spOne (K : PySem.W.Frag) (C : Addr) : Sp := fun vs H Q E => ∃ (ap am : Addr) (ps ms : List Int), vs = [.ref ap, .ref am] ∧ RowsAt K H ap am ps ms ∧
  (¬ (okRows ps ms ∧ (pairUp (diffs ps ms)).length = 1) → ∀ H', Same H H' → E (.ref C) none H') ∧
  (∀ p, okRows ps ms → pairUp (diffs ps ms) = [p] → ∀ (H' : Hp) (t : Addr), Same H H' → SqT K H' t (tupV p) → Q (.ref t) H')
abbrev D_one (K : PySem.W.Frag) (mg : Str → Option Value) := DefF K mg "read_one_point" s_read_one_point ["plus", "minus"]
theorem ok_one (D : D_one K mg) (DR : D_rpt K mg) (X : ExF K mg "NotPoints") (B : Blt mg) : FnOk P w K mg base (L2.CX P w) 2 D.f D.fd ["plus", "minus"] (spOne K X.C) := by
  have GR : FnOk P w K mg base (L2.CX P w) 1 DR.f DR.fd ["plus", "minus"] (spRead K X.C) := ok_rpt DR X B
  refine D.F.okX sc_read_one_point (fun vs H Q E h => ?_) (fun cdv A outer s H vs Q E hr h => ?_)
  · obtain ⟨ap, am, ps, ms, rfl, _⟩ := h
    rfl
  · obtain ⟨ap, am, ps, ms, rfl, hR, bad, good⟩ := h
    have nd := sc_read_one_point.nd
    refine ⟨_, pss_cons (ps_set (i := 2) nd rfl (.inl rfl) (pe_call GR hr (by rfl) DR.g DR.F.kp DR.b .nil (passes_call (takes_of rfl rfl rfl rfl) (fun _ _ _ _ h => h)) (pa_cons (pv 0) (pa_cons (pv 1) pa_nil))))
      (pss_cons (ps_if (pt_cmpR op_ne (pe_callB call_len_seq (by rfl) B.len PySem.boot_len (pa_cons (pv 2) pa_nil)) pe_int (nomark _))
        (pss_one (ps_raise rfl (takes_of rfl rfl rfl rfl) (pmk_own0 PySem.F.excBase_Exception X.x X.g X.k (raises_own X.b X.t) rfl))) pss_nil)
      (pss_one (ps_ret (pe_ix ix_list (pv 2) pe_int (fun _ _ => rfl))))), ?_⟩
    refine ⟨_, rfl, _, rfl, ap, am, ps, ms, rfl, hR, (fun hb => bad (fun z => hb z.1) H (Same.refl H)), fun hok H1 p js s1 np hp hjs ejs => ?_⟩
    have hl : ((refs js).length : Int) = ((pairUp (diffs ps ms)).length : Nat) := by rw [refs_len, ← ejs, pts_len]
    refine ⟨_, rfl, p, _, rfl, .inl (SqL.of hp), rfl, _, rfl, ?_⟩
    by_cases c : (pairUp (diffs ps ms)).length = 1
    · refine ifF (by rw [ne_bool]; exact decide_eq_false (by rw [hl, c]; simp)) ?_
      obtain ⟨q, hq⟩ := List.length_eq_one_iff.1 c
      match js, ejs with
      | [k], ejs =>
        have ek : k.2 = q := by
          rw [hq] at ejs
          exact (List.cons.inj ejs).1
        refine ⟨_, rfl, p, _, _, .ref k.1, rfl, rfl, SqL.of hp, atI_nat (j := 0) rfl, good q hok hq H1 k.1 s1 ?_⟩
        rw [← ek]
        exact hjs k (by simp)
      | [], ejs => rw [hq] at ejs; cases ejs
      | _ :: _ :: _, ejs => rw [hq] at ejs; cases ejs
    · refine ifT (by rw [ne_bool]; exact decide_eq_true (by rw [hl]; omega)) ?_
      exact bad (fun z => c z.2) H1 s1
/-! ### read_corners(plus, minus) -/
def inB (pl : List Pt) : Prop := 3 ≤ pl.length ∧ pl.length ≤ 12 ∧ ∀ p ∈ pl, Hl.Small p
structure CstB (mg : Str → Option Value) : Prop where
  few : IntG mg "FEWEST_POINTS" 3
  most : IntG mg "MOST_POINTS" 12
  great : IntG mg "GREATEST_NUMBER" 20
def spRC (K : PySem.W.Frag) (CN CB CL : Addr) : Sp := fun vs H Q E => ∃ (ap am : Addr) (ps ms : List Int), vs = [.ref ap, .ref am] ∧ RowsAt K H ap am ps ms ∧
  (¬ okRows ps ms → ∀ H', Same H H' → E (.ref CN) none H') ∧
  (okRows ps ms → ¬ inB (pairUp (diffs ps ms)) → ∀ H', Same H H' → E (.ref CB) none H') ∧
  (okRows ps ms → inB (pairUp (diffs ps ms)) → (Hl.hull (Sq68.inOrder (pairUp (diffs ps ms)))).length < 3 → ∀ H', Same H H' → E (.ref CL) none H') ∧
  (okRows ps ms → inB (pairUp (diffs ps ms)) → 3 ≤ (Hl.hull (Sq68.inOrder (pairUp (diffs ps ms)))).length → ∀ (H' : Hp) (p : Addr) (js : List AP), Same H H' → H p = none → H' p = some (.lst (refs js)) → TPs K H' js → pts js = Hl.hull (Sq68.inOrder (pairUp (diffs ps ms))) → Q (.ref p) H')
abbrev D_rco (K : PySem.W.Frag) (mg : Str → Option Value) := DefF K mg "read_corners" s_read_corners ["plus", "minus"]
def bigB (p : Pt) : Bool := decide (20 < (if (if p.2 < 0 then -p.2 else p.2) > (if p.1 < 0 then -p.1 else p.1) then (if p.2 < 0 then -p.2 else p.2) else (if p.1 < 0 then -p.1 else p.1)))
theorem bigB_iff (p : Pt) : bigB p = true ↔ ¬ Hl.Small p := by
  unfold bigB Hl.Small
  rw [decide_eq_true_eq]
  split <;> split <;> split <;> omega
theorem ok_rco (D : D_rco K mg) (DR : D_rpt K mg) (DC : D_cor K mg) (DW : D_way K mg) (DT : D_turn K mg) (XN : ExF K mg "NotPoints") (XB : ExF K mg "BeyondBounds") (XL : ExF K mg "InOneLine") (C : CstB mg) (B : Blt mg) :
    FnOk P w K mg base (L2.CX P w) 4 D.f D.fd ["plus", "minus"] (spRC K XN.C XB.C XL.C) := by
  have GR : FnOk P w K mg base (L2.CX P w) 1 DR.f DR.fd ["plus", "minus"] (spRead K XN.C) := ok_rpt DR XN B
  have GC : FnOk P w K mg base CX0 3 DC.f DC.fd ["points"] (spCorners K) := ok_cor DC DW DT B
  obtain ⟨⟨t0, g0⟩, ⟨t1, g1⟩, ⟨t2, g2⟩⟩ := C
  refine D.F.okX sc_read_corners (fun vs H Q E h => ?_) (fun cdv A outer s H vs Q E hr h => ?_)
  · obtain ⟨ap, am, ps, ms, rfl, _⟩ := h
    rfl
  · obtain ⟨ap, am, ps, ms, rfl, hR, badN, badB, badL, good⟩ := h
    have nd := sc_read_corners.nd
    have hr1 : Room 1 _ := hr.mono (by decide)
    refine ⟨_, pss_cons (ps_set (i := 2) nd rfl (.inl rfl) (pe_call GR hr1 (by rfl) DR.g DR.F.kp DR.b .nil (passes_call (takes_of rfl rfl rfl rfl) (fun _ _ _ _ h => h)) (pa_cons (pv 0) (pa_cons (pv 1) pa_nil))))
      (pss_cons (ps_if (PW.pt (pw_or (pt_cmpR op_lt (pe_callB call_len_seq (by rfl) B.len PySem.boot_len (pa_cons (pv 2) pa_nil)) (pe_glob rfl g0 (v := .int 3) ⟨_, rfl⟩) (nomark _))
          (pw_or1 (pt_cmpR op_gt (pe_callB call_len_seq (by rfl) B.len PySem.boot_len (pa_cons (pv 2) pa_nil)) (pe_glob rfl g1 (v := .int 12) ⟨_, rfl⟩) (nomark _)))))
        (pss_one (ps_raise rfl (takes_of rfl rfl rfl rfl) (pmk_own0 PySem.F.excBase_Exception XB.x XB.g XB.k (raises_own XB.b XB.t) rfl))) pss_nil)
      (pss_cons (ps_if (pt_val (pe_callB (cr_any rfl) (by rfl) B.any (by decide +kernel) (pa_cons (pe_lc (own := [("x", 4), ("y", 5)]) (g := gPair K 4 5) (tt := tYes) rfl nd (pi_list (pv 2))
          (blkOk_by (N := ["plus", "minus", "points", "corners", "x", "y"]) (sc := defScope s_read_corners) (by decide +kernel))
          (fun _ _ _ _ _ => pg_tup rfl (pgs_cons (pg_name (i := 4) nd rfl (.inl rfl)) (pgs_cons (pg_name (i := 5) nd rfl (.inl rfl)) pgs_nil))) (fun _ _ _ _ _ => pts_nil)
          (fun _ _ _ _ _ => pe_cmpR op_gt (pe_callB (call_max2 rfl) (by rfl) B.max (by decide +kernel) (pa_cons (pe_callB call_abs (by rfl) B.abs (by decide +kernel) (pa_cons (pv 4) pa_nil)) (pa_cons (pe_callB call_abs (by rfl) B.abs (by decide +kernel) (pa_cons (pv 5) pa_nil)) pa_nil))) (pe_glob rfl g2 (v := .int 20) ⟨_, rfl⟩) (nomark _))) pa_nil)))
        (pss_one (ps_raise rfl (takes_of rfl rfl rfl rfl) (pmk_own0 PySem.F.excBase_Exception XB.x XB.g XB.k (raises_own XB.b XB.t) rfl))) pss_nil)
      (pss_cons (ps_set (i := 3) nd rfl (.inl rfl) (pe_call GC hr (by rfl) DC.g DC.F.kp DC.b .nil pass0 (pa_cons (pv 2) pa_nil)))
      (pss_cons (ps_if (pt_cmpR op_lt (pe_callB call_len_seq (by rfl) B.len PySem.boot_len (pa_cons (pv 3) pa_nil)) pe_int (nomark _))
        (pss_one (ps_raise rfl (takes_of rfl rfl rfl rfl) (pmk_own0 PySem.F.excBase_Exception XL.x XL.g XL.k (raises_own XL.b XL.t) rfl))) pss_nil)
      (pss_one (ps_ret (pv 3))))))), ?_⟩
    refine ⟨_, rfl, _, rfl, ap, am, ps, ms, rfl, hR, (fun hb => badN hb H (Same.refl H)), fun hok H1 p js s1 np hp hjs ejs => ?_⟩
    have badB := badB hok
    have badL := badL hok
    have good := good hok
    generalize pairUp (diffs ps ms) = pl at *
    have hl : ((refs js).length : Int) = (pl.length : Nat) := by rw [refs_len, ← ejs, pts_len]
    have ljs : js.length = pl.length := by rw [← ejs, pts_len]
    refine ⟨_, rfl, p, _, rfl, .inl (SqL.of hp), _, _, rfl, rfl, _, rfl, ?_⟩
    by_cases c1 : pl.length < 3
    · refine ifT (decide_eq_true (by rw [hl]; omega)) ?_
      dsimp only
      rw [if_pos rfl]
      exact badB (fun z => by have := z.1; omega) H1 s1
    refine ifF (decide_eq_false (by rw [hl]; omega)) ?_
    refine ⟨_, rfl, p, _, rfl, .inl (SqL.of hp), _, _, rfl, rfl, _, rfl, ?_⟩
    by_cases c2 : 12 < pl.length
    · refine ifT (decide_eq_true (by rw [hl]; omega)) ?_
      exact badB (fun z => by have := z.2.1; omega) H1 s1
    refine ifF (decide_eq_false (by rw [hl]; omega)) ?_
    -- any(..)
    refine ⟨_, rfl, p, rfl, ⟨_, SqL.of hp⟩, fun d nd1 => ?_⟩
    refine lc_list (K := K) (a := p) (xs := refs js) (fun i H' => Same H1 H' ∧ H' d = some (.lst ((js.take i).map fun k => V.bl (bigB k.2))))
      ⟨same_upd nd1, upd_same⟩ (fun i H' _ ⟨sm, _⟩ => SqL.of (sm _ _ hp)) ?_ ?_
    · rintro i y H' hi ⟨sm, hd⟩
      obtain ⟨k, hk, rfl⟩ := refs_get hi
      have mk : k ∈ js := List.mem_of_getElem? hk
      refine ⟨k.1, _, rfl, same_sqT sm (hjs k mk), rfl, _, _, rfl, _, _, rfl, rfl, rfl, ?_⟩
      refine lc_yes ?_
      refine ⟨_, rfl, _, rfl, _, rfl, _, rfl, _, _, rfl, _, _, rfl, rfl, _, hd, ?_, same_upd' sm nd1, ?_⟩
      · rw [List.length_map, List.length_take]
        exact small1000 (by omega)
      · rw [upd_same, take_snoc hk, List.map_append]
        rfl
    rintro H2 ⟨s2, hd⟩
    rw [refs_len, List.take_length] at hd
    have hd' : H2 d = some (.lst ((js.map fun k => bigB k.2).map V.bl)) := by rw [hd, List.map_map]; rfl
    refine ⟨d, _, rfl, SqL.of hd', _, rfl, ?_⟩
    have eany : (js.map fun k => bigB k.2).any id = true ↔ ∃ q ∈ pl, ¬ Hl.Small q := by
      rw [List.any_eq_true]
      constructor
      · rintro ⟨b, hb, rfl⟩
        obtain ⟨k, hk, e⟩ := List.mem_map.1 hb
        exact ⟨k.2, by rw [← ejs]; exact List.mem_map.2 ⟨k, hk, rfl⟩, (bigB_iff _).1 e⟩
      · rintro ⟨q, hq, hs⟩
        rw [← ejs] at hq
        obtain ⟨k, hk, rfl⟩ := List.mem_map.1 hq
        exact ⟨true, List.mem_map.2 ⟨k, hk, (bigB_iff _).2 hs⟩, rfl⟩
    by_cases c3 : ∃ q ∈ pl, ¬ Hl.Small q
    · refine ifT (eany.2 c3) ?_
      exact badB (fun z => by obtain ⟨q, hq, hs⟩ := c3; exact hs (z.2.2 q hq)) H2 (s1.trans s2)
    refine ifF (by cases hb : (js.map fun k => bigB k.2).any id with | true => exact absurd (eany.1 hb) c3 | false => rfl) ?_
    have hsm : ∀ q ∈ pl, Hl.Small q := fun q hq => Classical.byContradiction fun z => c3 ⟨q, hq, z⟩
    have hin : inB pl := ⟨by omega, by omega, hsm⟩
    -- corners
    refine ⟨_, rfl, p, js, rfl, SqL.of (s2 _ _ hp), hjs.same s2, (fun k hk => hsm _ (by rw [← ejs]; exact List.mem_map.2 ⟨k, hk, rfl⟩)), by omega, fun H3 c ks s3 nc hc eks sub _ => ?_⟩
    rw [ejs] at eks
    have hlk : ((refs ks).length : Int) = ((Hl.hull (Sq68.inOrder pl)).length : Nat) := by rw [refs_len, ← eks, pts_len]
    have sA : Same H H3 := (s1.trans s2).trans s3
    refine ⟨_, rfl, c, _, rfl, .inl (SqL.of hc), _, _, rfl, rfl, _, rfl, ?_⟩
    by_cases c4 : (Hl.hull (Sq68.inOrder pl)).length < 3
    · refine ifT (decide_eq_true (by rw [hlk]; omega)) ?_
      exact badL hin c4 H3 sA
    · refine ifF (decide_eq_false (by rw [hlk]; omega)) ?_
      exact ⟨_, rfl, good hin (by omega) H3 c ks sA ((s1.trans s2).free nc) hc ((hjs.same (s2.trans s3)).sub sub) eks⟩
end
end Pg

set_option Elab.async false
set_option linter.all false
set_option maxRecDepth 100000
set_option maxHeartbeats 2000000
namespace Pg
open PySem PySem.Spec PyProof.Rows L2 OwR
open Hl (ori rg)
/-! ### told_with_count(points) -/
def flatI (ps : List Pt) : List Int := ps.flatMap fun p => [p.1, p.2]
def toldI (ps : List Pt) : List Int := (ps.length : Int) :: flatI ps
def intsV (l : List Int) : List V := l.map V.int
theorem flat_len (ps : List Pt) : (flatI ps).length = 2 * ps.length := by
  induction ps with
  | nil => rfl
  | cons p l ih =>
    unfold flatI at *
    rw [List.flatMap_cons, List.length_append, ih]
    simp only [List.length_cons, List.length_nil]
    omega
section
variable {P : Program} {w : World} {K : PySem.W.Frag} {mg : Str → Option Value} {base : Heap}
def spNums (K : PySem.W.Frag) : Sp := fun vs H Q _ => ∃ (a : Addr) (js : List AP), vs = [.ref a] ∧ SqL K H a (refs js) ∧ TPs K H js ∧ js.length ≤ 4000000 ∧ ∀ (H' : Hp) (p : Addr), Same H H' → H p = none → H' p = some (.lst (intsV (flatI (pts js)))) → Q (.ref p) H'
abbrev D_nof (K : PySem.W.Frag) (mg : Str → Option Value) := DefF K mg "numbers_of" s_numbers_of ["points"]
theorem ok_nof (D : D_nof K mg) : FnOk P w K mg base CX0 1 D.f D.fd ["points"] (spNums K) := by
  refine D.F.ok sc_numbers_of (fun vs H Q E h => ?_) (fun cdv A outer s H vs Q E hr h => ?_)
  · obtain ⟨a, js, rfl, _⟩ := h
    rfl
  · obtain ⟨a, js, rfl, hS, hT, hlen, q⟩ := h
    have nd := sc_numbers_of.nd
    refine ⟨_, pss_cons (ps_set (i := 1) nd rfl (.inl rfl) (pe_lst pa_nil))
      (pss_cons (ps_for PassesOwn.never rfl (pi_list (pv 0)) (pg_name (i := 2) nd rfl (.inl rfl)) (pss_one (ps_expr (pe_bm PySem.F.plainAttrs_list PySem.F.slot_list_extend PySem.F.type_list_extend mt_extT (pv 1) (pa_cons (pv 2) pa_nil)))))
      (pss_one (ps_ret (pv 1)))), ?_⟩
    refine ⟨Nat.zero_le _, fun o no => ?_⟩
    have s1 : Same H (upd H o (.lst [])) := same_upd no
    refine ⟨_, rfl, a, rfl, ⟨_, s1.seq hS⟩, for_list (K := K) (a := a) (xs := refs js) (fun i σ H' => ∃ v, σ = [some (.ref a), some (.ref o), v] ∧ Same H H' ∧ H' o = some (.lst (intsV (flatI ((pts js).take i)))))
      ⟨none, rfl, s1, upd_same⟩ (fun i σ H' _ ⟨_, _, sm, _⟩ => sm.seq hS) ?_ ?_⟩
    · rintro i y σ H' hi ⟨v, rfl, sm, ho⟩
      obtain ⟨k, hk, rfl⟩ := refs_get hi
      have gp : (pts js)[i]? = some k.2 := by unfold pts; rw [List.getElem?_map, hk]; rfl
      refine ⟨_, rfl, .inl ⟨rfl, _, SqL.of ho⟩, _, rfl, o, k.1, _, _, rfl, rfl, ho, same_sqT sm (hT k (List.mem_of_getElem? hk)), ?_, _, rfl, same_upd' sm no, ?_⟩
      · have : (flatI ((pts js).take i)).length = 2 * ((pts js).take i).length := flat_len _
        have h2 : ((pts js).take i).length ≤ 4000000 := by rw [List.length_take, pts_len]; omega
        unfold intsV tupV
        simp only [List.length_map, List.length_cons, List.length_nil]
        exact Nat.le_trans (show _ ≤ 9000000 by omega) (by decide)
      · rw [upd_same, take_snoc gp]
        unfold intsV flatI tupV
        rw [List.flatMap_append]
        simp
    · rintro σ H' ⟨v, rfl, sm, ho⟩
      rw [show (refs js).length = (pts js).length by rw [refs_len, pts_len], List.take_length] at ho
      exact ⟨_, rfl, q H' o sm no ho⟩
def spTold (K : PySem.W.Frag) : Sp := fun vs H Q _ => ∃ (a : Addr) (js : List AP), vs = [.ref a] ∧ SqL K H a (refs js) ∧ TPs K H js ∧ js.length ≤ 4000000 ∧ ∀ (H' : Hp) (p : Addr), Same H H' → H p = none → H' p = some (.lst (intsV (toldI (pts js)))) → Q (.ref p) H'
abbrev D_tol (K : PySem.W.Frag) (mg : Str → Option Value) := DefF K mg "told_with_count" s_told_with_count ["points"]
theorem ok_tol (D : D_tol K mg) (DN : D_nof K mg) (B : Blt mg) : FnOk P w K mg base CX0 2 D.f D.fd ["points"] (spTold K) := by
  have GN : FnOk P w K mg base CX0 1 DN.f DN.fd ["points"] (spNums K) := ok_nof DN
  refine D.F.ok sc_told_with_count (fun vs H Q E h => ?_) (fun cdv A outer s H vs Q E hr h => ?_)
  · obtain ⟨a, js, rfl, _⟩ := h
    rfl
  · obtain ⟨a, js, rfl, hS, hT, hlen, q⟩ := h
    have nd := sc_told_with_count.nd
    refine ⟨_, pss_one (ps_ret (pe_op op_cat (pe_lst (pa_cons (pe_callB call_len_seq (by rfl) B.len PySem.boot_len (pa_cons (pv 0) pa_nil)) pa_nil)) (pe_call GN hr (by rfl) DN.g DN.F.kp DN.b .nil pass0 (pa_cons (pv 0) pa_nil)))), ?_⟩
    refine ⟨_, rfl, a, _, rfl, .inl hS, (by show 1 ≤ sizeLine; decide), fun o no => ?_⟩
    have s1 : Same H (upd H o (.lst [V.int ((refs js).length : Nat)])) := same_upd no
    refine ⟨_, rfl, a, js, rfl, s1.seq hS, hT.same s1, hlen, fun H2 p s2 np hp => ?_⟩
    refine ⟨o, p, [V.int ((refs js).length : Nat)], intsV (flatI (pts js)), rfl, rfl, s2 _ _ upd_same, hp, ?_, fun r nr => ?_⟩
    · have : (flatI (pts js)).length = 2 * (pts js).length := flat_len _
      rw [pts_len] at this
      unfold intsV
      rw [List.length_map, List.length_singleton, this]
      exact Nat.le_trans (show _ ≤ 9000000 by omega) (by decide)
    · refine q _ r ((s1.trans s2).trans (same_upd nr)) ((s1.trans s2).free nr) ?_
      rw [upd_same]
      unfold toldI
      rw [refs_len, pts_len]
      rfl
/-! ### what stands though instances change -/
def plainO : HO → Prop
  | .ins _ _ _ => False
  | _ => True
/-- all that is no instance stands as it was -/
def Kn (H H' : Hp) : Prop := ∀ b o, plainO o → H b = some o → H' b = some o
theorem Kn.refl (H : Hp) : Kn H H := fun _ _ _ h => h
theorem Kn.trans {H H1 H2 : Hp} (a : Kn H H1) (b : Kn H1 H2) : Kn H H2 := fun c o p h => b c o p (a c o p h)
theorem Kn.of_same {H H' : Hp} (s : Same H H') : Kn H H' := fun b o _ h => s b o h
theorem Kn.sqL {H H' : Hp} (k : Kn H H') {a : Addr} {xs : List V} (h : SqL K H a xs) : SqL K H' a xs := by
  rcases h with (h | ⟨o, h⟩) | ⟨h1, h2⟩
  · exact .inl (.inl (k _ _ trivial h))
  · exact .inl (.inr ⟨o, k _ _ trivial h⟩)
  · exact .inr ⟨h1, h2⟩
theorem Kn.sqT {H H' : Hp} (k : Kn H H') {a : Addr} {xs : List V} (h : SqT K H a xs) : SqT K H' a xs := by
  rcases h with (h | ⟨o, h⟩) | ⟨h1, h2⟩
  · exact .inl (.inl (k _ _ trivial h))
  · exact .inl (.inr ⟨o, k _ _ trivial h⟩)
  · exact .inr ⟨h1, h2⟩
theorem Kn.poly {H H' : Hp} (k : Kn H H') {a : Addr} {ks : List AP} (h : PolyAt K H a ks) : PolyAt K H' a ks := ⟨k.sqL h.1, fun x hx => k.sqT (h.2.1 x hx), h.2.2⟩
/-- all but r stands as it was -/
def SB (r : Addr) (H H' : Hp) : Prop := ∀ b o, b ≠ r → H b = some o → H' b = some o
theorem SB.kn {r : Addr} {H H' : Hp} (s : SB r H H') {C dx : Addr} {fs : List (Str × V)} (h : H r = some (.ins C dx fs)) : Kn H H' := fun b o p e => s b o (fun z => by
  rw [z, h] at e
  cases e
  exact p) e
theorem SB.upd {r : Addr} {H : Hp} {o : HO} : SB r H (upd H r o) := fun b u hb e => by rw [upd_ne hb]; exact e
theorem SB.trans {r : Addr} {H H1 H2 : Hp} (a : SB r H H1) (b : SB r H1 H2) : SB r H H2 := fun c o hc h => b c o hc (a c o hc h)
theorem SB.of_same {r : Addr} {H H' : Hp} (s : Same H H') : SB r H H' := fun b o _ h => s b o h
/-! ### the reader -/
theorem nm_pl : ¬ (("numbers" : Str) = "place") := by decide +kernel
theorem pl_nm : ¬ (("place" : Str) = "numbers") := by decide +kernel
/-- a reader's values -/
def rf (a : Addr) (n : Nat) : List (Str × V) := [("numbers", .ref a), ("place", .int (n : Nat))]
theorem rf_num (a : Addr) (n : Nat) : (rf a n).lookup ("numbers" : Str) = some (.ref a) := by
  unfold rf
  rw [List.lookup_cons, show (("numbers" : Str) == "numbers") = true by simp]
theorem rf_pl (a : Addr) (n : Nat) : (rf a n).lookup ("place" : Str) = some (.int (n : Nat)) := by
  unfold rf
  rw [List.lookup_cons, show (("place" : Str) == "numbers") = false by simpa using pl_nm, List.lookup_cons, show (("place" : Str) == "place") = true by simp]
theorem rf_put (a : Addr) (n m : Nat) : putF "place" (.int (m : Nat)) (rf a n) = rf a m := by
  show (if ("numbers" : Str) = "place" then _ else (("numbers" : Str), V.ref a) :: (if ("place" : Str) = "place" then [(("place" : Str), V.int (m : Nat))] else _)) = rf a m
  rw [if_neg nm_pl, if_pos rfl]
  rfl
theorem rf_no (a : Addr) (n : Nat) {m : Str} (h1 : ¬ m = "numbers") (h2 : ¬ m = "place") : (rf a n).lookup m = none := by
  unfold rf
  rw [List.lookup_cons, show (m == "numbers") = false by simpa using h1, List.lookup_cons, show (m == "place") = false by simpa using h2]
  rfl
/-- a class of the program's own -/
structure ClsF (K : PySem.W.Frag) (mg : Str → Option Value) (x : Str) where
  C : Addr
  g : mg x = some (.ref C)
  c : Cls K C
/-- a method of it -/
structure MthF (K : PySem.W.Frag) (C : Addr) (x qual : Str) (st : Stmt) (ps : List Str) where
  f : Addr
  fd : FuncData
  F : Fun K x qual st f fd
  b : Binds K fd ps []
  m : Meth K C x f
structure Rdr (K : PySem.W.Frag) (mg : Str → Option Value) extends ClsF K mg "Reader" where
  nN : NoAttr K C "numbers"
  nP : NoAttr K C "place"
  fI : Addr
  dI : FuncData
  FI : Fun K "__init__" "Reader.__init__" s_Reader_init fI dI
  bI : Binds K dI ["self", "numbers"] []
  mkI : Mk K C fI
  mE : MthF K C "at_end" "Reader.at_end" s_Reader_at_end ["self"]
  mN : MthF K C "take_number" "Reader.take_number" s_Reader_take_number ["self"]
  mR : MthF K C "take_row" "Reader.take_row" s_Reader_take_row ["self"]
def spRInit (CR : Addr) : Sp := fun vs H Q _ => ∃ (r a dx : Addr), vs = [.ref r, .ref a] ∧ H r = some (.ins CR dx []) ∧ Q .non (upd H r (.ins CR dx (rf a 0)))
theorem rf_make (a : Addr) : putF "place" (.int 0) (putF "numbers" (.ref a) []) = rf a 0 := by
  show (if ("numbers" : Str) = "place" then _ else (("numbers" : Str), V.ref a) :: [(("place" : Str), V.int 0)]) = rf a 0
  rw [if_neg nm_pl]
  rfl
theorem upd_twice {H : Hp} {p : Addr} {o u : HO} : upd (upd H p o) p u = upd H p u := by
  funext b
  by_cases z : b = p
  · rw [z, upd_same, upd_same]
  · rw [upd_ne z, upd_ne z, upd_ne z]
theorem ok_rinit (R : Rdr K mg) : FnOk P w K mg base CX0 1 R.fI R.dI ["self", "numbers"] (spRInit R.C) := by
  refine R.FI.ok sc_Reader_init (fun vs H Q E h => ?_) (fun cdv A outer s H vs Q E hr h => ?_)
  · obtain ⟨r, a, dx, rfl, _⟩ := h
    rfl
  · obtain ⟨r, a, dx, rfl, hr', q⟩ := h
    refine ⟨_, pss_cons (ps_fld (pv 0) (pv 1) rfl) (pss_one (ps_fld (pv 0) pe_int rfl)), ?_⟩
    refine ⟨_, rfl, _, rfl, r, R.C, dx, [], rfl, hr', R.c, R.nN, (by show 0 < 1000; decide), _, rfl, r, R.C, dx, _, rfl, upd_same, R.c, R.nP, (by show 1 < 1000; decide), ?_⟩
    show Q .non _
    rw [upd_twice, rf_make]
    exact q
/-- at_end -/
def spEnd (K : PySem.W.Frag) (CR : Addr) : Sp := fun vs H Q _ => ∃ (r a dx : Addr) (ns : List Int) (n : Nat), vs = [.ref r] ∧ H r = some (.ins CR dx (rf a n)) ∧ SqL K H a (ns.map V.int) ∧ Q (.bl (decide (ns.length ≤ n))) H
theorem ok_rend (R : Rdr K mg) (B : Blt mg) : FnOk P w K mg base CX0 1 R.mE.f R.mE.fd ["self"] (spEnd K R.C) := by
  refine R.mE.F.ok sc_Reader_at_end (fun vs H Q E h => ?_) (fun cdv A outer s H vs Q E hr h => ?_)
  · obtain ⟨r, a, dx, ns, n, rfl, _⟩ := h
    rfl
  · obtain ⟨r, a, dx, ns, n, rfl, hr', hS, q⟩ := h
    refine ⟨_, pss_one (ps_ret (pe_cmpR op_ge (pe_fld (pv 0) rfl) (pe_callB call_len_seq (by rfl) B.len PySem.boot_len (pa_cons (pe_fld (pv 0) rfl) pa_nil)) (nomark _))), ?_⟩
    refine ⟨_, rfl, r, R.C, dx, _, _, rfl, hr', R.c, R.nP, rf_pl _ _, _, rfl, r, R.C, dx, _, _, rfl, hr', R.c, R.nN, rf_num _ _, a, _, rfl, .inl hS, _, _, rfl, rfl, ?_⟩
    have e : decide ((((ns.map V.int).length : Nat) : Int) ≤ ((n : Nat) : Int)) = decide (ns.length ≤ n) := by
      rw [List.length_map]
      exact decide_eq_decide.2 (by omega)
    show Q (V.bl (decide ((((ns.map V.int).length : Nat) : Int) ≤ ((n : Nat) : Int)))) H
    rw [e]
    exact q
/-- take_number -/
def spNum (K : PySem.W.Frag) (CR : Addr) : Sp := fun vs H Q _ => ∃ (r a dx : Addr) (ns : List Int) (n : Nat) (z : Int), vs = [.ref r] ∧ H r = some (.ins CR dx (rf a n)) ∧ SqL K H a (ns.map V.int) ∧ ns[n]? = some z ∧ Q (.int z) (upd H r (.ins CR dx (rf a (n + 1))))
theorem ok_rnum (R : Rdr K mg) : FnOk P w K mg base CX0 1 R.mN.f R.mN.fd ["self"] (spNum K R.C) := by
  refine R.mN.F.ok sc_Reader_take_number (fun vs H Q E h => ?_) (fun cdv A outer s H vs Q E hr h => ?_)
  · obtain ⟨r, a, dx, ns, n, z, rfl, _⟩ := h
    rfl
  · obtain ⟨r, a, dx, ns, n, z, rfl, hr', hS, hz, q⟩ := h
    have nd := sc_Reader_take_number.nd
    refine ⟨_, pss_cons (ps_set (i := 1) nd rfl (.inl rfl) (pe_ix ix_list (pe_fld (pv 0) rfl) (pe_fld (pv 0) rfl) (fun _ _ => rfl))) (pss_cons (ps_fldaug (pv 0) pe_int in_add) (pss_one (ps_ret (pv 1)))), ?_⟩
    refine ⟨_, rfl, r, R.C, dx, _, _, rfl, hr', R.c, R.nN, rf_num _ _, _, rfl, r, R.C, dx, _, _, rfl, hr', R.c, R.nP, rf_pl _ _, a, _, _, _, rfl, rfl, hS, atI_nat (by rw [List.getElem?_map, hz]; rfl), ?_⟩
    refine ⟨_, rfl, r, R.C, dx, _, _, rfl, hr', R.c, R.nP, rf_pl _ _, _, _, rfl, rfl, _, _, hr', (by show 2 < 1000; decide), _, rfl, ?_⟩
    show Q (.int z) (upd H r (.ins R.C dx (putF "place" (V.int (((n : Nat) : Int) + 1)) (rf a n))))
    rw [show ((n : Nat) : Int) + 1 = ((n + 1 : Nat) : Int) by omega, rf_put]
    exact q
/-- take_row -/
def spRow (K : PySem.W.Frag) (CR : Addr) : Sp := fun vs H Q _ => ∃ (r a dx : Addr) (ns x y : List Int) (n : Nat), vs = [.ref r] ∧ H r = some (.ins CR dx (rf a n)) ∧ SqL K H a (ns.map V.int) ∧ ns.drop n = (x.length : Int) :: (x ++ y) ∧
  ∀ (H' : Hp) (p : Addr), SB r H H' → H' r = some (.ins CR dx (rf a (n + 1 + x.length))) → H p = none → H' p = some (.lst (x.map V.int)) → Q (.ref p) H'
theorem cut_mid (xs : List V) (i j : Nat) (h : i ≤ j) (h2 : j ≤ xs.length) : cutV xs (some (i : Int)) (some (j : Int)) = (xs.drop i).take (j - i) := by
  unfold cutV
  rw [HT.sIx_nat, HT.sIx_nat, Nat.min_eq_left h2, Nat.min_eq_left (Nat.le_trans h h2)]
theorem ok_rrow (R : Rdr K mg) : FnOk P w K mg base CX0 2 R.mR.f R.mR.fd ["self"] (spRow K R.C) := by
  have GN : FnOk P w K mg base CX0 1 R.mN.f R.mN.fd ["self"] (spNum K R.C) := ok_rnum R
  refine R.mR.F.ok sc_Reader_take_row (fun vs H Q E h => ?_) (fun cdv A outer s H vs Q E hr h => ?_)
  · obtain ⟨r, a, dx, ns, x, y, n, rfl, _⟩ := h
    rfl
  · obtain ⟨r, a, dx, ns, x, y, n, rfl, hr', hS, hd, q⟩ := h
    have nd := sc_Reader_take_row.nd
    refine ⟨_, pss_cons (ps_set (i := 1) nd rfl (.inl rfl) (pe_meth0 (pv 0) R.c R.mN.m GN hr R.mN.b .nil pass0))
      (pss_cons (ps_set (i := 2) nd rfl (.inl rfl) (pe_slice sl_list (pe_fld (pv 0) rfl) (po_some (pe_fld (pv 0) rfl)) (po_some (pe_op op_add (pe_fld (pv 0) rfl) (pv 1)))))
      (pss_cons (ps_fldaug (pv 0) (pv 1) in_add) (pss_one (ps_ret (pv 2))))), ?_⟩
    have hn : ns[n]? = some (x.length : Int) := by
      have := congrArg List.head? hd
      rw [List.head?_drop] at this
      exact this
    have hdr : ns.drop (n + 1) = x ++ y := by
      have := congrArg List.tail hd
      rw [List.tail_drop] at this
      exact this
    have hlen : n + 1 + x.length ≤ ns.length := by
      have h1 := congrArg List.length hdr
      have h2 : n < ns.length := (List.getElem?_eq_some_iff.1 hn).1
      rw [List.length_drop, List.length_append] at h1
      omega
    refine ⟨_, rfl, r, dx, _, rfl, hr', rf_no _ _ (by decide +kernel) (by decide +kernel), r, a, dx, ns, n, _, rfl, hr', hS, hn, ?_⟩
    have k1 : Kn H (upd H r (.ins R.C dx (rf a (n + 1)))) := SB.kn SB.upd hr'
    refine ⟨_, rfl, r, R.C, dx, _, _, rfl, upd_same, R.c, R.nN, rf_num _ _, _, rfl, r, R.C, dx, _, _, rfl, upd_same, R.c, R.nP, rf_pl _ _, _, rfl, _, rfl, r, R.C, dx, _, _, rfl, upd_same, R.c, R.nP, rf_pl _ _, _, rfl, _, _, rfl, rfl, _, rfl, a, _, rfl, k1.sqL hS, fun p np => ?_⟩
    have nrp : r ≠ p := fun z => by
      rw [z, upd_same] at np
      cases np
    have nHp : H p = none := by
      rw [upd_ne (Ne.symm nrp)] at np
      exact np
    refine ⟨_, rfl, r, R.C, dx, _, _, rfl, (by rw [upd_ne nrp]; exact upd_same), R.c, R.nP, rf_pl _ _, _, rfl, _, _, rfl, rfl, _, _, (by rw [upd_ne nrp]; exact upd_same), (by show 2 < 1000; decide), _, rfl, ?_⟩
    have ec : cutV (ns.map V.int) (some ((n + 1 : Nat) : Int)) (some (((n + 1 : Nat) : Int) + (x.length : Int))) = x.map V.int := by
      rw [show ((n + 1 : Nat) : Int) + (x.length : Int) = ((n + 1 + x.length : Nat) : Int) by omega, cut_mid _ _ _ (by omega) (by rw [List.length_map]; exact hlen), ← List.map_drop, hdr, ← List.map_take]
      congr 1
      rw [show n + 1 + x.length - (n + 1) = x.length by omega, List.take_left]
    refine q _ p ?_ ?_ nHp ?_
    · intro b o hb e
      rw [upd_ne hb, upd_ne (ne_of_none e nHp), upd_ne hb]
      exact e
    · rw [upd_same]
      show some (HO.ins R.C dx (putF "place" (V.int (((n + 1 : Nat) : Int) + (x.length : Int))) (rf a (n + 1)))) = _
      rw [show ((n + 1 : Nat) : Int) + (x.length : Int) = ((n + 1 + x.length : Nat) : Int) by omega, rf_put]
    · rw [upd_ne (Ne.symm nrp), upd_same, ec]
end
end Pg

set_option Elab.async false
set_option linter.all false
set_option maxRecDepth 100000
set_option maxHeartbeats 2000000
namespace Pg
open PySem PySem.Spec PyProof.Rows L2 OwR
open Hl (ori rg Good)
/-! ### the polygon -/
def pf (c : Addr) : List (Str × V) := [("corners", .ref c)]
theorem pf_get (c : Addr) : (pf c).lookup ("corners" : Str) = some (.ref c) := by
  unfold pf
  rw [List.lookup_cons, show (("corners" : Str) == "corners") = true by simp]
theorem pf_put (c d : Addr) : putF "corners" (.ref d) (pf c) = pf d := by
  show (if ("corners" : Str) = "corners" then [(("corners" : Str), V.ref d)] else _) = pf d
  rw [if_pos rfl]
  rfl
/-- the polygon at the beginning, as the top has written it -/
structure FirstC (K : PySem.W.Frag) (mg : Str → Option Value) where
  F : Addr
  g : mg "FIRST_CORNERS" = some (.ref F)
  ks : List AP
  at_ : ∀ H, SqT K H F (refs ks)
  tp : ∀ H, TPs K H ks
  eq : pts ks = Sq68.fresh
structure Ply (K : PySem.W.Frag) (mg : Str → Option Value) extends ClsF K mg "Polygon" where
  nC : NoAttr K C "corners"
  fI : Addr
  dI : FuncData
  FI : Fun K "__init__" "Polygon.__init__" s_Polygon_init fI dI
  bI : Binds K dI ["self"] []
  mkI : Mk K C fI
theorem good_fresh : Good Sq68.fresh := by
  refine ⟨⟨[(0, 0), (0, 1), (1, 0)], ?_, ?_, ?_⟩, by decide, by decide⟩
  · unfold Hl.Asc
    simp only [List.pairwise_cons, List.mem_cons, List.not_mem_nil, or_false, forall_eq_or_imp, forall_eq, Hl.lam, Hl.F]
    refine ⟨⟨by decide, by decide⟩, by decide, by simp, List.Pairwise.nil⟩
  · intro p hp
    simp only [List.mem_cons, List.not_mem_nil, or_false] at hp
    rcases hp with rfl | rfl | rfl <;> exact ⟨⟨by decide, by decide⟩, by decide, by decide⟩
  · have h := Hl.hull_ok (f := Hl.F) (P := [(0, 0), (0, 1), (1, 0)]) (by
      unfold Hl.Asc
      simp only [List.pairwise_cons, List.mem_cons, List.not_mem_nil, or_false, forall_eq_or_imp, forall_eq, Hl.lam, Hl.F]
      exact ⟨⟨by decide, by decide⟩, by decide, by simp, List.Pairwise.nil⟩) (by decide)
    have e : Hl.hull [(0, 0), (0, 1), (1, 0)] = Sq68.fresh := by decide +kernel
    rw [e] at h
    exact h
section
variable {P : Program} {w : World} {K : PySem.W.Frag} {mg : Str → Option Value} {base : Heap}
/-- a polygon's corners in the heap: as the program keeps them -/
def HouseAt (K : PySem.W.Frag) (H : Hp) (c : Addr) (ks : List AP) : Prop := SqL K H c (refs ks) ∧ TPs K H ks ∧ Good (pts ks)
theorem HouseAt.kn {H H' : Hp} (k : Kn H H') {c : Addr} {ks : List AP} (h : HouseAt K H c ks) : HouseAt K H' c ks := ⟨k.sqL h.1, fun x hx => k.sqT (h.2.1 x hx), h.2.2⟩
theorem HouseAt.tame {H : Hp} {c : Addr} {ks : List AP} (h : HouseAt K H c ks) : Tame ks := fun k hk => h.2.2.small _ (List.mem_map.2 ⟨k, hk, rfl⟩)
theorem HouseAt.len {H : Hp} {c : Addr} {ks : List AP} (h : HouseAt K H c ks) : 3 ≤ ks.length ∧ ks.length ≤ 12 := by
  have := h.2.2.three
  have := h.2.2.twelve
  rw [pts_len] at *
  omega
theorem HouseAt.poly {H : Hp} {c : Addr} {ks : List AP} (h : HouseAt K H c ks) : PolyAt K H c ks := ⟨h.1, h.2.1, fun k hk => Fair.of_small (h.tame k hk), by have := h.len; omega⟩
def spPInit (K : PySem.W.Frag) (CP : Addr) : Sp := fun vs H Q _ => ∃ (q dq : Addr), vs = [.ref q] ∧ H q = some (.ins CP dq []) ∧ ∀ (H' : Hp) (c : Addr) (ks : List AP), SB q H H' → H' q = some (.ins CP dq (pf c)) → HouseAt K H' c ks → pts ks = Sq68.fresh → Q .non H'
theorem ok_pinit (L : Ply K mg) (C : FirstC K mg) (B : Blt mg) : FnOk P w K mg base CX0 1 L.fI L.dI ["self"] (spPInit K L.C) := by
  refine L.FI.ok sc_Polygon_init (fun vs H Q E h => ?_) (fun cdv A outer s H vs Q E hr h => ?_)
  · obtain ⟨q, dq, rfl, _⟩ := h
    rfl
  · obtain ⟨q, dq, rfl, hq, k⟩ := h
    refine ⟨_, pss_one (ps_fld (pv 0) (pe_callTy call_list_of (by rfl) B.lst (by decide +kernel) (pa_cons (pe_glob rfl C.g (v := .ref C.F) rfl) pa_nil)) rfl), ?_⟩
    refine ⟨C.F, _, rfl, .inr (C.at_ _), fun c nc => ?_⟩
    have nqc : q ≠ c := ne_of_none hq nc
    refine ⟨_, rfl, q, L.C, dq, [], rfl, (by rw [upd_ne nqc]; exact hq), L.c, L.nC, (by show 0 < 1000; decide), ?_⟩
    refine k _ c C.ks ?_ ?_ ⟨SqL.of ?_, C.tp _, by rw [C.eq]; exact good_fresh⟩ C.eq
    · intro b o hb e
      rw [upd_ne hb, upd_ne (ne_of_none e nc)]
      exact e
    · rw [upd_same]
      rfl
    · rw [upd_ne (Ne.symm nqc), upd_same]
/-- at p there was nothing but perhaps an instance -/
def New (H : Hp) (p : Addr) : Prop := ∀ u, plainO u → H p = some u → False
theorem Kn.new {H H' : Hp} (k : Kn H H') {p : Addr} (h : H' p = none) : New H p := fun u hu e => by
  rw [k p u hu e] at h
  cases h
/-! ### one call, and all of them -/
/-- the reader at r stands at n in the list at a, the polygon at q has the corners ks at c -/
structure SitAt (K : PySem.W.Frag) (CR CP : Addr) (H : Hp) (r q a dr dq c : Addr) (ns : List Int) (n : Nat) (ks : List AP) : Prop where
  rd : H r = some (.ins CR dr (rf a n))
  pl : H q = some (.ins CP dq (pf c))
  ls : SqL K H a (ns.map V.int)
  hs : HouseAt K H c ks
abbrev shape := PySq68.shape
/-- what one call is promised to do: read itself, answer as the specification's step -/
def spOneCall (K : PySem.W.Frag) (CR CP : Addr) : Sp := fun vs H Q _ => ∃ (r q a dr dq c : Addr) (ns : List Int) (n : Nat) (ks : List AP) (cl : List (List Int)) (rest : List Int), vs = [.ref q, .ref r] ∧ SitAt K CR CP H r q a dr dq c ns n ks ∧
  PyFlat.call shape (ns.drop n) = some (cl, rest) ∧ PyInside.call PySq68.bound cl = true ∧
  ∀ (H' : Hp) (p c' : Addr) (n' : Nat) (ks' : List AP), Kn H H' → SitAt K CR CP H' r q a dr dq c' ns n' ks' → ns.drop n' = rest → pts ks' = (Sq68Neutral.step (pts ks) (PySq68.whole cl)).1 → New H p → H' p = some (.lst (intsV (Sq68Neutral.step (pts ks) (PySq68.whole cl)).2)) → Q (.ref p) H'
def spMain (K : PySem.W.Frag) : Sp := fun vs H Q _ => ∃ (a : Addr) (ns : List Int), vs = [.ref a] ∧ SqL K H a (ns.map V.int) ∧ PySq68.answers_asked ns = true ∧ ∀ (H' : Hp) (p : Addr), H' p = some (.lst (intsV (PySq68.answers ns))) → Q (.ref p) H'
abbrev D_aor (K : PySem.W.Frag) (mg : Str → Option Value) := DefF K mg "answer_or_refusal" s_answer_or_refusal ["polygon", "reader"]
abbrev D_ans (K : PySem.W.Frag) (mg : Str → Option Value) := DefF K mg "answers" s_answers ["calls"]
theorem asked_parts {ns : List Int} (h : PySq68.answers_asked ns = true) : ∃ raw, PyFlat.calls shape ns.length ns = some raw ∧ PyInside.calls PySq68.bound raw = true ∧ (PySq68.answers ns).length ≤ 10000000 ∧
    PySq68.answers ns = PyFlat.told (PyFlat.played Sq68Neutral.step Sq68Neutral.start (raw.map PySq68.whole)) := by
  unfold PySq68.answers_asked at h
  cases e : PyFlat.calls PySq68.shape ns.length ns with
  | none => rw [e] at h; cases h
  | some raw =>
    rw [e] at h
    simp only [Bool.and_eq_true] at h
    obtain ⟨⟨⟨⟨_, _⟩, h3⟩, _⟩, h5⟩ := h
    refine ⟨raw, rfl, h3, by unfold PyFlat.short at h5; simpa using h5, ?_⟩
    unfold PySq68.answers PySq68.calls
    rw [e]
theorem calls_cons {f : Nat} {z : Int} {rr : List Int} {cs : List (List (List Int))} (h : PyFlat.calls shape f (z :: rr) = some cs) : ∃ f' cl rest cs', f = f' + 1 ∧ PyFlat.call shape (z :: rr) = some (cl, rest) ∧ PyFlat.calls shape f' rest = some cs' ∧ cs = cl :: cs' := by
  cases f with
  | zero => simp [PyFlat.calls] at h
  | succ f =>
    unfold PyFlat.calls at h
    cases e : PyFlat.call shape (z :: rr) with
    | none => rw [e] at h; cases h
    | some cr =>
      obtain ⟨cl, rest⟩ := cr
      rw [e] at h
      simp only at h
      cases e2 : PyFlat.calls shape f rest with
      | none => rw [e2] at h; cases h
      | some cs' =>
        rw [e2] at h
        exact ⟨f, cl, rest, cs', rfl, rfl, e2, (Option.some.inj h).symm⟩
theorem row_short {l x y : List Int} (h : PyFlat.row l = some (x, y)) : y.length < l.length ∧ l = (x.length : Int) :: (x ++ y) := by
  cases l with
  | nil => cases h
  | cons n r =>
    have h' : (if 0 ≤ n ∧ n.toNat ≤ r.length then some (r.take n.toNat, r.drop n.toNat) else none) = some (x, y) := h
    by_cases hn : 0 ≤ n ∧ n.toNat ≤ r.length
    · rw [if_pos hn] at h'
      cases h'
      refine ⟨by simp only [List.length_drop, List.length_cons]; omega, ?_⟩
      rw [List.take_append_drop, List.length_take, Nat.min_eq_left hn.2]
      congr 1
      omega
    · rw [if_neg hn] at h'
      cases h'
theorem rows_short : ∀ (k : Nat) {l : List Int} {xs : List (List Int)} {y : List Int}, PyFlat.rows k l = some (xs, y) → y.length ≤ l.length
  | 0, l, xs, y, h => by cases h; exact Nat.le_refl _
  | k + 1, l, xs, y, h => by
    unfold PyFlat.rows at h
    cases e : PyFlat.row l with
    | none => rw [e] at h; cases h
    | some xy =>
      obtain ⟨x, s⟩ := xy
      rw [e] at h
      simp only at h
      cases e2 : PyFlat.rows k s with
      | none => rw [e2] at h; cases h
      | some ys =>
        obtain ⟨xs', t⟩ := ys
        rw [e2] at h
        cases h
        have := rows_short k e2
        have := (row_short e).1
        omega
theorem call_short {z : Int} {rr rest : List Int} {cl : List (List Int)} (h : PyFlat.call shape (z :: rr) = some (cl, rest)) : rest.length < (z :: rr).length := by
  have h : (match shape z with
    | none => none
    | some (n, k) => if rr.length < n then none else match PyFlat.rows k (rr.drop n) with
      | none => none
      | some (xs, t) => some ((z :: rr.take n) :: xs, t)) = some (cl, rest) := h
  cases e : shape z with
  | none => rw [e] at h; cases h
  | some nk =>
    obtain ⟨n, k⟩ := nk
    rw [e] at h
    simp only at h
    by_cases hn : rr.length < n
    · rw [if_pos hn] at h; cases h
    · rw [if_neg hn] at h
      cases e2 : PyFlat.rows k (rr.drop n) with
      | none => rw [e2] at h; cases h
      | some xt =>
        obtain ⟨xs, t⟩ := xt
        rw [e2] at h
        cases h
        have := rows_short k e2
        rw [List.length_drop] at this
        simp only [List.length_cons]
        omega
theorem kn_upd {H H1 : Hp} {t : Addr} {o : HO} (k : Kn H H1) (h : H t = none) : Kn H (upd H1 t o) := fun b u p e => by
  rw [upd_ne (ne_of_none e h)]
  exact k b u p e
theorem refs_not_ints {ks : List AP} {l : List Int} (h3 : 3 ≤ ks.length) : refs ks ≠ intsV l := fun e => by
  cases ks with
  | nil => simp at h3
  | cons k ks =>
    cases l with
    | nil => cases e
    | cons x l =>
      have := (List.cons.inj e).1
      cases this
theorem house_upd {H : Hp} {c t : Addr} {ks : List AP} {l m : List Int} (h : HouseAt K H c ks) (ht : H t = some (.lst (intsV l))) : HouseAt K (upd H t (.lst (intsV m))) c ks := by
  have h3 := h.len.1
  refine ⟨?_, fun k hk => sqT_upd ht (h.2.1 k hk), h.2.2⟩
  rcases h.1 with (e | ⟨o, e⟩) | ⟨e1, e2⟩
  · refine .inl (.inl ?_)
    rw [upd_ne fun z => ?_]
    · exact e
    · rw [z, ht] at e
      have e' := Option.some.inj e
      injection e' with q
      exact refs_not_ints h3 q.symm
  · refine .inl (.inr ⟨o, ?_⟩)
    rw [upd_ne (ne_of e ht (by intro z; cases z))]
    exact e
  · exact .inr ⟨e1, e2⟩
theorem intsV_append (l m : List Int) : intsV (l ++ m) = intsV l ++ intsV m := List.map_append
theorem ok_ans {kA : Nat} (D : D_ans K mg) (DA : D_aor K mg) (R : Rdr K mg) (L : Ply K mg) (C : FirstC K mg) (B : Blt mg) (h2 : 2 ≤ kA)
    (GA : FnOk P w K mg base CX0 kA DA.f DA.fd ["polygon", "reader"] (spOneCall K R.C L.C)) : FnOk P w K mg base CX0 (kA + 1) D.f D.fd ["calls"] (spMain K) := by
  have GI : FnOk P w K mg base CX0 1 R.fI R.dI ["self", "numbers"] (spRInit R.C) := ok_rinit R
  have GP : FnOk P w K mg base CX0 1 L.fI L.dI ["self"] (spPInit K L.C) := ok_pinit L C B
  have GE : FnOk P w K mg base CX0 1 R.mE.f R.mE.fd ["self"] (spEnd K R.C) := ok_rend R B
  refine D.F.ok sc_answers (fun vs H Q E h => ?_) (fun cdv A outer s H vs Q E hr h => ?_)
  · obtain ⟨a, ns, rfl, _⟩ := h
    rfl
  · obtain ⟨a, ns, rfl, hS, hask, q⟩ := h
    obtain ⟨raw, hraw, hins, hshort, heq⟩ := asked_parts hask
    have nd := sc_answers.nd
    have hr2 : Room 2 _ := hr.mono h2
    have hr1 : Room 1 _ := hr.mono (by omega)
    refine ⟨_, pss_cons (ps_set (i := 1) nd rfl (.inl rfl) (pe_make R.mkI GI hr2 (by rfl) R.g R.bI .nil pass0 (pa_cons (pv 0) pa_nil)))
      (pss_cons (ps_set (i := 2) nd rfl (.inl rfl) (pe_make0 L.mkI GP hr2 rfl L.g L.bI .nil pass0))
      (pss_cons (ps_set (i := 3) nd rfl (.inl rfl) (pe_lst pa_nil))
      (pss_cons (ps_while PassesOwn.never (pt_not (pt_val (pe_meth0 (pv 1) R.c R.mE.m GE hr1 R.mE.b .nil pass0)))
        (pss_cons (ps_set (i := 4) nd rfl (.inl rfl) (pe_call GA hr (by rfl) DA.g DA.F.kp DA.b .nil pass0 (pa_cons (pv 2) (pa_cons (pv 1) pa_nil))))
        (pss_cons (ps_expr (pe_bm PySem.F.plainAttrs_list PySem.F.slot_list_append PySem.F.type_list_append mt_append (pv 3) (pa_cons (pe_callB call_len_seq (by rfl) B.len PySem.boot_len (pa_cons (pv 4) pa_nil)) pa_nil)))
        (pss_one (ps_expr (pe_bm PySem.F.plainAttrs_list PySem.F.slot_list_extend PySem.F.type_list_extend mt_extend (pv 3) (pa_cons (pv 4) pa_nil)))))))
      (pss_one (ps_ret (pv 3)))))), ?_⟩
    -- reader = Reader(calls)
    refine ⟨_, rfl, fun r dr nr ndr ne => ?_⟩
    refine ⟨r, a, dr, rfl, upd_same, rfl, ?_⟩
    rw [upd_twice]
    generalize hH1 : upd (upd H dr (.own r)) r (.ins R.C dr (rf a 0)) = H1
    have s1 : Same H H1 := fun b o e => by
      rw [← hH1, upd_ne (ne_of_none e nr), upd_ne (ne_of_none e ndr)]
      exact e
    have rd1 : H1 r = some (.ins R.C dr (rf a 0)) := by rw [← hH1, upd_same]
    -- polygon = Polygon()
    refine fun qq dq nq ndq neq => ?_
    have nrq : r ≠ qq := ne_of_none rd1 nq
    refine ⟨qq, dq, rfl, upd_same, fun H2 c0 ks0 sb hq hh ek => ⟨rfl, ?_⟩⟩
    have s2 : Same H1 H2 := fun b o e => sb b o (ne_of_none e nq) (by
      rw [upd_ne (ne_of_none e nq), upd_ne (ne_of_none e ndq)]
      exact e)
    have ls2 : SqL K H2 a (ns.map V.int) := (s1.trans s2).seq hS
    -- told = []
    refine ⟨Nat.zero_le _, fun t nt => ?_⟩
    have s3 : Same H2 (upd H2 t (.lst [])) := same_upd nt
    have sit0 : SitAt K R.C L.C (upd H2 t (.lst [])) r qq a dr dq c0 ns 0 ks0 := ⟨s3 _ _ (s2 _ _ rd1), s3 _ _ hq, s3.seq ls2, hh.kn (Kn.of_same s3)⟩
    refine ⟨fun m σ H' => ∃ (n f : Nat) (c : Addr) (ks : List AP) (cs : List (List (List Int))) (out : List Int) (v4 : Option V), m = (ns.drop n).length ∧ σ = [some (.ref a), some (.ref r), some (.ref qq), some (.ref t), v4] ∧ SitAt K R.C L.C H' r qq a dr dq c ns n ks ∧ Kn H2 H' ∧ H' t = some (.lst (intsV out)) ∧
        PyFlat.calls shape f (ns.drop n) = some cs ∧ PyInside.calls PySq68.bound cs = true ∧ out ++ PyFlat.told (PyFlat.played Sq68Neutral.step (pts ks) (cs.map PySq68.whole)) = PySq68.answers ns,
      ⟨_, 0, ns.length, c0, ks0, raw, [], none, rfl, rfl, sit0, Kn.of_same s3, upd_same, hraw, hins, ?_⟩, ?_⟩
    · rw [heq, ek]
      rfl
    · rintro m σ H' ⟨n, f, c, ks, cs, out, v4, rfl, rfl, sit, kn, ht, hcs, hin, hout⟩
      refine ⟨_, rfl, r, dr, _, rfl, sit.rd, rf_no _ _ (by decide +kernel) (by decide +kernel), r, a, dr, ns, n, rfl, sit.rd, sit.ls, _, rfl, ?_⟩
      by_cases hn : ns.length ≤ n
      · refine ifF (by rw [decide_eq_true hn]; rfl) ?_
        rw [List.drop_eq_nil_of_le hn] at hcs
        have ec : cs = [] := by
          cases f <;> (simp only [PyFlat.calls, Option.some.injEq] at hcs; exact hcs.symm)
        subst ec
        refine ⟨_, rfl, q H' t ?_⟩
        rw [ht, ← hout]
        simp [PyFlat.played, PyFlat.told]
      · refine ifT (by rw [decide_eq_false hn]; rfl) ?_
        obtain ⟨z, rr, hzr⟩ : ∃ z rr, ns.drop n = z :: rr := by
          cases e : ns.drop n with
          | nil => exact absurd (List.drop_eq_nil_iff.1 e) hn
          | cons z rr => exact ⟨z, rr, rfl⟩
        obtain ⟨f', cl, rest, cs', rfl, hcl, hcs', ecs⟩ := calls_cons (hzr ▸ hcs)
        subst ecs
        have hin' : PyInside.call PySq68.bound cl = true ∧ PyInside.calls PySq68.bound cs' = true := by
          unfold PyInside.calls at hin ⊢
          rw [List.all_cons, Bool.and_eq_true] at hin
          exact hin
        have hlt : rest.length < (ns.drop n).length := by rw [hzr]; exact call_short hcl
        refine ⟨fun σ' H'' => ∃ (n' : Nat) (c' : Addr) (ks' : List AP) (out' : List Int) (v4 : Option V), ns.drop n' = rest ∧ σ' = [some (.ref a), some (.ref r), some (.ref qq), some (.ref t), v4] ∧ SitAt K R.C L.C H'' r qq a dr dq c' ns n' ks' ∧ Kn H2 H'' ∧ H'' t = some (.lst (intsV out')) ∧
            out' ++ PyFlat.told (PyFlat.played Sq68Neutral.step (pts ks') (cs'.map PySq68.whole)) = PySq68.answers ns,
          fun σ' H'' ⟨n', c', ks', out', v4, e1, e2, e3, e4, e5, e6⟩ => ⟨_, (by rw [e1]; exact hlt), n', f', c', ks', cs', out', v4, rfl, e2, e3, e4, e5, by rw [e1]; exact hcs', hin'.2, e6⟩, ?_⟩
        refine ⟨_, rfl, _, rfl, r, qq, a, dr, dq, c, ns, n, ks, cl, rest, rfl, sit, hzr ▸ hcl, hin'.1, fun H3 p c' n' ks' k3 sit3 en' eks np hp => ?_⟩
        have ht3 : H3 t = some (.lst (intsV out)) := k3 _ _ trivial ht
        have ntp : t ≠ p := fun z => np (.lst (intsV out)) trivial (by rw [← z]; exact ht)
        generalize hst : Sq68Neutral.step (pts ks) (PySq68.whole cl) = st at *
        -- what is told now, and what is told in all
        have hout2 : (out ++ ((st.2.length : Int) :: st.2)) ++ PyFlat.told (PyFlat.played Sq68Neutral.step (pts ks') (cs'.map PySq68.whole)) = PySq68.answers ns := by
          have e : PyFlat.played Sq68Neutral.step (pts ks) ((cl :: cs').map PySq68.whole) = st.2 :: PyFlat.played Sq68Neutral.step st.1 (cs'.map PySq68.whole) := by
            rw [← hst]
            rfl
          rw [← hout, eks, e]
          unfold PyFlat.told
          rw [List.flatMap_cons, List.append_assoc]
        have hsz : out.length + 1 + st.2.length ≤ 10000000 := by
          have := congrArg List.length hout2
          simp only [List.length_append, List.length_cons] at this
          omega
        have lo : (intsV out).length = out.length := List.length_map ..
        have lst : (intsV st.2).length = st.2.length := List.length_map ..
        refine ⟨_, rfl, .inl ⟨rfl, _, SqL.of ht3⟩, _, rfl, p, _, rfl, .inl (SqL.of hp), t, _, _, rfl, rfl, ht3, ?_, ?_⟩
        · rw [lo]
          exact Nat.lt_of_le_of_lt (show out.length ≤ 10000000 by omega) (by decide)
        have ht4 : (upd H3 t (.lst (intsV out ++ [V.int ((intsV st.2).length : Nat)]))) t = some (.lst (intsV (out ++ [(st.2.length : Int)]))) := by
          rw [upd_same, intsV_append, lst]
          rfl
        have hp4 : (upd H3 t (.lst (intsV out ++ [V.int ((intsV st.2).length : Nat)]))) p = some (.lst (intsV st.2)) := by rw [upd_ne (Ne.symm ntp)]; exact hp
        refine ⟨_, rfl, .inl ⟨rfl, _, SqL.of ht4⟩, _, rfl, t, p, _, _, rfl, rfl, ht4, hp4, ?_, ?_⟩
        · rw [intsV_append, List.length_append, lo, lst]
          exact Nat.le_trans (show _ ≤ 10000000 by show out.length + 1 + st.2.length ≤ _; omega) (by decide)
        have kA : Kn H2 H3 := kn.trans k3
        have kB : Kn H2 (upd (upd H3 t (.lst (intsV out ++ [V.int ((intsV st.2).length : Nat)]))) t (.lst (intsV (out ++ [(st.2.length : Int)]) ++ intsV st.2))) := by
          rw [upd_twice]
          exact kn_upd kA nt
        have e5 : (upd (upd H3 t (.lst (intsV out ++ [V.int ((intsV st.2).length : Nat)]))) t (.lst (intsV (out ++ [(st.2.length : Int)]) ++ intsV st.2))) = upd H3 t (.lst (intsV (out ++ ((st.2.length : Int) :: st.2)))) := by
          rw [upd_twice, ← intsV_append, List.append_assoc]
          rfl
        rw [e5] at kB ⊢
        refine ⟨n', c', ks', out ++ ((st.2.length : Int) :: st.2), _, en', rfl, ⟨?_, ?_, kB.sqL ls2, house_upd sit3.hs ht3⟩, kB, upd_same, hout2⟩
        · rw [upd_ne (ne_of sit3.rd ht3 (by intro z; cases z))]
          exact sit3.rd
        · rw [upd_ne (ne_of sit3.pl ht3 (by intro z; cases z))]
          exact sit3.pl
end
end Pg

set_option Elab.async false
set_option linter.all false
set_option maxRecDepth 100000
set_option maxHeartbeats 2000000
namespace Pg
open PySem PySem.Spec PyProof.Rows L2 OwR
open Hl (ori rg Good)
/-! ### rows of numbers and the specification's reading of them -/
def rowOk (x : List Int) : Prop := x.length ≤ 60 ∧ ∀ z ∈ x, 0 ≤ z ∧ z ≤ 18446744073709551615
def nat (x : List Int) : List Nat := x.map Int.toNat
theorem given_eq {x y : List Int} (hx : ∀ z ∈ x, 0 ≤ z) (hy : ∀ z ∈ y, 0 ≤ z) : Sq68.given (nat x) (nat y) = if x.length ≠ y.length then none else some (diffs x y) := by
  unfold Sq68.given nat
  rw [List.length_map, List.length_map]
  congr 1
  refine congrArg some ?_
  unfold diffs
  rw [List.zip_map, List.map_map]
  refine List.map_congr_left fun p hp => ?_
  have h1 := hx p.1 (List.of_mem_zip (a := p.1) (b := p.2) hp).1
  have h2 := hy p.2 (List.of_mem_zip (a := p.1) (b := p.2) hp).2
  simp only [Function.comp, Prod.map]
  omega
theorem pairs_eq : ∀ l : List Int, Sq68.pairs l = if l.length % 2 = 0 then some (pairUp l) else none
  | [] => rfl
  | [_] => rfl
  | x :: y :: l => by
    show (Sq68.pairs l).map (fun m => (x, y) :: m) = _
    rw [pairs_eq l]
    simp only [List.length_cons, show (l.length + 1 + 1) % 2 = l.length % 2 by omega]
    split <;> rfl
theorem points_eq {x y : List Int} (hx : ∀ z ∈ x, 0 ≤ z) (hy : ∀ z ∈ y, 0 ≤ z) : (okRows x y → (Sq68.given (nat x) (nat y)).bind Sq68.pairs = some (pairUp (diffs x y))) ∧ (¬ okRows x y → (Sq68.given (nat x) (nat y)).bind Sq68.pairs = none) := by
  rw [given_eq hx hy]
  unfold okRows
  by_cases h : x.length = y.length
  · rw [if_neg (by simpa using h)]
    have ld : (diffs x y).length = x.length := by rw [diffs_len]; omega
    show (_ → Sq68.pairs (diffs x y) = _) ∧ (_ → Sq68.pairs (diffs x y) = _)
    rw [pairs_eq, ld]
    refine ⟨fun k => if_pos k.2, fun k => if_neg fun z => k ⟨h, z⟩⟩
  · rw [if_pos h]
    exact ⟨fun k => absurd k.1 h, fun _ => rfl⟩
theorem small_iff (p : Pt) : Hl.Small p ↔ ¬ (20 < p.1.natAbs ∨ 20 < p.2.natAbs) := by
  unfold Hl.Small
  omega
theorem read_eq {x y : List Int} (hx : ∀ z ∈ x, 0 ≤ z) (hy : ∀ z ∈ y, 0 ≤ z) :
    (¬ okRows x y → Sq68.read (nat x) (nat y) = .error (-3)) ∧ (okRows x y → ¬ inB (pairUp (diffs x y)) → Sq68.read (nat x) (nat y) = .error (-1)) ∧
    (okRows x y → inB (pairUp (diffs x y)) → (Hl.hull (Sq68.inOrder (pairUp (diffs x y)))).length < 3 → Sq68.read (nat x) (nat y) = .error (-4)) ∧
    (okRows x y → inB (pairUp (diffs x y)) → 3 ≤ (Hl.hull (Sq68.inOrder (pairUp (diffs x y)))).length → Sq68.read (nat x) (nat y) = .ok (Hl.hull (Sq68.inOrder (pairUp (diffs x y)))) ∧ Good (Hl.hull (Sq68.inOrder (pairUp (diffs x y))))) := by
  obtain ⟨h1, h2⟩ := points_eq hx hy
  have bnd : ∀ l : List Pt, (l.length < 3 ∨ Sq68.POINTS < l.length ∨ (l.any fun p => decide (Sq68.PLACE < p.1.natAbs ∨ Sq68.PLACE < p.2.natAbs)) = true) ↔ ¬ inB l := by
    intro l
    unfold inB Sq68.POINTS Sq68.PLACE
    constructor
    · rintro (k | k | k) z
      · omega
      · omega
      · obtain ⟨p, hp, e⟩ := List.any_eq_true.1 k
        exact (small_iff p).1 (z.2.2 p hp) (of_decide_eq_true e)
    · intro z
      by_cases k1 : l.length < 3
      · exact .inl k1
      · by_cases k2 : 12 < l.length
        · exact .inr (.inl k2)
        · refine .inr (.inr ?_)
          rw [List.any_eq_true]
          apply Classical.byContradiction
          intro k3
          refine z ⟨by omega, by omega, fun p hp => (small_iff p).2 fun q => k3 ⟨p, hp, decide_eq_true q⟩⟩
  refine ⟨fun h => ?_, fun h hb => ?_, fun h hb hl => ?_, fun h hb hl => ?_⟩
  · unfold Sq68.read
    rw [h2 h]
  · unfold Sq68.read
    rw [h1 h]
    simp only
    rw [if_pos ((bnd _).2 hb)]
  · unfold Sq68.read
    rw [h1 h]
    simp only
    rw [if_neg (fun z => (bnd _).1 z hb)]
    have hne : pairUp (diffs x y) ≠ [] := fun z => by
      have := hb.1
      rw [z] at this
      simp at this
    rw [if_pos ((Hl.hull_read hb.2.2 hne hb.2.1).1 hl)]
  · unfold Sq68.read
    rw [h1 h]
    simp only
    rw [if_neg (fun z => (bnd _).1 z hb)]
    have hne : pairUp (diffs x y) ≠ [] := fun z => by
      have := hb.1
      rw [z] at this
      simp at this
    obtain ⟨e, pos, g⟩ := (Hl.hull_read hb.2.2 hne hb.2.1).2 hl
    rw [if_neg (by omega), e]
    rw [e] at g
    exact ⟨rfl, g⟩
section
variable {P : Program} {w : World} {K : PySem.W.Frag} {mg : Str → Option Value} {base : Heap}
/-! ### what a call does, by its outcome -/
/-- the way out by an answer: a new list, the corners perhaps others -/
def Out (K : PySem.W.Frag) (CR CP : Addr) (H : Hp) (r q a dr dq : Addr) (ns rest : List Int) (c' : List Pt) (ans : List Int) (Q : VK) : Prop :=
  ∀ (H' : Hp) (p d : Addr) (n' : Nat) (ks' : List AP), Kn H H' → SitAt K CR CP H' r q a dr dq d ns n' ks' → ns.drop n' = rest → pts ks' = c' → New H p → H' p = some (.lst (intsV ans)) → Q (.ref p) H'
/-- the way out by an error: all as it was, but that the call is read -/
def OutX (K : PySem.W.Frag) (CR CP : Addr) (H : Hp) (r q a dr dq c : Addr) (ns rest : List Int) (ks : List AP) (C : Addr) (E : XK) : Prop :=
  ∀ (H' : Hp) (n' : Nat), Kn H H' → SitAt K CR CP H' r q a dr dq c ns n' ks → ns.drop n' = rest → E (.ref C) none H'
/-- the two rows of a call stand next -/
def RowsNext (ns : List Int) (n : Nat) (x y rest : List Int) : Prop := ns.drop n = (x.length : Int) :: (x ++ ((y.length : Int) :: (y ++ rest)))
theorem drop_rows {ns x y : List Int} {n : Nat} (h : ns.drop n = (x.length : Int) :: (x ++ y)) : ns.drop (n + 1 + x.length) = y := by
  rw [← List.drop_drop, ← List.drop_drop, h]
  simp
/-! ### answer_begin(polygon, reader) -/
def spBegin (K : PySem.W.Frag) (CR CP CN CB CL : Addr) : Sp := fun vs H Q E => ∃ (r q a dr dq c : Addr) (ns : List Int) (n : Nat) (ks : List AP) (x y rest : List Int), vs = [.ref q, .ref r] ∧ SitAt K CR CP H r q a dr dq c ns n ks ∧ RowsNext ns n x y rest ∧ rowOk x ∧ rowOk y ∧
  (∀ e, Sq68.read (nat x) (nat y) = .error e → (e = -3 → OutX K CR CP H r q a dr dq c ns rest ks CN E) ∧ (e = -1 → OutX K CR CP H r q a dr dq c ns rest ks CB E) ∧ (e = -4 → OutX K CR CP H r q a dr dq c ns rest ks CL E)) ∧
  (∀ c', Sq68.read (nat x) (nat y) = .ok c' → Out K CR CP H r q a dr dq ns rest c' [(c'.length : Int)] Q)
abbrev D_beg (K : PySem.W.Frag) (mg : Str → Option Value) := DefF K mg "answer_begin" s_answer_begin ["polygon", "reader"]
theorem SitAt.same {CR CP : Addr} {H H' : Hp} {r q a dr dq c : Addr} {ns : List Int} {n : Nat} {ks : List AP} (s : SitAt K CR CP H r q a dr dq c ns n ks) (k : Same H H') : SitAt K CR CP H' r q a dr dq c ns n ks := ⟨k _ _ s.rd, k _ _ s.pl, k.seq s.ls, s.hs.kn (Kn.of_same k)⟩
/-- the reader moved on -/
theorem SitAt.moved {CR CP : Addr} {H H' : Hp} {r q a dr dq c : Addr} {ns : List Int} {n m : Nat} {ks : List AP} (s : SitAt K CR CP H r q a dr dq c ns n ks) (k : SB r H H') (e : H' r = some (.ins CR dr (rf a m))) (hrq : r ≠ q) : SitAt K CR CP H' r q a dr dq c ns m ks :=
  ⟨e, k _ _ (Ne.symm hrq) s.pl, (k.kn s.rd).sqL s.ls, s.hs.kn (k.kn s.rd)⟩
theorem lkr : ("numbers" : Str) ≠ "corners" := by decide +kernel
theorem SitAt.ne {CR CP : Addr} {H : Hp} {r q a dr dq c : Addr} {ns : List Int} {n : Nat} {ks : List AP} (s : SitAt K CR CP H r q a dr dq c ns n ks) : r ≠ q := fun z => by
  have h1 := s.rd
  rw [z, s.pl] at h1
  have h2 := Option.some.inj h1
  injection h2 with _ _ h3
  cases h3
theorem ok_beg (D : D_beg K mg) (R : Rdr K mg) (L : Ply K mg) (DRC : D_rco K mg) (DR : D_rpt K mg) (DC : D_cor K mg) (DW : D_way K mg) (DT : D_turn K mg) (XN : ExF K mg "NotPoints") (XB : ExF K mg "BeyondBounds") (XL : ExF K mg "InOneLine") (C : CstB mg) (B : Blt mg) :
    FnOk P w K mg base (L2.CX P w) 5 D.f D.fd ["polygon", "reader"] (spBegin K R.C L.C XN.C XB.C XL.C) := by
  have GR : FnOk P w K mg base CX0 2 R.mR.f R.mR.fd ["self"] (spRow K R.C) := ok_rrow R
  have GC : FnOk P w K mg base (L2.CX P w) 4 DRC.f DRC.fd ["plus", "minus"] (spRC K XN.C XB.C XL.C) := ok_rco DRC DR DC DW DT XN XB XL C B
  refine D.F.okX sc_answer_begin (fun vs H Q E h => ?_) (fun cdv A outer s H vs Q E hr h => ?_)
  · obtain ⟨r, q, a, dr, dq, c, ns, n, ks, x, y, rest, rfl, _⟩ := h
    rfl
  · obtain ⟨r, q, a, dr, dq, c, ns, n, ks, x, y, rest, rfl, sit, hrow, hx, hy, bad, good⟩ := h
    have nd := sc_answer_begin.nd
    have hr2 : Room 2 _ := hr.mono (by decide)
    have nrq := sit.ne
    refine ⟨_, pss_cons (ps_set (i := 2) nd rfl (.inl rfl) (pe_meth0 (pv 1) R.c R.mR.m GR hr2 R.mR.b .nil pass0))
      (pss_cons (ps_set (i := 3) nd rfl (.inl rfl) (pe_meth0 (pv 1) R.c R.mR.m GR hr2 R.mR.b .nil pass0))
      (pss_cons (ps_fld (pv 0) (pe_call GC hr (by rfl) DRC.g DRC.F.kp DRC.b .nil (passes_call (takes_of rfl rfl rfl rfl) (fun _ _ _ _ h => h)) (pa_cons (pv 2) (pa_cons (pv 3) pa_nil))) rfl)
      (pss_one (ps_ret (pe_lst (pa_cons (pe_callB call_len_seq (by rfl) B.len PySem.boot_len (pa_cons (pe_fld (pv 0) rfl) pa_nil)) pa_nil)))))), ?_⟩
    refine ⟨_, rfl, r, dr, _, rfl, sit.rd, rf_no _ _ (by decide +kernel) (by decide +kernel), r, a, dr, ns, x, _, n, rfl, sit.rd, sit.ls, hrow, fun H1 p1 b1 e1 n1 g1 => ?_⟩
    have sit1 := sit.moved b1 e1 nrq
    have hrow1 := drop_rows hrow
    refine ⟨_, rfl, r, dr, _, rfl, sit1.rd, rf_no _ _ (by decide +kernel) (by decide +kernel), r, a, dr, ns, y, rest, _, rfl, sit1.rd, sit1.ls, hrow1, fun H2 p2 b2 e2 n2 g2 => ?_⟩
    have sit2 := sit1.moved b2 e2 nrq
    have hrow2 := drop_rows hrow1
    have k12 : Kn H1 H2 := b2.kn sit1.rd
    have k2 : Kn H H2 := (b1.kn sit.rd).trans k12
    have fx : ∀ z ∈ x, 0 ≤ z := fun z hz => (hx.2 z hz).1
    have fy : ∀ z ∈ y, 0 ≤ z := fun z hz => (hy.2 z hz).1
    obtain ⟨q1, q2, q3, q4⟩ := read_eq fx fy
    refine ⟨_, rfl, _, rfl, p1, p2, x, y, rfl, ⟨SqL.of (k12 _ _ trivial g1), SqL.of g2, by have := hx.1; omega, by have := hy.1; omega⟩, fun hb H3 s3 => ?_, fun hok hb H3 s3 => ?_, fun hok hin hl H3 s3 => ?_, fun hok hin hl H3 cc js s3 ncc hcc hjs ejs => ?_⟩
    · exact (bad _ (q1 hb)).1 rfl H3 _ (k2.trans (Kn.of_same s3)) (sit2.same s3) hrow2
    · exact (bad _ (q2 hok hb)).2.1 rfl H3 _ (k2.trans (Kn.of_same s3)) (sit2.same s3) hrow2
    · exact (bad _ (q3 hok hin hl)).2.2 rfl H3 _ (k2.trans (Kn.of_same s3)) (sit2.same s3) hrow2
    · obtain ⟨er, gd⟩ := q4 hok hin hl
      have sit3 := sit2.same s3
      have good := good _ er
      generalize Hl.hull (Sq68.inOrder (pairUp (diffs x y))) = c' at *
      -- polygon.corners = ..
      refine ⟨_, rfl, q, L.C, dq, _, rfl, sit3.pl, L.c, L.nC, (by show 1 < 1000; decide), ?_⟩
      rw [pf_put]
      have k4 : Kn H3 (upd H3 q (.ins L.C dq (pf cc))) := SB.kn SB.upd sit3.pl
      have hcc4 : (upd H3 q (.ins L.C dq (pf cc))) cc = some (.lst (refs js)) := k4 _ _ trivial hcc
      refine ⟨_, rfl, q, L.C, dq, _, _, rfl, upd_same, L.c, L.nC, pf_get _, cc, _, rfl, .inl (SqL.of hcc4), (by show 1 ≤ sizeLine; decide), fun o no => ?_⟩
      have s5 : Same (upd H3 q (.ins L.C dq (pf cc))) (upd (upd H3 q (.ins L.C dq (pf cc))) o (.lst [V.int ((refs js).length : Nat)])) := same_upd no
      have kA : Kn H (upd (upd H3 q (.ins L.C dq (pf cc))) o (.lst [V.int ((refs js).length : Nat)])) := ((k2.trans (Kn.of_same s3)).trans k4).trans (Kn.of_same s5)
      refine good _ o cc _ js kA ⟨?_, ?_, kA.sqL sit.ls, ⟨SqL.of (s5 _ _ hcc4), fun k hk => same_sqT s5 (k4.sqT (hjs k hk)), by rw [ejs]; exact gd⟩⟩ hrow2 ejs ?_ ?_
      · refine s5 _ _ ?_
        rw [upd_ne nrq]
        exact sit3.rd
      · exact s5 _ _ upd_same
      · exact ((k2.trans (Kn.of_same s3)).trans k4).new no
      · rw [upd_same, refs_len, ← pts_len, ejs]
        rfl
end
end Pg

set_option Elab.async false
set_option linter.all false
set_option maxRecDepth 100000
set_option maxHeartbeats 2000000
namespace Pg
open PySem PySem.Spec PyProof.Rows L2 OwR
open Hl (ori rg Good)
section
variable {P : Program} {w : World} {K : PySem.W.Frag} {mg : Str → Option Value} {base : Heap}
/-! ### answer_size(corners) -/
def spSize (K : PySem.W.Frag) : Sp := fun vs H Q _ => ∃ (c : Addr) (ks : List AP), vs = [.ref c] ∧ PolyAt K H c ks ∧ ∀ (H' : Hp) (p : Addr), Same H H' → H p = none → H' p = some (.lst (intsV [0, Sq68.twice (pts ks), edgeI (pts ks), Sq68.inner (pts ks)])) → Q (.ref p) H'
abbrev D_siz (K : PySem.W.Frag) (mg : Str → Option Value) := DefF K mg "answer_size" s_answer_size ["corners"]
theorem ok_siz (D : D_siz K mg) (DI : D_cwi K mg) (DA : D_all K mg) (DW : D_twi K mg) (DC : D_cae K mg) (DE : D_edg K mg) (DG : D_gcd K mg) (DD : D_daf K mg) (DX : D_crs K mg) (B : Blt mg) : FnOk P w K mg base CX0 6 D.f D.fd ["corners"] (spSize K) := by
  have GT : FnOk P w K mg base CX0 2 DW.f DW.fd ["corners"] (spOfPoly K Sq68.twice) := ok_twi DW DE DX B
  have GC : FnOk P w K mg base CX0 3 DC.f DC.fd ["corners"] (spOfPoly K edgeI) := ok_cae DC DE DG DD B
  have GI : FnOk P w K mg base CX0 5 DI.f DI.fd ["corners"] (spOfPoly K Sq68.inner) := ok_cwi DI DA DW DC DE DG DD DX B
  refine D.F.ok sc_answer_size (fun vs H Q E h => ?_) (fun cdv A outer s H vs Q E hr h => ?_)
  · obtain ⟨c, ks, rfl, _⟩ := h
    rfl
  · obtain ⟨c, ks, rfl, hp, q⟩ := h
    have hr2 : Room 2 _ := hr.mono (by decide)
    have hr3 : Room 3 _ := hr.mono (by decide)
    refine ⟨_, pss_one (ps_ret (pe_lst (pa_cons pe_int (pa_cons (pe_call GT hr2 (by rfl) DW.g DW.F.kp DW.b .nil pass0 (pa_cons (pv 0) pa_nil)) (pa_cons (pe_call GC hr3 (by rfl) DC.g DC.F.kp DC.b .nil pass0 (pa_cons (pv 0) pa_nil)) (pa_cons (pe_call GI hr (by rfl) DI.g DI.F.kp DI.b .nil pass0 (pa_cons (pv 0) pa_nil)) pa_nil)))))), ?_⟩
    refine ⟨_, rfl, c, ks, rfl, hp, fun H1 s1 => ⟨_, rfl, c, ks, rfl, hp.same s1, fun H2 s2 => ⟨_, rfl, c, ks, rfl, hp.same (s1.trans s2), fun H3 s3 => ⟨(by show 4 ≤ sizeLine; decide), fun o no => ?_⟩⟩⟩⟩
    have sA := (s1.trans s2).trans s3
    exact q _ o (sA.trans (same_upd no)) (sA.free no) upd_same
/-! ### answer_count(corners, reader) -/
def spCount (K : PySem.W.Frag) (CR CP CB : Addr) : Sp := fun vs H Q E => ∃ (r q a dr dq c : Addr) (ns : List Int) (n : Nat) (ks : List AP) (k : Int) (rest : List Int), vs = [.ref c, .ref r] ∧ SitAt K CR CP H r q a dr dq c ns n ks ∧ ns.drop n = k :: rest ∧ 0 ≤ k ∧
  (1000 < k → OutX K CR CP H r q a dr dq c ns rest ks CB E) ∧ (k ≤ 1000 → Out K CR CP H r q a dr dq ns rest (pts ks) [Sq68.count (pts ks) k.toNat] Q)
abbrev D_cnt (K : PySem.W.Frag) (mg : Str → Option Value) := DefF K mg "answer_count" s_answer_count ["corners", "reader"]
theorem drop_one {ns : List Int} {n : Nat} {k : Int} {rest : List Int} (h : ns.drop n = k :: rest) : ns[n]? = some k ∧ ns.drop (n + 1) = rest := by
  constructor
  · have := congrArg List.head? h
    rw [List.head?_drop] at this
    exact this
  · have := congrArg List.tail h
    rw [List.tail_drop] at this
    exact this
theorem ok_cnt (D : D_cnt K mg) (R : Rdr K mg) (CP : Addr) (DA : D_all K mg) (DW : D_twi K mg) (DC : D_cae K mg) (DE : D_edg K mg) (DG : D_gcd K mg) (DD : D_daf K mg) (DX : D_crs K mg) (XB : ExF K mg "BeyondBounds") (C : IntG mg "GREATEST_TIMES" 1000) (B : Blt mg) :
    FnOk P w K mg base (L2.CX P w) 5 D.f D.fd ["corners", "reader"] (spCount K R.C CP XB.C) := by
  have GN : FnOk P w K mg base CX0 1 R.mN.f R.mN.fd ["self"] (spNum K R.C) := ok_rnum R
  have GA : FnOk P w K mg base CX0 4 DA.f DA.fd ["corners", "k"] (spAll K) := ok_all DA DW DC DE DG DD DX B
  obtain ⟨t0, g0⟩ := C
  refine D.F.okX sc_answer_count (fun vs H Q E h => ?_) (fun cdv A outer s H vs Q E hr h => ?_)
  · obtain ⟨r, q, a, dr, dq, c, ns, n, ks, k, rest, rfl, _⟩ := h
    rfl
  · obtain ⟨r, q, a, dr, dq, c, ns, n, ks, k, rest, rfl, sit, hd, hk0, bad, good⟩ := h
    have nd := sc_answer_count.nd
    have hr1 : Room 1 _ := hr.mono (by decide)
    obtain ⟨hn, hrest⟩ := drop_one hd
    refine ⟨_, pss_cons (ps_set (i := 2) nd rfl (.inl rfl) (pe_meth0 (pv 1) R.c R.mN.m GN hr1 R.mN.b .nil pass0))
      (pss_cons (ps_if (pt_cmpR op_gt (pv 2) (pe_glob rfl g0 (v := .int 1000) ⟨_, rfl⟩) (nomark _)) (pss_one (ps_raise rfl (takes_of rfl rfl rfl rfl) (pmk_own0 PySem.F.excBase_Exception XB.x XB.g XB.k (raises_own XB.b XB.t) rfl))) pss_nil)
      (pss_one (ps_ret (pe_lst (pa_cons (pe_call GA hr (by rfl) DA.g DA.F.kp DA.b .nil pass0 (pa_cons (pv 0) (pa_cons (pv 2) pa_nil))) pa_nil))))), ?_⟩
    refine ⟨_, rfl, r, dr, _, rfl, sit.rd, rf_no _ _ (by decide +kernel) (by decide +kernel), r, a, dr, ns, n, k, rfl, sit.rd, sit.ls, hn, ?_⟩
    have b1 : SB r H (upd H r (.ins R.C dr (rf a (n + 1)))) := SB.upd
    have k1 : Kn H (upd H r (.ins R.C dr (rf a (n + 1)))) := b1.kn sit.rd
    have sit1 : SitAt K R.C CP (upd H r (.ins R.C dr (rf a (n + 1)))) r q a dr dq c ns (n + 1) ks := sit.moved b1 upd_same sit.ne
    refine ⟨_, rfl, _, _, rfl, rfl, _, rfl, ?_⟩
    by_cases hk : 1000 < k
    · exact ifT (decide_eq_true hk) (bad hk _ _ k1 sit1 hrest)
    · refine ifF (decide_eq_false hk) ?_
      have ek : ((k.toNat : Nat) : Int) = k := by omega
      refine ⟨_, rfl, _, rfl, c, ks, k.toNat, (by rw [ek]; rfl), sit1.hs.poly, by omega, fun H2 s2 => ⟨(by show 1 ≤ sizeLine; decide), fun o no => ?_⟩⟩
      have s3 := s2.trans (same_upd (o := .lst [V.int (Sq68.count (pts ks) k.toNat)]) no)
      exact good (by omega) _ o c _ ks (k1.trans (Kn.of_same s3)) (sit1.same s3) hrest rfl ((k1.trans (Kn.of_same s2)).new no) upd_same
/-! ### answer_where(corners, reader) -/
def spWhere (K : PySem.W.Frag) (CR CP CN : Addr) : Sp := fun vs H Q E => ∃ (r q a dr dq c : Addr) (ns : List Int) (n : Nat) (ks : List AP) (x y rest : List Int), vs = [.ref c, .ref r] ∧ SitAt K CR CP H r q a dr dq c ns n ks ∧ RowsNext ns n x y rest ∧ rowOk x ∧ rowOk y ∧
  ((∀ p, (Sq68.given (nat x) (nat y)).bind Sq68.pairs ≠ some [p]) → OutX K CR CP H r q a dr dq c ns rest ks CN E) ∧
  (∀ p, (Sq68.given (nat x) (nat y)).bind Sq68.pairs = some [p] → Out K CR CP H r q a dr dq ns rest (pts ks) [((Sq68.where_ (pts ks) p : Nat) : Int)] Q)
abbrev D_whr (K : PySem.W.Frag) (mg : Str → Option Value) := DefF K mg "answer_where" s_answer_where ["corners", "reader"]
theorem ok_whr (D : D_whr K mg) (R : Rdr K mg) (CP : Addr) (DO : D_one K mg) (DR : D_rpt K mg) (DS : D_sta K mg) (DE : D_edg K mg) (DT : D_turn K mg) (XN : ExF K mg "NotPoints") (C : CstW mg) (B : Blt mg) :
    FnOk P w K mg base (L2.CX P w) 3 D.f D.fd ["corners", "reader"] (spWhere K R.C CP XN.C) := by
  have GR : FnOk P w K mg base CX0 2 R.mR.f R.mR.fd ["self"] (spRow K R.C) := ok_rrow R
  have GO : FnOk P w K mg base (L2.CX P w) 2 DO.f DO.fd ["plus", "minus"] (spOne K XN.C) := ok_one DO DR XN B
  have GS : FnOk P w K mg base CX0 2 DS.f DS.fd ["corners", "point"] (spStand K) := ok_sta DS DE DT C B
  refine D.F.okX sc_answer_where (fun vs H Q E h => ?_) (fun cdv A outer s H vs Q E hr h => ?_)
  · obtain ⟨r, q, a, dr, dq, c, ns, n, ks, x, y, rest, rfl, _⟩ := h
    rfl
  · obtain ⟨r, q, a, dr, dq, c, ns, n, ks, x, y, rest, rfl, sit, hrow, hx, hy, bad, good⟩ := h
    have nd := sc_answer_where.nd
    have nrq := sit.ne
    refine ⟨_, pss_cons (ps_set (i := 2) nd rfl (.inl rfl) (pe_meth0 (pv 1) R.c R.mR.m GR hr R.mR.b .nil pass0))
      (pss_cons (ps_set (i := 3) nd rfl (.inl rfl) (pe_meth0 (pv 1) R.c R.mR.m GR hr R.mR.b .nil pass0))
      (pss_one (ps_ret (pe_lst (pa_cons (pe_call GS hr (by rfl) DS.g DS.F.kp DS.b .nil pass0 (pa_cons (pv 0) (pa_cons (pe_call GO hr (by rfl) DO.g DO.F.kp DO.b .nil (passes_call (takes_of rfl rfl rfl rfl) (fun _ _ _ _ h => h)) (pa_cons (pv 2) (pa_cons (pv 3) pa_nil))) pa_nil))) pa_nil))))), ?_⟩
    refine ⟨_, rfl, r, dr, _, rfl, sit.rd, rf_no _ _ (by decide +kernel) (by decide +kernel), r, a, dr, ns, x, _, n, rfl, sit.rd, sit.ls, hrow, fun H1 p1 b1 e1 n1 g1 => ?_⟩
    have sit1 := sit.moved b1 e1 nrq
    have hrow1 := drop_rows hrow
    refine ⟨_, rfl, r, dr, _, rfl, sit1.rd, rf_no _ _ (by decide +kernel) (by decide +kernel), r, a, dr, ns, y, rest, _, rfl, sit1.rd, sit1.ls, hrow1, fun H2 p2 b2 e2 n2 g2 => ?_⟩
    have sit2 := sit1.moved b2 e2 nrq
    have hrow2 := drop_rows hrow1
    have k12 : Kn H1 H2 := b2.kn sit1.rd
    have k2 : Kn H H2 := (b1.kn sit.rd).trans k12
    obtain ⟨q1, q2⟩ := points_eq (fun z hz => (hx.2 z hz).1) (fun z hz => (hy.2 z hz).1)
    refine ⟨_, rfl, _, rfl, _, rfl, p1, p2, x, y, rfl, ⟨SqL.of (k12 _ _ trivial g1), SqL.of g2, by have := hx.1; omega, by have := hy.1; omega⟩, fun hb H3 s3 => ?_, fun p hok hp1 H3 t s3 ht => ?_⟩
    · refine bad (fun p e => ?_) H3 _ (k2.trans (Kn.of_same s3)) (sit2.same s3) hrow2
      by_cases hok : okRows x y
      · rw [q1 hok] at e
        exact hb ⟨hok, by rw [Option.some.inj e]; rfl⟩
      · rw [q2 hok] at e
        cases e
    · have sit3 := sit2.same s3
      refine ⟨c, t, ks, p, rfl, sit3.hs.poly, ?_, ht, fun H4 s4 => ⟨(by show 1 ≤ sizeLine; decide), fun o no => ?_⟩⟩
      · intro z
        have := sit3.hs.len
        rw [z] at this
        simp at this
      · have s5 := (s3.trans s4).trans (same_upd (o := .lst [V.int ((Sq68.where_ (pts ks) p : Nat) : Int)]) no)
        exact good p (by rw [q1 hok, hp1]) _ o c _ ks (k2.trans (Kn.of_same s5)) (sit2.same s5) hrow2 rfl ((k2.trans (Kn.of_same (s3.trans s4))).new no) upd_same
end
end Pg

set_option Elab.async false
set_option linter.all false
set_option maxRecDepth 100000
set_option maxHeartbeats 2000000
namespace Pg
open PySem PySem.Spec PyProof.Rows L2 OwR
open Hl (ori rg Good)
section
variable {P : Program} {w : World} {K : PySem.W.Frag} {mg : Str → Option Value} {base : Heap}
/-! ### a list of new points, one after the other -/
/-- at d stand the first i of L, in new tuples; what H1 had stands -/
def Grown (K : PySem.W.Frag) (H1 : Hp) (d : Addr) (L : List Pt) (i : Nat) (H' : Hp) : Prop := ∃ js : List AP, Same H1 H' ∧ H' d = some (.lst (refs js)) ∧ TPs K H' js ∧ pts js = L.take i
theorem Grown.start {H1 : Hp} {d : Addr} (L : List Pt) (h : H1 d = none) : Grown K H1 d L 0 (upd H1 d (.lst [])) := ⟨[], same_upd h, upd_same, fun k hk => absurd hk (by simp), by simp [pts]⟩
theorem Grown.same {H1 H' H'' : Hp} {d : Addr} {L : List Pt} {i : Nat} (g : Grown K H1 d L i H') (s : Same H' H'') : Grown K H1 d L i H'' := by
  obtain ⟨js, a, b, c, e⟩ := g
  exact ⟨js, a.trans s, s _ _ b, c.same s, e⟩
theorem Grown.sm {H1 H' : Hp} {d : Addr} {L : List Pt} {i : Nat} (g : Grown K H1 d L i H') : Same H1 H' := g.choose_spec.1
theorem Grown.next {H1 H' : Hp} {d T : Addr} {L : List Pt} {i : Nat} {v : Pt} (g : Grown K H1 d L i H') (nd : H1 d = none) (hl : L.length ≤ 100000) (gv : L[i]? = some v) (nT : H' T = none) :
    ∃ xs, (upd H' T (.tup (tupV v))) d = some (.lst xs) ∧ xs.length < sizeLine ∧ Grown K H1 d L (i + 1) (upd (upd H' T (.tup (tupV v))) d (.lst (xs ++ [.ref T]))) := by
  obtain ⟨js, sm, ho, hjs, ejs⟩ := g
  have noT : d ≠ T := ne_of_none ho nT
  have hoT : (upd H' T (.tup (tupV v))) d = some (.lst (refs js)) := by rw [upd_ne noT]; exact ho
  refine ⟨refs js, hoT, ?_, js ++ [(T, v)], same_upd' (sm.trans (same_upd nT)) nd, ?_, ?_, ?_⟩
  · have : (pts js).length ≤ L.length := by rw [ejs, List.length_take]; omega
    rw [pts_len] at this
    rw [refs_len]
    exact Nat.lt_of_le_of_lt (Nat.le_trans this hl) (by decide)
  · rw [upd_same, refs_append]
    rfl
  · intro k hk
    rcases List.mem_append.1 hk with h | h
    · exact sqT_upd hoT (same_sqT (same_upd nT) (hjs k h))
    · rw [List.mem_singleton.1 h]
      refine SqT.of ?_
      rw [upd_ne (Ne.symm noT), upd_same]
  · rw [pts_append, ejs, take_snoc gv]
    rfl
theorem Grown.whole {H1 H' : Hp} {d : Addr} {L : List Pt} {i : Nat} (g : Grown K H1 d L i H') (h : L.length ≤ i) : ∃ js : List AP, Same H1 H' ∧ H' d = some (.lst (refs js)) ∧ TPs K H' js ∧ pts js = L := by
  obtain ⟨js, a, b, c, e⟩ := g
  rw [List.take_of_length_le h] at e
  exact ⟨js, a, b, c, e⟩
theorem pts_get {ks : List AP} {i : Nat} {k : AP} (h : ks[i]? = some k) : (pts ks)[i]? = some k.2 := by unfold pts; rw [List.getElem?_map, h]; rfl
/-! ### seen_from(origin, points) -/
def spSeen (K : PySem.W.Frag) : Sp := fun vs H Q _ => ∃ (ta a : Addr) (o : Pt) (ks : List AP), vs = [.ref ta, .ref a] ∧ SqT K H ta (tupV o) ∧ SqL K H a (refs ks) ∧ TPs K H ks ∧ ks.length ≤ 1000 ∧
  ∀ (H' : Hp) (p : Addr) (js : List AP), Same H H' → H p = none → H' p = some (.lst (refs js)) → TPs K H' js → pts js = (pts ks).map (fun z => Sq68.sub z o) → Q (.ref p) H'
abbrev D_see (K : PySem.W.Frag) (mg : Str → Option Value) := DefF K mg "seen_from" s_seen_from ["origin", "points"]
theorem ok_see (D : D_see K mg) : FnOk P w K mg base CX0 1 D.f D.fd ["origin", "points"] (spSeen K) := by
  refine D.F.ok sc_seen_from (fun vs H Q E h => ?_) (fun cdv A outer s H vs Q E hr h => ?_)
  · obtain ⟨ta, a, o, ks, rfl, _⟩ := h
    rfl
  · obtain ⟨ta, a, o, ks, rfl, hO, hS, hT, hlen, q⟩ := h
    have nd := sc_seen_from.nd
    refine ⟨_, pss_one (ps_ret (pe_lc (own := [("x", 2), ("y", 3)]) (g := gPair K 2 3) (tt := tYes) (te := tTup (tCons (tOp rSubI (tVar 2) (ixT K 0 0)) (tCons (tOp rSubI (tVar 3) (ixT K 0 1)) tNil))) rfl nd (pi_list (pv 1))
      (blkOk_by (N := ["origin", "points", "x", "y"]) (sc := defScope s_seen_from) (by decide +kernel))
      (fun _ _ _ _ _ => pg_tup rfl (pgs_cons (pg_name (i := 2) nd rfl (.inl rfl)) (pgs_cons (pg_name (i := 3) nd rfl (.inl rfl)) pgs_nil))) (fun _ _ _ _ _ => pts_nil)
      (fun _ _ _ _ _ => pe_tup (pa_cons (pe_op op_sub (pv 2) (pe_ix ix_tup (pv 0) pe_int (fun _ _ => rfl))) (pa_cons (pe_op op_sub (pv 3) (pe_ix ix_tup (pv 0) pe_int (fun _ _ => rfl))) pa_nil))))), ?_⟩
    refine ⟨_, rfl, a, rfl, ⟨_, hS⟩, fun d nd1 => ?_⟩
    refine lc_list (K := K) (a := a) (xs := refs ks) (Grown K H d ((pts ks).map fun z => Sq68.sub z o)) (Grown.start _ nd1) (fun i H' _ g => g.sm.seq hS) ?_ ?_
    · rintro i y H' hi g
      obtain ⟨k, hk, rfl⟩ := refs_get hi
      have mk : k ∈ ks := List.mem_of_getElem? hk
      have sm := g.sm
      refine ⟨k.1, _, rfl, same_sqT sm (hT k mk), rfl, _, _, rfl, _, _, rfl, rfl, rfl, ?_⟩
      refine lc_yes ?_
      refine ⟨_, rfl, _, rfl, ta, _, _, _, rfl, rfl, same_sqT sm hO, atI_nat (j := 0) rfl, _, _, rfl, rfl, _, rfl, _, rfl, ta, _, _, _, rfl, rfl, same_sqT sm hO, atI_nat (j := 1) rfl, _, _, rfl, rfl, (by show 2 ≤ sizeLine; decide), fun T nT => ?_⟩
      exact g.next nd1 (by rw [List.length_map, pts_len]; omega) (v := Sq68.sub k.2 o) (by rw [List.getElem?_map, pts_get hk]; rfl) nT
    · rintro H' g
      obtain ⟨js, sm, ho, hjs, ejs⟩ := g.whole (by rw [List.length_map, pts_len, refs_len]; exact Nat.le_refl _)
      exact q H' d js sm nd1 ho hjs ejs
/-! ### width_across(corners, direction) -/
def spAcr (K : PySem.W.Frag) : Sp := fun vs H Q _ => ∃ (a td : Addr) (ks : List AP) (v : Pt), vs = [.ref a, .ref td] ∧ PolyAt K H a ks ∧ ks ≠ [] ∧ SqT K H td (tupV v) ∧ ∀ H', Same H H' → Q (.int (Sq68.across (pts ks) v)) H'
abbrev D_acr (K : PySem.W.Frag) (mg : Str → Option Value) := DefF K mg "width_across" s_width_across ["corners", "direction"]
theorem ok_acr (D : D_acr K mg) (B : Blt mg) : FnOk P w K mg base CX0 1 D.f D.fd ["corners", "direction"] (spAcr K) := by
  refine D.F.ok sc_width_across (fun vs H Q E h => ?_) (fun cdv A outer s H vs Q E hr h => ?_)
  · obtain ⟨a, td, ks, v, rfl, _⟩ := h
    rfl
  · obtain ⟨a, td, ks, v, rfl, ⟨hS, hT, hF, hlen⟩, hne, hV, q⟩ := h
    have nd := sc_width_across.nd
    refine ⟨_, pss_cons (ps_setLc (i := 2) (own := [("x", 3), ("y", 4)]) (g := gPair K 3 4) (tt := tYes) (te := tOp rAddI (tOp rMulI (ixT K 1 0) (tVar 3)) (tOp rMulI (ixT K 1 1) (tVar 4))) (by rfl) nd rfl rfl (sw_true rfl rfl rfl (by decide +kernel)) (pi_list (pv 0))
        (blkOk_by (N := ["corners", "direction", "values", "x", "y"]) (sc := defScope s_width_across) (by decide +kernel))
        (fun _ _ _ _ _ => pg_tup rfl (pgs_cons (pg_name (i := 3) nd rfl (.inl rfl)) (pgs_cons (pg_name (i := 4) nd rfl (.inl rfl)) pgs_nil))) (fun _ _ _ _ _ => pts_nil)
        (fun _ _ _ _ _ => pe_op op_add (pe_op op_mul (pe_ix ix_tup (pv 1) pe_int (fun _ _ => rfl)) (pv 3)) (pe_op op_mul (pe_ix ix_tup (pv 1) pe_int (fun _ _ => rfl)) (pv 4))))
      (pss_one (ps_ret (pe_op op_sub (pe_callB (cr_max rfl) (by rfl) B.max (by decide +kernel) (pa_cons (pv 2) pa_nil)) (pe_callB (cr_min rfl) (by rfl) B.min (by decide +kernel) (pa_cons (pv 2) pa_nil))))), ?_⟩
    refine ⟨_, rfl, a, rfl, ⟨_, hS⟩, fun d nd1 => ?_⟩
    refine lc_list (K := K) (a := a) (xs := refs ks) (fun i H' => Same H H' ∧ H' d = some (.lst ((ks.take i).map fun k => V.int (Sq68.dot v k.2))))
      ⟨same_upd nd1, upd_same⟩ (fun i H' _ ⟨sm, _⟩ => sm.seq hS) ?_ ?_
    · rintro i y H' hi ⟨sm, hd⟩
      obtain ⟨k, hk, rfl⟩ := refs_get hi
      have mk : k ∈ ks := List.mem_of_getElem? hk
      obtain ⟨⟨f1, f2⟩, f3, f4⟩ := hF k mk
      refine ⟨k.1, _, rfl, same_sqT sm (hT k mk), rfl, _, _, rfl, _, _, rfl, rfl, rfl, ?_⟩
      refine lc_yes ?_
      refine ⟨_, rfl, td, _, _, _, rfl, rfl, same_sqT sm hV, atI_nat (j := 0) rfl, _, rfl, _, _, rfl, rfl, .inr ⟨by omega, by omega⟩, _, rfl, td, _, _, _, rfl, rfl, same_sqT sm hV, atI_nat (j := 1) rfl, _, rfl, _, _, rfl, rfl, .inr ⟨by omega, by omega⟩, _, _, rfl, rfl, _, hd, ?_, same_upd' sm nd1, ?_⟩
      · rw [List.length_map, List.length_take]
        exact small1000 (by omega)
      · rw [upd_same]
        exact congrArg (fun z => some (HO.lst z)) (ints_snoc (fun k : AP => Sq68.dot v k.2) ks hk)
    rintro H1 ⟨s1, hd⟩
    rw [refs_len, List.take_length, map_ints] at hd
    have el : (ks.map fun k => Sq68.dot v k.2) = (pts ks).map (Sq68.dot v) := by unfold pts; rw [List.map_map]; rfl
    rw [el] at hd
    have hpos : 0 < ((pts ks).map (Sq68.dot v)).length := by
      rw [List.length_map, pts_len]
      exact List.length_pos_iff.2 hne
    refine ⟨_, rfl, d, _, rfl, SqL.of hd, hpos, fun M hM hge => ⟨_, rfl, d, _, rfl, SqL.of hd, hpos, fun m hm hle => ⟨_, _, rfl, rfl, ?_⟩⟩⟩
    have e : Sq68.across (pts ks) v = M - m := by
      unfold Sq68.across
      rw [Hl.max_of hM hge, Hl.min_of hm hle]
    have q := q H1 s1
    rw [e] at q
    exact q
/-! ### pairs_reaching(reach) -/
def spPairs (K : PySem.W.Frag) : Sp := fun vs H Q _ => ∃ (r : Int), vs = [.int r] ∧ 1 ≤ r ∧ r ≤ 1000 ∧
  ∀ (H' : Hp) (p : Addr) (js : List AP), Same H H' → H p = none → H' p = some (.lst (refs js)) → TPs K H' js → pts js = Hl.pairsR r → Q (.ref p) H'
abbrev D_prs (K : PySem.W.Frag) (mg : Str → Option Value) := DefF K mg "pairs_reaching" s_pairs_reaching ["reach"]
theorem ok_prs (D : D_prs K mg) (B : Blt mg) : FnOk P w K mg base CX0 1 D.f D.fd ["reach"] (spPairs K) := by
  refine D.F.ok sc_pairs_reaching (fun vs H Q E h => ?_) (fun cdv A outer s H vs Q E hr h => ?_)
  · obtain ⟨r, rfl, _⟩ := h
    rfl
  · obtain ⟨r, rfl, r1, r2, q⟩ := h
    have nd := sc_pairs_reaching.nd
    refine ⟨_, pss_one (ps_ret (pe_op op_cat
      (pe_lc (own := [("t", 1)]) (g := gName 1) (tt := tYes) (te := tTup (tCons (tVar 0) (tCons (tVar 1) tNil))) rfl nd (pi_range2 (by rfl) B.rng (pa_cons (pe_op op_sub pe_int (pv 0)) (pa_cons (pe_op op_add (pv 0) pe_int) pa_nil)))
        (blkOk_by (N := ["reach", "t", "s"]) (sc := defScope s_pairs_reaching) (by decide +kernel)) (fun _ _ _ _ _ => pg_name (i := 1) nd rfl (.inl rfl)) (fun _ _ _ _ _ => pts_nil) (fun _ _ _ _ _ => pe_tup (pa_cons (pv 0) (pa_cons (pv 1) pa_nil))))
      (pe_lc (own := [("s", 2)]) (g := gName 2) (tt := tYes) (te := tTup (tCons (tVar 2) (tCons (tVar 0) tNil))) rfl nd (pi_range2 (by rfl) B.rng (pa_cons (pe_un un_neg (pv 0)) (pa_cons (pv 0) pa_nil)))
        (blkOk_by (N := ["reach", "t", "s"]) (sc := defScope s_pairs_reaching) (by decide +kernel)) (fun _ _ _ _ _ => pg_name (i := 2) nd rfl (.inl rfl)) (fun _ _ _ _ _ => pts_nil) (fun _ _ _ _ _ => pe_tup (pa_cons (pv 2) (pa_cons (pv 0) pa_nil)))))), ?_⟩
    refine ⟨_, rfl, _, _, rfl, rfl, _, rfl, _, _, rfl, rfl, 1 - r, r + 1, rfl, ⟨by omega, by omega, by omega, by omega⟩, fun d nd1 => ?_⟩
    refine lc_it walk_range (Grown K H d ((rg (1 - r) (r + 1)).map fun t => (r, t))) (Grown.start _ nd1) (fun i H' _ _ => trivial) ?_ ?_
    · rintro i x H2 H3 hi g ⟨rfl, rfl⟩
      refine ⟨rfl, ?_⟩
      refine lc_yes ?_
      refine ⟨_, rfl, _, rfl, (by show 2 ≤ sizeLine; decide), fun T nT => ?_⟩
      exact g.next nd1 (by rw [List.length_map, rg_len]; omega) (v := (r, 1 - r + (i : Int))) (by rw [List.getElem?_map, rg_get hi]; rfl) nT
    rintro H1 g1
    obtain ⟨j1, s1, h1, t1, e1⟩ := g1.whole (by rw [List.length_map, rg_len]; exact Nat.le_refl _)
    refine ⟨_, rfl, _, rfl, _, rfl, -r, r, rfl, ⟨by omega, by omega, by omega, by omega⟩, fun d2 nd2 => ?_⟩
    refine lc_it walk_range (Grown K H1 d2 ((rg (-r) r).map fun t => (t, r))) (Grown.start _ nd2) (fun i H' _ _ => trivial) ?_ ?_
    · rintro i x H2 H3 hi g ⟨rfl, rfl⟩
      refine ⟨rfl, ?_⟩
      refine lc_yes ?_
      refine ⟨_, rfl, _, rfl, (by show 2 ≤ sizeLine; decide), fun T nT => ?_⟩
      exact g.next nd2 (by rw [List.length_map, rg_len]; omega) (v := (-r + (i : Int), r)) (by rw [List.getElem?_map, rg_get hi]; rfl) nT
    rintro H2 g2
    obtain ⟨j2, s2, h2, t2, e2⟩ := g2.whole (by rw [List.length_map, rg_len]; exact Nat.le_refl _)
    refine ⟨d, d2, refs j1, refs j2, rfl, rfl, s2 _ _ h1, h2, ?_, fun p np => ?_⟩
    · have a1 : j1.length = (r + 1 - (1 - r)).toNat := by rw [← pts_len, e1, List.length_map, rg_len]
      have a2 : j2.length = (r - -r).toNat := by rw [← pts_len, e2, List.length_map, rg_len]
      rw [refs_len, refs_len]
      exact Nat.le_trans (show _ ≤ 9000000 by omega) (by decide)
    · have s3 := same_upd (o := .lst (refs j1 ++ refs j2)) np
      refine q _ p (j1 ++ j2) ((s1.trans s2).trans s3) ((s1.trans s2).free np) (by rw [upd_same, refs_append]) ?_ ?_
      · intro k hk
        rcases List.mem_append.1 hk with z | z
        · exact same_sqT (s2.trans s3) (t1 k z)
        · exact same_sqT s3 (t2 k z)
      · rw [pts_append, e1, e2]
        rfl
/-! ### direction_rising(b, s, c, t) -/
def spRise (K : PySem.W.Frag) : Sp := fun vs H Q _ => ∃ (tb tc : Addr) (b c : Pt) (s t : Int), vs = [.ref tb, .int s, .ref tc, .int t] ∧ SqT K H tb (tupV b) ∧ SqT K H tc (tupV c) ∧ Fair b ∧ Fair c ∧ 0 < Sq68.cross b c ∧ Sq68.cross b c < 1000000000 ∧
  (Hl.dirR b c s t = none → Q .non H) ∧ (∀ v T, Hl.dirR b c s t = some v → H T = none → Q (.ref T) (upd H T (.tup (tupV v))))
abbrev D_ris (K : PySem.W.Frag) (mg : Str → Option Value) := DefF K mg "direction_rising" s_direction_rising ["b", "s", "c", "t"]
theorem ok_ris (D : D_ris K mg) (DX : D_crs K mg) : FnOk P w K mg base CX0 2 D.f D.fd ["b", "s", "c", "t"] (spRise K) := by
  have GX : FnOk P w K mg base CX0 1 DX.f DX.fd ["a", "b"] (spCross K) := ok_crs DX
  refine D.F.ok sc_direction_rising (fun vs H Q E h => ?_) (fun cdv A outer s H vs Q E hr h => ?_)
  · obtain ⟨tb, tc, b, c, s, t, rfl, _⟩ := h
    rfl
  · obtain ⟨tb, tc, b, c, s, t, rfl, hb, hc, fb, fc, c0, c1, non, som⟩ := h
    have nd := sc_direction_rising.nd
    refine ⟨_, pss_cons (ps_set (i := 4) nd rfl (.inl rfl) (pe_call GX hr (by rfl) DX.g DX.F.kp DX.b .nil pass0 (pa_cons (pv 0) (pa_cons (pv 2) pa_nil))))
      (pss_cons (ps_set (i := 5) nd rfl (.inl rfl) (pe_op op_sub (pe_op op_mul (pv 1) (pe_ix ix_tup (pv 2) pe_int (fun _ _ => rfl))) (pe_op op_mul (pv 3) (pe_ix ix_tup (pv 0) pe_int (fun _ _ => rfl)))))
      (pss_cons (ps_set (i := 6) nd rfl (.inl rfl) (pe_op op_sub (pe_op op_mul (pv 3) (pe_ix ix_tup (pv 0) pe_int (fun _ _ => rfl))) (pe_op op_mul (pv 1) (pe_ix ix_tup (pv 2) pe_int (fun _ _ => rfl)))))
      (pss_cons (ps_if (PW.pt (pw_or (pt_cmpR op_ne (pe_op op_mod (pv 5) (pv 4)) pe_int (nomark _)) (pw_or1 (pt_cmpR op_ne (pe_op op_mod (pv 6) (pv 4)) pe_int (nomark _))))) (pss_one (ps_ret pe_non)) pss_nil)
      (pss_cons (ps_if (PW.pt (pw_or (pt_cmpR op_lt (pv 5) pe_int (nomark _)) (pw_or1 (PW.pt (pw_and (pt_cmpR op_eq (pv 5) pe_int (nomark _)) (pw_and1 (pt_cmpR op_lt (pv 6) pe_int (nomark _)))))))) (pss_one (ps_ret (pe_tup (pa_cons (pe_op op_fdiv (pe_un un_neg (pv 5)) (pv 4)) (pa_cons (pe_op op_fdiv (pe_un un_neg (pv 6)) (pv 4)) pa_nil))))) pss_nil)
      (pss_one (ps_ret (pe_tup (pa_cons (pe_op op_fdiv (pv 5) (pv 4)) (pa_cons (pe_op op_fdiv (pv 6) (pv 4)) pa_nil))))))))), ?_⟩
    obtain ⟨⟨fb1, fb2⟩, fb3, fb4⟩ := fb
    obtain ⟨⟨fc1, fc2⟩, fc3, fc4⟩ := fc
    refine ⟨_, rfl, _, rfl, tb, tc, b, c, rfl, hb, hc, ⟨⟨fb1, fb2⟩, fb3, fb4⟩, ?_⟩
    have b0 : atI (tupV b) 0 = some (.int b.1) := atI_nat (j := 0) rfl
    have b1 : atI (tupV b) 1 = some (.int b.2) := atI_nat (j := 1) rfl
    have d0 : atI (tupV c) 0 = some (.int c.1) := atI_nat (j := 0) rfl
    have d1 : atI (tupV c) 1 = some (.int c.2) := atI_nat (j := 1) rfl
    refine ⟨_, rfl, _, rfl, tc, _, _, _, rfl, rfl, hc, d1, _, _, rfl, rfl, .inr ⟨by omega, by omega⟩, _, rfl, _, rfl, tb, _, _, _, rfl, rfl, hb, b1, _, _, rfl, rfl, .inr ⟨by omega, by omega⟩, _, _, rfl, rfl, ?_⟩
    refine ⟨_, rfl, _, rfl, tb, _, _, _, rfl, rfl, hb, b0, _, _, rfl, rfl, .inr ⟨by omega, by omega⟩, _, rfl, _, rfl, tc, _, _, _, rfl, rfl, hc, d0, _, _, rfl, rfl, .inr ⟨by omega, by omega⟩, _, _, rfl, rfl, ?_⟩
    have eR : Hl.dirR b c s t = if (s * c.2 - t * b.2) % Sq68.cross b c ≠ 0 ∨ (t * b.1 - s * c.1) % Sq68.cross b c ≠ 0 then none
      else if s * c.2 - t * b.2 < 0 ∨ (s * c.2 - t * b.2 = 0 ∧ t * b.1 - s * c.1 < 0) then some (-(s * c.2 - t * b.2) / Sq68.cross b c, -(t * b.1 - s * c.1) / Sq68.cross b c)
      else some ((s * c.2 - t * b.2) / Sq68.cross b c, (t * b.1 - s * c.1) / Sq68.cross b c) := rfl
    rw [eR] at non som
    refine ⟨_, rfl, _, rfl, _, _, rfl, rfl, c0, rfl, _, rfl, ?_⟩
    by_cases k1 : (s * c.2 - t * b.2) % Sq68.cross b c ≠ 0
    · refine ifT (by rw [neB]; exact decide_eq_true k1) ?_
      rw [if_pos (.inl k1)] at non
      dsimp only
      rw [if_pos rfl]
      exact non rfl
    refine ifF (by rw [neB]; exact decide_eq_false k1) ?_
    refine ⟨_, rfl, _, rfl, _, _, rfl, rfl, c0, rfl, _, rfl, ?_⟩
    by_cases k2 : (t * b.1 - s * c.1) % Sq68.cross b c ≠ 0
    · refine ifT (by rw [neB]; exact decide_eq_true k2) ?_
      rw [if_pos (.inr k2)] at non
      exact non rfl
    refine ifF (by rw [neB]; exact decide_eq_false k2) ?_
    rw [if_neg (by omega)] at som
    refine ⟨_, rfl, _, _, rfl, rfl, _, rfl, ?_⟩
    have neg : (s * c.2 - t * b.2 < 0 ∨ (s * c.2 - t * b.2 = 0 ∧ t * b.1 - s * c.1 < 0)) → ∀ T, H T = none → Q (.ref T) (upd H T (.tup (tupV (-(s * c.2 - t * b.2) / Sq68.cross b c, -(t * b.1 - s * c.1) / Sq68.cross b c)))) := fun z T nT => som _ T (by rw [if_pos z]) nT
    have pos : ¬ (s * c.2 - t * b.2 < 0 ∨ (s * c.2 - t * b.2 = 0 ∧ t * b.1 - s * c.1 < 0)) → ∀ T, H T = none → Q (.ref T) (upd H T (.tup (tupV ((s * c.2 - t * b.2) / Sq68.cross b c, (t * b.1 - s * c.1) / Sq68.cross b c)))) := fun z T nT => som _ T (by rw [if_neg z]) nT
    by_cases k3 : s * c.2 - t * b.2 < 0
    · refine ifT (decide_eq_true k3) ?_
      dsimp only
      rw [if_pos rfl]
      exact ⟨_, rfl, _, rfl, _, rfl, _, _, rfl, rfl, ⟨c0, by omega⟩, _, rfl, _, rfl, _, rfl, _, _, rfl, rfl, ⟨c0, by omega⟩, (by show 2 ≤ sizeLine; decide), fun T nT => neg (.inl k3) T nT⟩
    refine ifF (decide_eq_false k3) ?_
    refine ⟨_, rfl, rfl, _, rfl, ?_⟩
    by_cases k4 : s * c.2 - t * b.2 = 0
    · refine ifT (decide_eq_true (show V.int (s * c.2 - t * b.2) = V.int 0 by rw [k4])) ?_
      refine ⟨_, rfl, _, _, rfl, rfl, _, rfl, ?_⟩
      by_cases k5 : t * b.1 - s * c.1 < 0
      · refine ifT (decide_eq_true k5) ?_
        exact ⟨_, rfl, _, rfl, _, rfl, _, _, rfl, rfl, ⟨c0, by omega⟩, _, rfl, _, rfl, _, rfl, _, _, rfl, rfl, ⟨c0, by omega⟩, (by show 2 ≤ sizeLine; decide), fun T nT => neg (.inr ⟨k4, k5⟩) T nT⟩
      · refine ifF (decide_eq_false k5) ?_
        exact ⟨_, rfl, _, rfl, _, _, rfl, rfl, ⟨c0, by omega⟩, _, rfl, _, rfl, _, _, rfl, rfl, ⟨c0, by omega⟩, (by show 2 ≤ sizeLine; decide), fun T nT => pos (by omega) T nT⟩
    · refine ifF (decide_eq_false fun z => k4 (V.int.inj z)) ?_
      refine ifF (b := false) rfl ?_
      exact ⟨_, rfl, _, rfl, _, _, rfl, rfl, ⟨c0, by omega⟩, _, rfl, _, rfl, _, _, rfl, rfl, ⟨c0, by omega⟩, (by show 2 ≤ sizeLine; decide), fun T nT => pos (by omega) T nT⟩
end
end Pg

set_option Elab.async false
set_option linter.all false
set_option maxRecDepth 100000
set_option maxHeartbeats 2000000
namespace Pg
open PySem PySem.Spec PyProof.Rows L2 OwR
open Hl (ori rg Good)
section
variable {P : Program} {w : World} {K : PySem.W.Frag} {mg : Str → Option Value} {base : Heap}
/-- points in tuples of the heap's own -/
def NTs (H : Hp) (ks : List AP) : Prop := ∀ k ∈ ks, H k.1 = some (.tup (tupV k.2))
theorem NTs.tps {H : Hp} {ks : List AP} (h : NTs H ks) : TPs K H ks := fun k hk => SqT.of (h k hk)
theorem NTs.same {H H' : Hp} {ks : List AP} (h : NTs H ks) (s : Same H H') : NTs H' ks := fun k hk => s _ _ (h k hk)
theorem NTs.upd {H : Hp} {o : Addr} {xs ys : List V} {ks : List AP} (h : NTs H ks) (ho : H o = some (.lst xs)) : NTs (upd H o (.lst ys)) ks := fun k hk => by
  rw [upd_ne (ne_of (h k hk) ho (by intro z; cases z))]
  exact h k hk
/-- the numbers of a tuple in the heap -/
def numsAt (H : Hp) (x : V) : Int × Int := match x with
  | .ref t => match H t with
    | some (.tup [.int i, .int j]) => (i, j)
    | _ => (0, 0)
  | _ => (0, 0)
theorem numsAt_of {H : Hp} {k : AP} (h : H k.1 = some (.tup (tupV k.2))) : numsAt H (.ref k.1) = k.2 := by
  unfold numsAt
  simp only
  rw [h]
  rfl
theorem sub_refs {fs : List AP} : ∀ ys : List V, (∀ y ∈ ys, y ∈ refs fs) → ∃ ms : List AP, ys = refs ms ∧ ∀ k ∈ ms, k ∈ fs
  | [], _ => ⟨[], rfl, fun k hk => absurd hk (by simp)⟩
  | y :: ys, h => by
    obtain ⟨k, hk, e⟩ := List.mem_map.1 (h y (by simp))
    obtain ⟨ms, e1, e2⟩ := sub_refs ys fun z hz => h z (List.mem_cons_of_mem _ hz)
    refine ⟨k :: ms, by rw [← e, e1]; rfl, fun z hz => ?_⟩
    rcases List.mem_cons.1 hz with q | q
    · rw [q]; exact hk
    · exact e2 z q
/-- sorted points, none twice: the one list in order -/
theorem sorted_lex {H : Hp} {fs : List AP} {ys : List V} {W : List Pt} (hN : NTs H fs) (nd : (pts fs).Nodup) (pm : ys.Perm (refs fs)) (st : ys.Pairwise fun x y => SrtO.lexB (numsAt H y) (numsAt H x) = false) (hW : W.Pairwise Hl.Lex) (mem : ∀ v, v ∈ pts fs ↔ v ∈ W) :
    ∃ ms : List AP, ys = refs ms ∧ (∀ k ∈ ms, k ∈ fs) ∧ pts ms = W := by
  obtain ⟨ms, e, sub⟩ := sub_refs ys fun y hy => pm.mem_iff.1 hy
  have val : ∀ k ∈ fs, numsAt H (.ref k.1) = k.2 := fun k hk => numsAt_of (hN k hk)
  have hp : (pts ms).Perm (pts fs) := by
    have := pm.map (numsAt H)
    rw [e] at this
    unfold refs at this
    rw [List.map_map, List.map_map] at this
    unfold pts
    rw [show ms.map (fun k => k.2) = ms.map (numsAt H ∘ fun k => V.ref k.1) from List.map_congr_left fun k hk => (val k (sub k hk)).symm, show fs.map (fun k => k.2) = fs.map (numsAt H ∘ fun k => V.ref k.1) from List.map_congr_left fun k hk => (val k hk).symm]
    exact this
  refine ⟨ms, e, sub, Hl.lex_unique ?_ hW fun v => (hp.mem_iff).trans (mem v)⟩
  have nd' : (pts ms).Nodup := hp.nodup_iff.2 nd
  rw [e] at st
  unfold refs at st
  rw [List.pairwise_map] at st
  unfold pts at nd' ⊢
  rw [List.Nodup, List.pairwise_map] at nd'
  rw [List.pairwise_map]
  refine List.Pairwise.imp_of_mem (fun {a b} ha hb h => ?_) (nd'.and st)
  obtain ⟨h1, h2⟩ := h
  rw [val a (sub a ha), val b (sub b hb)] at h2
  have h2 := SrtO.lexB_no.1 h2
  have h3 : ¬ (a.2.1 = b.2.1 ∧ a.2.2 = b.2.2) := fun z => h1 (Prod.ext z.1 z.2)
  unfold Hl.Lex
  omega
/-! ### narrowest_directions(corners) -/
def spNar (K : PySem.W.Frag) : Sp := fun vs H Q _ => ∃ (a : Addr) (ks : List AP), vs = [.ref a] ∧ HouseAt K H a ks ∧
  ∀ (H' : Hp) (p : Addr) (js : List AP), Same H H' → H p = none → H' p = some (.lst (refs js)) → TPs K H' js → pts js = (Sq68.width (pts ks)).2 → js.length ≤ 100000 → Q (.ref p) H'
abbrev D_nar (K : PySem.W.Frag) (mg : Str → Option Value) := DefF K mg "narrowest_directions" s_narrowest_directions ["corners"]
theorem three_of {ks : List AP} (h : 3 ≤ ks.length) : ∃ k0 k1 k2 r, ks = k0 :: k1 :: k2 :: r := by
  match ks, h with
  | k0 :: k1 :: k2 :: r, _ => exact ⟨k0, k1, k2, r, rfl⟩
theorem across_le {c : List Pt} (S : ∀ p ∈ c, Hl.Small p) (hc : c ≠ []) : Sq68.across c (1, 0) ≤ 40 := by
  obtain ⟨p, hp, q, hq, e, _, _⟩ := Hl.across_ex hc (1, 0)
  obtain ⟨⟨_, _⟩, _, _⟩ := S p hp
  obtain ⟨⟨_, _⟩, _, _⟩ := S q hq
  rw [e]
  unfold Sq68.dot
  simp only
  omega
theorem sb_sqT {r : Addr} {H H' : Hp} {xs zs : List V} {b : Addr} (s : SB r H H') (hr : H r = some (.lst xs)) (h : SqT K H b zs) : SqT K H' b zs := by
  rcases h with (h | ⟨u, h⟩) | ⟨h1, h2⟩
  · exact .inl (.inl (s _ _ (ne_of h hr (by intro z; cases z)) h))
  · exact .inl (.inr ⟨u, s _ _ (ne_of h hr (by intro z; cases z)) h⟩)
  · exact .inr ⟨h1, h2⟩
/-- as the list of what is found stands, and what is known of it -/
structure NarAt (K : PySem.W.Frag) (H1 : Hp) (c : List Pt) (b d : Pt) (L : List Pt) (H' : Hp) (fo : Addr) (wd : Int) (fs : List AP) : Prop where
  new : H1 fo = none
  sm : Same H1 H'
  at_ : H' fo = some (.lst (refs fs))
  nt : NTs H' fs
  seen : Hl.Seen c b d L wd (pts fs)
  few : fs.length ≤ L.length
theorem NarAt.same {H1 H' H'' : Hp} {c : List Pt} {b d : Pt} {L : List Pt} {fo : Addr} {wd : Int} {fs : List AP} (n : NarAt K H1 c b d L H' fo wd fs) (s : Same H' H'') : NarAt K H1 c b d L H'' fo wd fs := ⟨n.new, n.sm.trans s, s _ _ n.at_, n.nt.same s, n.seen, n.few⟩
theorem allP_len (n : Nat) : (Hl.allP n).length ≤ 4 * n * n := by
  induction n with
  | zero => simp [Hl.allP]
  | succ n ih =>
    rw [Hl.allP_succ, List.length_append, Hl.pairsR_len (by omega)]
    have : ((n : Int) + 1).toNat = n + 1 := by omega
    rw [this]
    have e : 4 * (n + 1) * (n + 1) = 4 * n * n + 8 * n + 4 := by
      rw [Nat.mul_add, Nat.mul_add, Nat.add_mul]
      simp only [Nat.mul_one, Nat.mul_assoc]
      omega
    omega
theorem ok_nar (D : D_nar K mg) (DS : D_see K mg) (DA : D_acr K mg) (DP : D_prs K mg) (DR : D_ris K mg) (DX : D_crs K mg) (B : Blt mg) : FnOk P w K mg base CX0 3 D.f D.fd ["corners"] (spNar K) := by
  have GS : FnOk P w K mg base CX0 1 DS.f DS.fd ["origin", "points"] (spSeen K) := ok_see DS
  have GA : FnOk P w K mg base CX0 1 DA.f DA.fd ["corners", "direction"] (spAcr K) := ok_acr DA B
  have GP : FnOk P w K mg base CX0 1 DP.f DP.fd ["reach"] (spPairs K) := ok_prs DP B
  have GR : FnOk P w K mg base CX0 2 DR.f DR.fd ["b", "s", "c", "t"] (spRise K) := ok_ris DR DX
  refine D.F.ok sc_narrowest_directions (fun vs H Q E h => ?_) (fun cdv A outer s H vs Q E hr h => ?_)
  · obtain ⟨a, ks, rfl, _⟩ := h
    rfl
  · obtain ⟨a, ks, rfl, hh, q⟩ := h
    have nd := sc_narrowest_directions.nd
    have hr1 : Room 1 _ := hr.mono (by decide)
    refine ⟨_, pss_cons (ps_set (i := 1) nd rfl (.inl rfl) (pe_call GS hr1 (by rfl) DS.g DS.F.kp DS.b .nil pass0 (pa_cons (pe_ix ix_list (pv 0) pe_int (fun _ _ => rfl)) (pa_cons (pv 0) pa_nil))))
      (pss_cons (ps_set (i := 2) nd rfl (.inl rfl) (pe_call GA hr1 (by rfl) DA.g DA.F.kp DA.b .nil pass0 (pa_cons (pv 0) (pa_cons (pe_tup (pa_cons pe_int (pa_cons pe_int pa_nil))) pa_nil))))
      (pss_cons (ps_set (i := 3) nd rfl (.inl rfl) (pe_lst pa_nil))
      (pss_cons (ps_set (i := 4) nd rfl (.inl rfl) pe_int)
      (pss_cons (ps_while PassesOwn.never (pt_cmpR op_le (pv 4) (pv 2) (nomark _))
        (pss_cons (ps_for PassesOwn.never rfl (pi_list (pe_call GP hr1 (by rfl) DP.g DP.F.kp DP.b .nil pass0 (pa_cons (pv 4) pa_nil))) (pg_tup rfl (pgs_cons (pg_name (i := 5) nd rfl (.inl rfl)) (pgs_cons (pg_name (i := 6) nd rfl (.inl rfl)) pgs_nil)))
          (pss_cons (ps_set (i := 7) nd rfl (.inl rfl) (pe_call GR hr (by rfl) DR.g DR.F.kp DR.b .nil pass0 (pa_cons (pe_ix ix_list (pv 1) pe_int (fun _ _ => rfl)) (pa_cons (pv 5) (pa_cons (pe_ix ix_list (pv 1) pe_int (fun _ _ => rfl)) (pa_cons (pv 6) pa_nil))))))
          (pss_cons (ps_if (pt_cmpR op_isN (pv 7) pe_non (nomark _)) (pss_one ps_continue) pss_nil)
          (pss_cons (ps_set (i := 8) nd rfl (.inl rfl) (pe_call GA hr1 (by rfl) DA.g DA.F.kp DA.b .nil pass0 (pa_cons (pv 0) (pa_cons (pv 7) pa_nil))))
          (pss_cons (ps_if (pt_cmpR op_lt (pv 8) (pv 2) (nomark _)) (pss_cons (ps_set (i := 2) nd rfl (.inl rfl) (pv 8)) (pss_one (ps_set (i := 3) nd rfl (.inl rfl) (pe_lst pa_nil)))) pss_nil)
          (pss_one (ps_if (pt_cmpR op_eq (pv 8) (pv 2) (nomark _)) (pss_one (ps_expr (pe_bm PySem.F.plainAttrs_list PySem.F.slot_list_append PySem.F.type_list_append mt_append (pv 3) (pa_cons (pv 7) pa_nil)))) pss_nil)))))))
        (pss_one (ps_aug (i := 4) nd rfl (.inl rfl) pe_int ip_add))))
      (pss_one (ps_ret (pe_callB cr_sortedPO (by rfl) B.srt (by decide +kernel) (pa_cons (pv 3) pa_nil)))))))), ?_⟩
    obtain ⟨k0, k1, k2, r, eks⟩ := three_of hh.len.1
    have hpoly := hh.poly
    have G := hh.2.2
    have hne : ks ≠ [] := by rw [eks]; simp
    have hne' : pts ks ≠ [] := by rw [eks]; simp [pts]
    have m0 : k0 ∈ ks := by rw [eks]; simp
    have l12 := hh.len.2
    have g0 : (refs ks)[0]? = some (.ref k0.1) := by rw [eks]; rfl
    refine ⟨_, rfl, a, _, _, .ref k0.1, rfl, rfl, hh.1, atI_nat (j := 0) g0, _, rfl, k0.1, a, k0.2, ks, rfl, hh.2.1 k0 m0, hh.1, hh.2.1, by omega, fun H1 sa js s1 nsa hsa hjs ejs => ?_⟩
    -- least = width_across(corners, (1, 0))
    refine ⟨_, rfl, (by show 2 ≤ sizeLine; decide), fun T1 nT1 => ?_⟩
    have sT := s1.trans (same_upd (o := .tup [V.int 1, V.int 0]) nT1)
    refine ⟨a, T1, ks, (1, 0), rfl, hpoly.same sT, hne, SqT.of upd_same, fun H2 s2 => ?_⟩
    have sH2 : Same H H2 := sT.trans s2
    have hsa2 : H2 sa = some (.lst (refs js)) := s2 _ _ (same_upd nT1 _ _ hsa)
    have hjs2 : TPs K H2 js := (hjs.same (same_upd nT1)).same s2
    -- the two corners that are followed
    obtain ⟨j0, j1, j2, jr, ejs0⟩ : ∃ j0 j1 j2 jr, js = j0 :: j1 :: j2 :: jr := three_of (by rw [← pts_len js, ejs, List.length_map, pts_len]; exact hh.len.1)
    have ptk : pts ks = k0.2 :: k1.2 :: k2.2 :: pts r := by rw [eks]; rfl
    have e12 : j1.2 = Sq68.sub k1.2 k0.2 ∧ j2.2 = Sq68.sub k2.2 k0.2 := by
      rw [ptk, ejs0] at ejs
      have e1 := (List.cons.inj ejs).2
      have e2 := (List.cons.inj e1).2
      exact ⟨(List.cons.inj e1).1, (List.cons.inj e2).1⟩
    have mj1 : j1 ∈ js := by rw [ejs0]; simp
    have mj2 : j2 ∈ js := by rw [ejs0]; simp
    have gj1 : (refs js)[1]? = some (.ref j1.1) := by rw [ejs0]; rfl
    have gj2 : (refs js)[2]? = some (.ref j2.1) := by rw [ejs0]; rfl
    have small : ∀ k ∈ ks, Hl.Small k.2 := hh.tame
    have fair12 : Fair j1.2 ∧ Fair j2.2 ∧ Sq68.cross j1.2 j2.2 < 1000000000 := by
      obtain ⟨⟨_, _⟩, _, _⟩ := small k0 m0
      obtain ⟨⟨_, _⟩, _, _⟩ := small k1 (by rw [eks]; simp)
      obtain ⟨⟨_, _⟩, _, _⟩ := small k2 (by rw [eks]; simp)
      rw [e12.1, e12.2]
      unfold Sq68.sub
      refine ⟨⟨⟨by simp only; omega, by simp only; omega⟩, by simp only; omega, by simp only; omega⟩, ⟨⟨by simp only; omega, by simp only; omega⟩, by simp only; omega, by simp only; omega⟩, ?_⟩
      unfold Sq68.cross
      simp only
      have b1 : ∀ x y : Int, -40 ≤ x → x ≤ 40 → -40 ≤ y → y ≤ 40 → x * y ≤ 1600 ∧ -1600 ≤ x * y := fun x y h1 h2 h3 h4 => by
        have t1 := Int.mul_nonneg (show 0 ≤ 40 - x by omega) (show 0 ≤ 40 - y by omega)
        have t2 := Int.mul_nonneg (show 0 ≤ 40 + x by omega) (show 0 ≤ 40 + y by omega)
        have t3 := Int.mul_nonneg (show 0 ≤ 40 - x by omega) (show 0 ≤ 40 + y by omega)
        have t4 := Int.mul_nonneg (show 0 ≤ 40 + x by omega) (show 0 ≤ 40 - y by omega)
        have u1 : (40 - x) * (40 - y) = 1600 - 40 * x - 40 * y + x * y := by grind
        have u2 : (40 + x) * (40 + y) = 1600 + 40 * x + 40 * y + x * y := by grind
        have u3 : (40 - x) * (40 + y) = 1600 - 40 * x + 40 * y - x * y := by grind
        have u4 : (40 + x) * (40 - y) = 1600 + 40 * x - 40 * y - x * y := by grind
        omega
      have v1 := b1 (k1.2.1 - k0.2.1) (k2.2.2 - k0.2.2) (by omega) (by omega) (by omega) (by omega)
      have v2 := b1 (k1.2.2 - k0.2.2) (k2.2.1 - k0.2.1) (by omega) (by omega) (by omega) (by omega)
      omega
    have crs0 : 0 < Sq68.cross j1.2 j2.2 := by
      obtain ⟨a', b', d', l', e, h⟩ := G.ct.first (u := []) (v := pts ks) (r := pts ks) (by simp) G.three
      rw [ptk] at e
      injection e with e1 e2
      injection e2 with e2 e3
      injection e3 with e3 _
      have : Sq68.cross j1.2 j2.2 = ori k0.2 k1.2 k2.2 := by rw [e12.1, e12.2]; unfold Sq68.cross Sq68.sub ori; grind
      rw [this, e1, e2, e3]
      exact h
    have w40 := across_le G.small hne'
    -- found = []
    refine ⟨Nat.zero_le _, fun fo0 nfo0 => ?_⟩
    have sf0 : Same H2 (upd H2 fo0 (.lst [])) := same_upd nfo0
    have st0 : NarAt K H2 (pts ks) j1.2 j2.2 (Hl.allP 0) (upd H2 fo0 (.lst [])) fo0 (Sq68.across (pts ks) (1, 0)) [] :=
      ⟨nfo0, sf0, upd_same, (fun k hk => absurd hk (by simp)), Hl.Seen.start _ _ _, Nat.zero_le _⟩
    refine ⟨fun m σ H' => ∃ (n : Nat) (fo : Addr) (wd : Int) (fs : List AP) (v5 v6 v7 v8 : Option V), m = 50 - n ∧ n ≤ 40 ∧ σ = [some (.ref a), some (.ref sa), some (.int wd), some (.ref fo), some (.int ((n : Int) + 1)), v5, v6, v7, v8] ∧ NarAt K H2 (pts ks) j1.2 j2.2 (Hl.allP n) H' fo wd fs,
      ⟨_, 0, fo0, _, [], none, none, none, none, rfl, by omega, rfl, st0⟩, ?_⟩
    rintro m σ H' ⟨n, fo, wd, fs, v5, v6, v7, v8, rfl, hn, rfl, N⟩
    have low := N.seen.low
    refine ⟨_, rfl, _, rfl, _, _, rfl, rfl, _, rfl, ?_⟩
    by_cases c : (n : Int) + 1 ≤ wd
    · refine ifT (decide_eq_true c) ?_
      refine ⟨fun σ' H'' => ∃ (fo : Addr) (wd : Int) (fs : List AP) (v5 v6 v7 v8 : Option V), σ' = [some (.ref a), some (.ref sa), some (.int wd), some (.ref fo), some (.int (((n + 1 : Nat) : Int) + 1)), v5, v6, v7, v8] ∧ NarAt K H2 (pts ks) j1.2 j2.2 (Hl.allP (n + 1)) H'' fo wd fs,
        fun σ' H'' ⟨fo, wd, fs, v5, v6, v7, v8, e1, e2⟩ => ⟨_, (by omega : 50 - (n + 1) < 50 - n), n + 1, fo, wd, fs, v5, v6, v7, v8, rfl, by omega, e1, e2⟩, ?_⟩
      -- for s, t in pairs_reaching(reach)
      refine ⟨_, rfl, _, rfl, by omega, by omega, fun H3 pa ps s3 npa hpa hps eps => ?_⟩
      have N3 := N.same s3
      have nfp : fo ≠ pa := ne_of_none N.at_ npa
      have eall := Hl.allP_succ n
      have ap : (Hl.allP n ++ pts ps).Pairwise Hl.Apart := by rw [eps, ← eall]; exact Hl.allP_apart (n + 1)
      have lps : ps.length ≤ 160 := by
        have := Hl.pairsR_len (r := (n : Int) + 1) (by omega)
        rw [← eps, pts_len] at this
        omega
      have lall := allP_len n
      have n40 : 4 * n * n ≤ 4 * 40 * 40 := Nat.mul_le_mul (Nat.mul_le_mul_left _ hn) hn
      refine ⟨pa, rfl, ⟨_, SqL.of hpa⟩, for_list (K := K) (a := pa) (xs := refs ps) (fun i σ H' => ∃ (fo' : Addr) (wd : Int) (fs : List AP) (v5 v6 v7 v8 : Option V), σ = [some (.ref a), some (.ref sa), some (.int wd), some (.ref fo'), some (.int ((n : Int) + 1)), v5, v6, v7, v8] ∧
          NarAt K H2 (pts ks) j1.2 j2.2 (Hl.allP n ++ (pts ps).take i) H' fo' wd fs ∧ SB fo H3 H' ∧ (fo' = fo ∨ H3 fo' = none))
        ⟨fo, wd, fs, v5, v6, v7, v8, rfl, (by rw [List.take_zero, List.append_nil]; exact N3), SB.of_same (Same.refl _), .inl rfl⟩ (fun i σ H' _ ⟨_, _, _, _, _, _, _, _, _, sb, _⟩ => SqL.of (sb _ _ (Ne.symm nfp) hpa)) ?_ ?_⟩
      · rintro i y σ H4 hi ⟨fo', wd, fs, v5, v6, v7, v8, rfl, N4, sb, hfo⟩
        obtain ⟨x, hx, rfl⟩ := refs_get hi
        have mx : x ∈ ps := List.mem_of_getElem? hx
        have gx := pts_get hx
        have apx : ((Hl.allP n ++ (pts ps).take i) ++ [x.2]).Pairwise Hl.Apart := by
          rw [List.append_assoc, ← take_snoc gx]
          exact List.Pairwise.sublist ((List.Sublist.refl _).append (List.take_sublist _ _)) ap
        have enext : Hl.allP n ++ (pts ps).take (i + 1) = (Hl.allP n ++ (pts ps).take i) ++ [x.2] := by rw [take_snoc gx, List.append_assoc]
        have tx : SqT K H4 x.1 (tupV x.2) := sb_sqT sb N3.at_ (hps x mx)
        have hsa4 := N4.sm _ _ hsa2
        have hjs4 : TPs K H4 js := hjs2.same N4.sm
        have hpoly4 : PolyAt K H4 a ks := hpoly.same (sH2.trans N4.sm)
        refine ⟨x.1, _, rfl, tx, rfl, _, _, rfl, _, _, rfl, rfl, ?_⟩
        refine ⟨_, rfl, sa, _, _, _, rfl, rfl, SqL.of hsa4, atI_nat (j := 1) gj1, _, rfl, _, rfl, sa, _, _, _, rfl, rfl, SqL.of hsa4, atI_nat (j := 2) gj2, _, rfl, j1.1, j2.1, j1.2, j2.2, x.2.1, x.2.2, rfl, hjs4 j1 mj1, hjs4 j2 mj2, fair12.1, fair12.2.1, crs0, fair12.2.2, fun hnone => ?_, fun v T hsome nT => ?_⟩
        · refine ⟨_, rfl, rfl, _, rfl, ?_⟩
          refine ifT (b := true) rfl ?_
          exact ⟨fo', wd, fs, _, _, _, _, rfl, by rw [enext]; exact ⟨N4.new, N4.sm, N4.at_, N4.nt, N4.seen.none hnone, by rw [List.length_append]; have := N4.few; omega⟩, sb, hfo⟩
        · refine ⟨_, rfl, rfl, _, rfl, ?_⟩
          refine ifF (b := false) rfl ?_
          have sT4 : Same H4 (upd H4 T (.tup (tupV v))) := same_upd nT
          refine ⟨_, rfl, _, rfl, a, T, ks, v, rfl, hpoly4.same sT4, hne, SqT.of upd_same, fun H5 s5 => ?_⟩
          have s45 : Same H4 H5 := sT4.trans s5
          have hT5 : H5 T = some (.tup (tupV v)) := s5 _ _ upd_same
          have N5 := N4.same s45
          have sb5 : SB fo H3 H5 := fun b o hb e => s45 _ _ (sb b o hb e)
          have free3 : ∀ o, H5 o = none → H3 o = none ∨ o = fo := fun o ho => by
            by_cases z : o = fo
            · exact .inr z
            · left
              cases h3 : H3 o with
              | none => rfl
              | some u => rw [sb5 o u z h3] at ho; cases ho
          refine ⟨_, rfl, _, rfl, _, _, rfl, rfl, _, rfl, ?_⟩
          have put : ∀ (H6 : Hp) (fo6 : Addr) (wd6 : Int) (fs6 : List AP), NarAt K H2 (pts ks) j1.2 j2.2 (Hl.allP n ++ (pts ps).take i) H6 fo6 wd6 fs6 → True := fun _ _ _ _ _ => trivial
          by_cases k1 : Sq68.across (pts ks) v < wd
          · refine ifT (decide_eq_true k1) ?_
            refine ⟨_, rfl, Nat.zero_le _, fun fn nfn => ?_⟩
            refine ⟨_, rfl, _, rfl, rfl, _, rfl, ?_⟩
            refine ifT (decide_eq_true rfl) ?_
            have sn : Same H5 (upd H5 fn (.lst [])) := same_upd nfn
            refine ⟨_, rfl, .inl ⟨rfl, _, SqL.of upd_same⟩, _, rfl, fn, _, _, rfl, rfl, upd_same, (by show 0 < sizeLine; decide), ?_⟩
            rw [upd_twice]
            have nTf : T ≠ fn := ne_of_none hT5 nfn
            have sn2 : Same H5 (upd H5 fn (.lst ([] ++ [V.ref T]))) := same_upd nfn
            refine ⟨fn, _, [(T, v)], _, _, _, _, rfl, ?_, ?_, ?_⟩
            · rw [enext]
              refine ⟨N5.sm.free nfn, N5.sm.trans sn2, by rw [upd_same]; rfl, fun k hk => ?_, N5.seen.less hsome k1, by rw [List.length_append, List.length_singleton, List.length_singleton]; omega⟩
              rw [List.mem_singleton.1 hk]
              exact sn2 _ _ hT5
            · intro b o hb e
              exact sn2 _ _ (sb5 b o hb e)
            · rcases free3 fn nfn with z | z
              · exact .inr z
              · exact .inl z
          · refine ifF (decide_eq_false k1) ?_
            refine ⟨_, rfl, _, rfl, rfl, _, rfl, ?_⟩
            by_cases k2 : Sq68.across (pts ks) v = wd
            · refine ifT (decide_eq_true (by rw [k2])) ?_
              have few := N5.few
              refine ⟨_, rfl, .inl ⟨rfl, _, SqL.of N5.at_⟩, _, rfl, fo', _, _, rfl, rfl, N5.at_, ?_, ?_⟩
              · rw [refs_len]
                rw [List.length_append, List.length_take, pts_len] at few
                exact Nat.lt_of_le_of_lt (show _ ≤ 100000 by omega) (by decide)
              · refine ⟨fo', wd, fs ++ [(T, v)], _, _, _, _, rfl, ?_, ?_, hfo⟩
                · rw [enext]
                  refine ⟨N5.new, same_upd' N5.sm N5.new, by rw [upd_same, refs_append]; rfl, fun k hk => ?_, ?_, ?_⟩
                  · rcases List.mem_append.1 hk with z | z
                    · exact N5.nt.upd N5.at_ k z
                    · rw [List.mem_singleton.1 z, upd_ne (ne_of hT5 N5.at_ (by intro z; cases z))]
                      exact hT5
                  · rw [pts_append]
                    exact N5.seen.same crs0 apx hsome k2
                  · rw [List.length_append, List.length_append]
                    simp only [List.length_singleton]
                    omega
                · intro b o hb e
                  rcases hfo with z | z
                  · rw [z, upd_ne hb]
                    exact sb5 b o hb e
                  · rw [upd_ne (fun y => by rw [y, z] at e; cases e)]
                    exact sb5 b o hb e
            · refine ifF (decide_eq_false fun z => k2 (V.int.inj z)) ?_
              exact ⟨fo', wd, fs, _, _, _, _, rfl, by rw [enext]; exact ⟨N5.new, N5.sm, N5.at_, N5.nt, N5.seen.more hsome (by omega), by rw [List.length_append]; have := N5.few; omega⟩, sb5, hfo⟩
      · rintro σ H4 ⟨fo', wd, fs, v5, v6, v7, v8, rfl, N4, sb, hfo⟩
        rw [show (refs ps).length = (pts ps).length by rw [refs_len, pts_len], List.take_length, eps, ← eall] at N4
        refine ⟨_, rfl, _, _, rfl, rfl, fo', wd, fs, v5, v6, v7, v8, ?_, N4⟩
        rw [show ((n + 1 : Nat) : Int) + 1 = (n : Int) + 1 + 1 by omega]
        rfl
    · refine ifF (decide_eq_false c) ?_
      have fin := Hl.Seen.fin (a := k0.2) (x := k1.2) (y := k2.2) (l := pts r) (w := wd) (fd := pts fs) (n := n) (by rw [← ptk]; exact G) (by rw [← ptk, ← e12.1, ← e12.2]; exact N.seen) (by omega)
      rw [← ptk] at fin
      have few := N.few
      have lall := allP_len n
      have n40 : 4 * n * n ≤ 4 * 40 * 40 := Nat.mul_le_mul (Nat.mul_le_mul_left _ hn) hn
      refine ⟨_, rfl, fo, refs fs, numsAt H', rfl, SqL.of N.at_, fun x hx => ?_, fun ys p st sb np => ?_⟩
      · obtain ⟨k, hk, rfl⟩ := List.mem_map.1 hx
        refine ⟨k.1, rfl, ?_⟩
        rw [numsAt_of (N.nt k hk)]
        exact N.nt k hk
      · obtain ⟨ms, e, sub, ems⟩ := sorted_lex N.nt N.seen.nd sb.perm st (Hl.width_ok G).2.2.1 fin.2
        have sp : Same H' (upd H' p (.lst ys)) := same_upd np
        refine q _ p ms ((sH2.trans N.sm).trans sp) ((sH2.trans N.sm).free np) (by rw [upd_same, e]) (fun k hk => SqT.of (sp _ _ (N.nt k (sub k hk)))) ems ?_
        have : ms.length = fs.length := by rw [← refs_len ms, ← e, sb.perm.length_eq, refs_len]
        omega
end
end Pg

set_option Elab.async false
set_option linter.all false
set_option maxRecDepth 100000
set_option maxHeartbeats 200000
/-! min of a list of rows of points; == of two rows of points -/
namespace Pg
open PySem PySem.Spec PyProof.Rows L2
abbrev Row := List (Int × Int)
theorem holds_inj {h : Heap} : ∀ {vs : List Value} {xs ys : Row}, PySem.W.HoldAll h vs xs → PySem.W.HoldAll h vs ys → xs = ys
  | [], xs, ys, a, b => by
    have h1 := a.length
    have h2 := b.length
    rw [List.length_eq_zero_iff.1 h1.symm, List.length_eq_zero_iff.1 h2.symm]
  | v :: vs, [], _, a, _ => by have := a.length; simp at this
  | v :: vs, _ :: _, [], _, b => by have := b.length; simp at this
  | v :: vs, x :: xs, y :: ys, a, b => by
    obtain ⟨a1, a2⟩ := a.head
    obtain ⟨b1, b2⟩ := b.head
    have e : x = y := by
      obtain ⟨l, u, w, rfl, hl, hu, hw⟩ := PySem.W.pair_of_holds a1
      obtain ⟨l', u', w', e, hl', hu', hw'⟩ := PySem.W.pair_of_holds b1
      cases e
      obtain ⟨o, ho, hc, n, hd⟩ := hl
      obtain ⟨o', ho', hc', n', hd'⟩ := hl'
      have e1 := Option.some.inj (ho.symm.trans ho')
      subst e1
      have e2 := hd.symm.trans hd'
      injection e2 with e3 _
      have e4 := congrArg Array.toList e3
      simp only at e4
      injection e4 with e5 e6
      injection e6 with e6 _
      subst e5 e6
      obtain ⟨t1, q1⟩ := PySem.W.int_of_holds hu
      obtain ⟨t2, q2⟩ := PySem.W.int_of_holds hu'
      obtain ⟨t3, q3⟩ := PySem.W.int_of_holds hw
      obtain ⟨t4, q4⟩ := PySem.W.int_of_holds hw'
      have r1 := q1.symm.trans q2
      have r2 := q3.symm.trans q4
      injection r1 with r1 _
      injection r2 with r2 _
      exact Prod.ext r1 r2
    rw [e, holds_inj a2 b2]
theorem holdsRow_inj {h : Heap} {v : Value} {xs ys : Row} (a : PySem.W.Holds h v xs) (b : PySem.W.Holds h v ys) : xs = ys := by
  obtain ⟨l, vs, rfl, hl, ha⟩ := PySem.W.list_of_holds a
  obtain ⟨l', vs', e, hl', hb⟩ := PySem.W.list_of_holds b
  cases e
  obtain ⟨o, ho, hc, n, hd⟩ := hl
  obtain ⟨o', ho', hc', n', hd'⟩ := hl'
  have e1 := Option.some.inj (ho.symm.trans ho')
  subst e1
  have e2 := hd.symm.trans hd'
  injection e2 with e3 _
  subst e3
  exact holds_inj ha hb
section
variable {X : Cx} {pins : List (Addr × HO)} {σ : L2.St} {H : Hp} {s : Shared}
end
section
variable {X : Cx}
theorem hold_tps {pins} {s : Shared} {σ : L2.St} {H : Hp} (I : Inv X pins σ H s) : ∀ {ks : List AP} {its : List Value}, TPs X.K H ks → Vals (refs ks) its → PySem.W.HoldAll s.heap its (pts ks : Row)
  | [], its, _, r => by
    cases r
    exact .nil
  | k :: ks, its, hT, r => by
    cases r with
    | cons r1 r2 =>
      refine .cons ?_ (hold_tps I (fun j hj => hT j (List.mem_cons_of_mem _ hj)) r2)
      cases r1
      obtain ⟨its2, rv, ht, _⟩ := I.tuple (hT k (by simp))
      cases rv with
      | cons q1 q2 =>
        cases q2 with
        | cons q2 q3 =>
          cases q3
          obtain ⟨t1, rfl⟩ := q1
          obtain ⟨t2, rfl⟩ := q2
          exact PySem.W.holds_pair ht (PySem.W.holds_int _ _) (PySem.W.holds_int _ _)
theorem hold_row {pins} {s : Shared} {σ : L2.St} {H : Hp} (I : Inv X pins σ H s) {a : Addr} {ks : List AP} (hS : SqL X.K H a (refs ks)) (hT : TPs X.K H ks) : PySem.W.Holds s.heap (.ref a) (pts ks : Row) := by
  obtain ⟨its, rv, hl, _⟩ := I.list hS
  exact PySem.W.holds_list hl.isList (hold_tps I hT rv)
/-- the first of the least, as Python's min finds it -/
def minRow : List Row → Row
  | [] => []
  | x :: xs => PySem.W.minOf x xs
abbrev RowsP := List (Addr × List AP)
def rrefs (rs : RowsP) : List V := rs.map fun r => V.ref r.1
def rpts (rs : RowsP) : List Row := rs.map fun r => pts r.2
def RowsIn (K : PySem.W.Frag) (H : Hp) (rs : RowsP) : Prop := ∀ r ∈ rs, SqL K H r.1 (refs r.2) ∧ TPs K H r.2
theorem hold_rows {pins} {s : Shared} {σ : L2.St} {H : Hp} (I : Inv X pins σ H s) : ∀ {rs : RowsP} {its : List Value}, RowsIn X.K H rs → Vals (rrefs rs) its → PySem.W.HoldAll s.heap its (rpts rs)
  | [], its, _, r => by
    cases r
    exact .nil
  | k :: ks, its, hT, r => by
    cases r with
    | cons r1 r2 =>
      refine .cons ?_ (hold_rows I (fun j hj => hT j (List.mem_cons_of_mem _ hj)) r2)
      cases r1
      exact hold_row I (hT k (by simp)).1 (hT k (by simp)).2
def rMinRows (K : PySem.W.Frag) : List V → Hp → VK → Prop := fun vs H Q => ∃ (a : Addr) (rs : RowsP), vs = [V.ref a] ∧ SqL K H a (rrefs rs) ∧ rs ≠ [] ∧ RowsIn K H rs ∧ ∀ r ∈ rs, pts r.2 = minRow (rpts rs) → Q (.ref r.1) H
theorem vals_ref_at : ∀ {rs : RowsP} {its : List Value}, Vals (rrefs rs) its → ∀ {i : Nat} {v : Value}, its[i]? = some v → ∃ r ∈ rs, v = Value.ref r.1
  | [], _, h, i, v, e => by
    cases h
    simp at e
  | r :: rs, _, h, i, v, e => by
    cases h with
    | cons r1 r2 =>
      cases r1
      cases i with
      | zero =>
        simp only [List.getElem?_cons_zero, Option.some.injEq] at e
        exact ⟨r, by simp, e.symm⟩
      | succ i =>
        simp only [List.getElem?_cons_succ] at e
        obtain ⟨q, hq, e'⟩ := vals_ref_at r2 e
        exact ⟨q, List.mem_cons_of_mem _ hq, e'⟩
theorem depth_row : PySem.W.Datum.depth Row ≤ 10 := by decide
theorem min_rows_raw {pins} {s : Shared} {σ : L2.St} {H : Hp} (I : Inv X pins σ H s) (hc : X.calm = true) (hu : X.A.units + 64 < cLine) {a : Addr} {its : List Value} {x : Row} {xs : List Row} (hli : s.heap.IsList a its.toArray) (hold : PySem.W.HoldAll s.heap its (x :: xs)) {Q : Value → Shared → Prop} {E : Value → Shared → Prop}
    (h : ∀ (i : Nat) v h' tk, its[i]? = some v → PySem.W.Holds h' v (PySem.W.minOf x xs) → (∀ b o, s.heap.get? b = some o → h'.get? b = some o) → Q v { s with heap := h', toks := tk }) : wpAny (model X.prog X.w) X.A (call (.builtin "min") [.ref a]) Q E s := by
  have hd := depth_row
  have hu2 : X.A.units + 1 + PySem.W.Datum.depth Row < cLine := by
    generalize PySem.W.Datum.depth Row = n at *
    generalize cLine = m at *
    omega
  exact PySem.W.min_list_datum (α := Row) (x := x) (xs := xs) (l := a) (vs := its.toArray) (I.ok.hd hc) hli hold hu2 (fun i v h' tk hv hH hk => h i v h' tk (by simpa using hv) hH hk)
theorem cr_minRows (hc : X.calm = true) (hu : X.A.units + 64 < cLine) : CallR X (.builtin "min") (rMinRows X.K) := by
  intro pins s σ H vs us Q I r h
  obtain ⟨a, rs, rfl, hs, hne, hR, q⟩ := h
  obtain ⟨its, rv, hl, _⟩ := I.list hs
  rw [Vals.ref1 r]
  have hold := hold_rows I hR rv
  obtain ⟨r0, rs', e0⟩ := List.exists_cons_of_ne_nil hne
  have e1 : rpts rs = (pts r0.2 : Row) :: rpts rs' := by rw [e0]; rfl
  rw [e1] at hold q
  refine min_rows_raw I hc hu hl.isList hold fun i v h' tk hv hH hk => ?_
  obtain ⟨r1, m1, e2⟩ := vals_ref_at rv hv
  rw [e2] at hH ⊢
  have e := holdsRow_inj hH ((hold_row I (hR r1 m1).1 (hR r1 m1).2).keeps hk)
  exact ⟨.ref r1.1, H, I.kept hk, rfl, q r1 m1 e.symm⟩
/-- == of two rows of points -/
def rEqRows (K : PySem.W.Frag) : V → V → Hp → VK → Prop := fun x y H Q => ∃ (a b : Addr) (ks js : List AP), x = .ref a ∧ y = .ref b ∧ SqL K H a (refs ks) ∧ TPs K H ks ∧ SqL K H b (refs js) ∧ TPs K H js ∧ Q (.bl (decide (pts ks = pts js))) H
theorem op_eqRows (hu : X.A.units + 64 < cLine) : OpR X (compareOp .Eq) (rEqRows X.K) := by
  intro pins s σ H x y u v Q I rx ry h
  obtain ⟨a, b, ks, js, rfl, rfl, h1, h2, h3, h4, q⟩ := h
  cases rx
  cases ry
  refine PySem.W.eq_datum (α := Row) (hold_row I h1 h2) (hold_row I h3 h4) ?_ ⟨.bl (decide (pts ks = pts js)), H, I, rfl, q⟩
  have hd := depth_row
  generalize PySem.W.Datum.depth Row = n at *
  generalize cLine = m at *
  omega
end
/-! ### min is the form -/
theorem lt_firstOf : ∀ {l m : Row}, l.length = m.length → PySem.W.DatumOrd.lt l m = Sq68.firstOf l m
  | [], [], _ => rfl
  | [], _ :: _, h => by simp at h
  | _ :: _, [], h => by simp at h
  | a :: l, b :: m, h => by
    have ih := lt_firstOf (l := l) (m := m) (by simpa using h)
    show (if a = b then PySem.W.listLt l m else PySem.W.DatumOrd.lt a b) = (Sq68.before a b || (a == b && Sq68.firstOf l m))
    by_cases e : a = b
    · subst e
      rw [if_pos rfl]
      have : Sq68.before a a = false := by unfold Sq68.before; simp
      rw [this]
      simp only [beq_self_eq_true, Bool.true_and, Bool.false_or]
      exact ih
    · rw [if_neg e]
      have e2 : (a == b) = false := by simpa using e
      rw [e2]
      simp only [Bool.false_and, Bool.or_false]
      show (if a.1 = b.1 then decide (a.2 < b.2) else decide (a.1 < b.1)) = _
      unfold Sq68.before
      by_cases k : a.1 = b.1
      · rw [if_pos k, k]
        simp
      · rw [if_neg k]
        simp [k]
theorem minOf_first (n : Nat) : ∀ (rows : List Row) (e : Row), e.length = n → (∀ r ∈ rows, r.length = n) →
    rows.foldl (fun (m : Option (List Sq68.Point)) d => match m with
      | none => some d
      | some e => if Sq68.firstOf d e = true then some d else some e) (some e) = some (PySem.W.minOf e rows)
  | [], e, _, _ => rfl
  | d :: rows, e, he, hr => by
    have hd := hr d (by simp)
    have hr' : ∀ r ∈ rows, r.length = n := fun r h => hr r (List.mem_cons_of_mem _ h)
    show rows.foldl _ (if Sq68.firstOf d e = true then some d else some e) = some (PySem.W.minOf (if PySem.W.DatumOrd.lt d e = true then d else e) rows)
    rw [lt_firstOf (by rw [hd, he])]
    by_cases c : Sq68.firstOf d e = true
    · rw [if_pos c, if_pos c]
      exact minOf_first n rows d hd hr'
    · rw [if_neg c, if_neg c]
      exact minOf_first n rows e he hr'
theorem minRow_form {c : List Sq68.Point} (hc : c ≠ []) : minRow ((Sq68.turns c ++ Sq68.turns (Sq68.mirrored c)).map Sq68.laid) = Sq68.form c := by
  have hl := Hl.rows_len (c := c)
  have hne : Sq68.turns c ≠ [] := fun z => by
    have := congrArg List.length z
    unfold Sq68.turns at this
    rw [List.length_map, List.length_range] at this
    exact hc (List.length_eq_zero_iff.1 this)
  rw [Hl.form_eq]
  generalize hrows : (Sq68.turns c ++ Sq68.turns (Sq68.mirrored c)).map Sq68.laid = rows at *
  cases rows with
  | nil =>
    rw [List.map_eq_nil_iff, List.append_eq_nil_iff] at hrows
    exact absurd hrows.1 hne
  | cons e rows =>
    have : Hl.firstRow (e :: rows) = some (PySem.W.minOf e rows) := minOf_first c.length rows e (hl e (by simp)) fun r hr => hl r (List.mem_cons_of_mem _ hr)
    rw [this]
    rfl
end Pg

set_option Elab.async false
set_option linter.all false
set_option maxRecDepth 100000
set_option maxHeartbeats 2000000
namespace Pg
open PySem PySem.Spec PyProof.Rows L2 OwR
open Hl (ori rg Good)
section
variable {P : Program} {w : World} {K : PySem.W.Frag} {mg : Str → Option Value} {base : Heap}
/-! ### answer_width(corners) -/
def widI (c : List Pt) : List Int := ((Sq68.width c).2.length : Int) :: (Sq68.width c).1 :: flatI (Sq68.width c).2
def spWid (K : PySem.W.Frag) : Sp := fun vs H Q _ => ∃ (a : Addr) (ks : List AP), vs = [.ref a] ∧ HouseAt K H a ks ∧ ∀ (H' : Hp) (p : Addr), Same H H' → H p = none → H' p = some (.lst (intsV (widI (pts ks)))) → Q (.ref p) H'
abbrev D_wid (K : PySem.W.Frag) (mg : Str → Option Value) := DefF K mg "answer_width" s_answer_width ["corners"]
theorem ok_wid (D : D_wid K mg) (DN : D_nar K mg) (DO : D_nof K mg) (DS : D_see K mg) (DA : D_acr K mg) (DP : D_prs K mg) (DR : D_ris K mg) (DX : D_crs K mg) (B : Blt mg) : FnOk P w K mg base CX0 4 D.f D.fd ["corners"] (spWid K) := by
  have GN : FnOk P w K mg base CX0 3 DN.f DN.fd ["corners"] (spNar K) := ok_nar DN DS DA DP DR DX B
  have GA : FnOk P w K mg base CX0 1 DA.f DA.fd ["corners", "direction"] (spAcr K) := ok_acr DA B
  have GO : FnOk P w K mg base CX0 1 DO.f DO.fd ["points"] (spNums K) := ok_nof DO
  refine D.F.ok sc_answer_width (fun vs H Q E h => ?_) (fun cdv A outer s H vs Q E hr h => ?_)
  · obtain ⟨a, ks, rfl, _⟩ := h
    rfl
  · obtain ⟨a, ks, rfl, hh, q⟩ := h
    have nd := sc_answer_width.nd
    have hr1 : Room 1 _ := hr.mono (by decide)
    refine ⟨_, pss_cons (ps_set (i := 1) nd rfl (.inl rfl) (pe_call GN hr (by rfl) DN.g DN.F.kp DN.b .nil pass0 (pa_cons (pv 0) pa_nil)))
      (pss_one (ps_ret (pe_op op_cat (pe_lst (pa_cons (pe_callB call_len_seq (by rfl) B.len PySem.boot_len (pa_cons (pv 1) pa_nil)) (pa_cons (pe_call GA hr1 (by rfl) DA.g DA.F.kp DA.b .nil pass0 (pa_cons (pv 0) (pa_cons (pe_ix ix_list (pv 1) pe_int (fun _ _ => rfl)) pa_nil))) pa_nil)))
        (pe_call GO hr1 (by rfl) DO.g DO.F.kp DO.b .nil pass0 (pa_cons (pv 1) pa_nil))))), ?_⟩
    obtain ⟨_, mem, _, wne, _⟩ := Hl.width_ok hh.2.2
    refine ⟨_, rfl, a, ks, rfl, hh, fun H1 p js s1 np hp hjs ejs ljs => ?_⟩
    have hne : ks ≠ [] := fun z => by
      have := hh.len
      rw [z] at this
      simp at this
    obtain ⟨j0, jr, ej⟩ : ∃ j0 jr, js = j0 :: jr := List.exists_cons_of_ne_nil fun z => wne (by rw [← ejs, z]; rfl)
    have g0 : (refs js)[0]? = some (.ref j0.1) := by rw [ej]; rfl
    have m0 : j0 ∈ js := by rw [ej]; simp
    have e0 : Sq68.across (pts ks) j0.2 = (Sq68.width (pts ks)).1 := ((mem j0.2).1 (by rw [← ejs]; exact List.mem_map.2 ⟨j0, m0, rfl⟩)).2
    refine ⟨_, rfl, p, _, rfl, .inl (SqL.of hp), _, rfl, _, rfl, p, _, _, _, rfl, rfl, SqL.of hp, atI_nat (j := 0) g0, a, j0.1, ks, j0.2, rfl, hh.poly.same s1, hne, hjs j0 m0, fun H2 s2 => ?_⟩
    refine ⟨(by show 2 ≤ sizeLine; decide), fun o no => ?_⟩
    have so := same_upd (o := .lst [V.int ((refs js).length : Nat), V.int (Sq68.across (pts ks) j0.2)]) no
    refine ⟨_, rfl, p, js, rfl, SqL.of (so _ _ (s2 _ _ hp)), (hjs.same s2).same so, by omega, fun H3 p3 s3 np3 hp3 => ?_⟩
    refine ⟨o, p3, _, _, rfl, rfl, s3 _ _ upd_same, hp3, ?_, fun r nr => ?_⟩
    · have : (flatI (pts js)).length = 2 * (pts js).length := flat_len _
      rw [pts_len] at this
      unfold intsV
      rw [List.length_map, this]
      exact Nat.le_trans (show _ ≤ 9000000 by simp only [List.length_cons, List.length_nil]; omega) (by decide)
    · have sA := ((s1.trans s2).trans so).trans s3
      refine q _ r (sA.trans (same_upd nr)) (sA.free nr) ?_
      rw [upd_same]
      unfold widI
      rw [refs_len, ← pts_len, ejs, e0]
      rfl
/-! ### mirrored(corners) -/
def spMir (K : PySem.W.Frag) : Sp := fun vs H Q _ => ∃ (a : Addr) (ks : List AP), vs = [.ref a] ∧ SqL K H a (refs ks) ∧ TPs K H ks ∧ ks.length ≤ 1000 ∧
  ∀ (H' : Hp) (p : Addr) (js : List AP), Same H H' → H p = none → H' p = some (.lst (refs js)) → TPs K H' js → pts js = Sq68.mirrored (pts ks) → Q (.ref p) H'
abbrev D_mir (K : PySem.W.Frag) (mg : Str → Option Value) := DefF K mg "mirrored" s_mirrored ["corners"]
theorem ok_mir (D : D_mir K mg) (B : Blt mg) : FnOk P w K mg base CX0 1 D.f D.fd ["corners"] (spMir K) := by
  refine D.F.ok sc_mirrored (fun vs H Q E h => ?_) (fun cdv A outer s H vs Q E hr h => ?_)
  · obtain ⟨a, ks, rfl, _⟩ := h
    rfl
  · obtain ⟨a, ks, rfl, hS, hT, hlen, q⟩ := h
    have nd := sc_mirrored.nd
    refine ⟨_, pss_one (ps_ret (pe_lc (own := [("x", 1), ("y", 2)]) (g := gPair K 1 2) (tt := tYes) (te := tTup (tCons (tUn (rU fun i => .int (-i)) (tVar 1)) (tCons (tVar 2) tNil))) rfl nd (pi_reversed (by rfl) B.rev (pa_cons (pv 0) pa_nil))
      (blkOk_by (N := ["corners", "x", "y"]) (sc := defScope s_mirrored) (by decide +kernel))
      (fun _ _ _ _ _ => pg_tup rfl (pgs_cons (pg_name (i := 1) nd rfl (.inl rfl)) (pgs_cons (pg_name (i := 2) nd rfl (.inl rfl)) pgs_nil))) (fun _ _ _ _ _ => pts_nil)
      (fun _ _ _ _ _ => pe_tup (pa_cons (pe_un un_neg (pv 1)) (pa_cons (pv 2) pa_nil))))), ?_⟩
    have lm : (Sq68.mirrored (pts ks)).length = ks.length := by rw [Hl.mirrored_len, pts_len]
    refine ⟨_, rfl, a, refs ks, rfl, hS, fun d nd1 => ?_⟩
    refine lc_it (walk_rev (K := K) (a := a) (xs := refs ks)) (Grown K H d (Sq68.mirrored (pts ks))) (Grown.start _ nd1) (fun i H' _ g => g.sm.seq hS) ?_ ?_
    · rintro i y H' H'' hi g ⟨rfl, hy⟩
      obtain ⟨k, hk, rfl⟩ := refs_get hy
      have mk : k ∈ ks := List.mem_of_getElem? hk
      refine ⟨k.1, _, rfl, same_sqT g.sm (hT k mk), rfl, _, _, rfl, _, _, rfl, rfl, rfl, ?_⟩
      refine lc_yes ?_
      refine ⟨_, rfl, _, rfl, _, rfl, (by show 2 ≤ sizeLine; decide), fun T nT => ?_⟩
      refine g.next nd1 (by rw [lm]; omega) (v := Hl.mir k.2) ?_ nT
      rw [refs_len] at hi hk
      rw [Hl.mirrored_eq, List.getElem?_reverse (by rw [List.length_map, pts_len]; exact hi), List.length_map, pts_len, List.getElem?_map, pts_get hk]
      rfl
    · rintro H' g
      obtain ⟨js, sm, ho, hjs, ejs⟩ := g.whole (by rw [lm, refs_len]; exact Nat.le_refl _)
      exact q H' d js sm nd1 ho hjs ejs
/-! ### row_from(corners, start) -/
theorem cut_from (xs : List V) (i : Nat) (h : i ≤ xs.length) : cutV xs (some (i : Int)) none = xs.drop i := by
  unfold cutV
  rw [HT.sIx_nat, HT.sIx_none, Nat.min_eq_left h]
  exact List.take_of_length_le (by rw [List.length_drop]; exact Nat.le_refl _)
theorem cut_to (xs : List V) (i : Nat) (h : i ≤ xs.length) : cutV xs none (some (i : Int)) = xs.take i := by
  unfold cutV
  rw [HT.sIx_none, HT.sIx_nat, Nat.min_eq_left h, List.drop_zero, Nat.sub_zero]
def rDivI : R2 := rI CDiv fun i j => .int (i / j)
/-- begins with a left turn -/
def Begins (c : List Pt) : Prop := ∃ a b d l, c = a :: b :: d :: l ∧ 0 < ori a b d
def spRowF (K : PySem.W.Frag) : Sp := fun vs H Q _ => ∃ (a : Addr) (ks : List AP) (i : Nat), vs = [.ref a, .int (i : Nat)] ∧ PolyAt K H a ks ∧ Mids ks ∧ i < ks.length ∧ Begins ((pts ks).drop i ++ (pts ks).take i) ∧
  ∀ (H' : Hp) (p : Addr) (js : List AP), Same H H' → H p = none → H' p = some (.lst (refs js)) → TPs K H' js → pts js = Sq68.laid ((pts ks).drop i ++ (pts ks).take i) → Q (.ref p) H'
abbrev D_row (K : PySem.W.Frag) (mg : Str → Option Value) := DefF K mg "row_from" s_row_from ["corners", "start"]
theorem mul_bound {x y : Int} {A B : Int} (h1 : -A ≤ x) (h2 : x ≤ A) (h3 : -B ≤ y) (h4 : y ≤ B) : -(A * B) ≤ x * y ∧ x * y ≤ A * B := by
  have t1 := Int.mul_nonneg (show 0 ≤ A - x by omega) (show 0 ≤ B - y by omega)
  have t2 := Int.mul_nonneg (show 0 ≤ A + x by omega) (show 0 ≤ B + y by omega)
  have t3 := Int.mul_nonneg (show 0 ≤ A - x by omega) (show 0 ≤ B + y by omega)
  have t4 := Int.mul_nonneg (show 0 ≤ A + x by omega) (show 0 ≤ B - y by omega)
  have u1 : (A - x) * (B - y) = A * B - A * y - x * B + x * y := by grind
  have u2 : (A + x) * (B + y) = A * B + A * y + x * B + x * y := by grind
  have u3 : (A - x) * (B + y) = A * B + A * y - x * B - x * y := by grind
  have u4 : (A + x) * (B - y) = A * B - A * y + x * B - x * y := by grind
  omega
theorem div_bound {x g B : Int} (hg : 0 < g) (h1 : -B ≤ x) (h2 : x ≤ B) : -B ≤ x / g ∧ x / g ≤ B := by
  have hB : 0 ≤ B := by omega
  refine ⟨?_, ?_⟩
  · refine (Int.le_ediv_iff_mul_le hg).2 ?_
    have : B * 1 ≤ B * g := Int.mul_le_mul_of_nonneg_left (by omega) hB
    have e : -B * g = -(B * g) := Int.neg_mul B g
    omega
  · rcases Int.lt_or_le x 0 with k | k
    · have := Int.ediv_neg_of_neg_of_pos k hg
      omega
    · have := Int.ediv_le_self g k
      omega
theorem ok_row (D : D_row K mg) (DS : D_see K mg) (DD : D_daf K mg) (DX : D_crs K mg) (B : Blt mg) : FnOk P w K mg base CX0 2 D.f D.fd ["corners", "start"] (spRowF K) := by
  have GS : FnOk P w K mg base CX0 1 DS.f DS.fd ["origin", "points"] (spSeen K) := ok_see DS
  have GD : FnOk P w K mg base CX0 1 DD.f DD.fd ["a", "b"] (spDF K) := ok_daf DD B
  have GX : FnOk P w K mg base CX0 1 DX.f DX.fd ["a", "b"] (spCross K) := ok_crs DX
  refine D.F.ok sc_row_from (fun vs H Q E h => ?_) (fun cdv A outer s H vs Q E hr h => ?_)
  · obtain ⟨a, ks, i, rfl, _⟩ := h
    rfl
  · obtain ⟨a, ks, i, rfl, ⟨hS, hT, hF, hlen⟩, hMd, hi, ⟨p0, p1, p2, pl, ebeg, hD⟩, q⟩ := h
    have nd := sc_row_from.nd
    refine ⟨_, pss_cons (ps_set (i := 2) nd rfl (.inl rfl) (pe_call GS hr (by rfl) DS.g DS.F.kp DS.b .nil pass0 (pa_cons (pe_ix ix_list (pv 0) (pv 1) (fun _ _ => rfl)) (pa_cons (pe_op op_cat (pe_slice sl_list (pv 0) (po_some (pv 1)) po_none) (pe_slice sl_list (pv 0) po_none (po_some (pv 1)))) pa_nil))))
      (pss_cons (ps_set (i := 3) nd rfl (.inr rfl) (pe_ix ix_list (pv 2) pe_int (fun _ _ => rfl)))
      (pss_cons (ps_set (i := 4) nd rfl (.inr rfl) (pe_call GD hr (by rfl) DD.g DD.F.kp DD.b .nil pass0 (pa_cons (pe_ix ix_tup (pv 3) pe_int (fun _ _ => rfl)) (pa_cons (pe_ix ix_tup (pv 3) pe_int (fun _ _ => rfl)) pa_nil))))
      (pss_cons (ps_set (i := 5) nd rfl (.inr rfl) (pe_ix ix_tup (pv 4) pe_int (fun _ _ => rfl)))
      (pss_cons (ps_setLc (i := 6) (own := [("x", 9), ("y", 10)]) (g := gPair K 9 10) (tt := tYes) (te := tTup (tCons (tOp rAddI (tOp rMulI (ixT K 4 1) (tVar 9)) (tOp rMulI (ixT K 4 2) (tVar 10))) (tCons (tOp rDivI (tCall (spCross K) [] noX (tCons (tVar 3) (tCons (tTup (tCons (tVar 9) (tCons (tVar 10) tNil))) tNil))) (tVar 5)) tNil))) (by rfl) nd rfl rfl (sw_true rfl rfl rfl (by decide +kernel)) (pi_list (pv 2))
          (blkOk_by (N := ["corners", "start", "seen", "ahead", "factors", "divisor", "level", "third", "lean", "x", "y"]) (sc := defScope s_row_from) (by decide +kernel))
          (fun _ _ _ _ _ => pg_tup rfl (pgs_cons (pg_name (i := 9) nd rfl (.inl rfl)) (pgs_cons (pg_name (i := 10) nd rfl (.inl rfl)) pgs_nil))) (fun _ _ _ _ _ => pts_nil)
          (fun _ _ _ _ _ => pe_tup (pa_cons (pe_op op_add (pe_op op_mul (pe_ix ix_tup (pv 4) pe_int (fun _ _ => rfl)) (pv 9)) (pe_op op_mul (pe_ix ix_tup (pv 4) pe_int (fun _ _ => rfl)) (pv 10))) (pa_cons (pe_op op_fdiv (pe_call GX hr (by rfl) DX.g DX.F.kp DX.b .nil pass0 (pa_cons (pv 3) (pa_cons (pe_tup (pa_cons (pv 9) (pa_cons (pv 10) pa_nil))) pa_nil))) (pv 5)) pa_nil))))
      (pss_cons (ps_set (i := 7) nd rfl (.inl rfl) (pe_ix ix_list (pv 6) pe_int (fun _ _ => rfl)))
      (pss_cons (ps_set (i := 8) nd rfl (.inr rfl) (pe_op op_fdiv (pe_op op_sub (pe_ix ix_tup (pv 7) pe_int (fun _ _ => rfl)) (pv 5)) (pe_ix ix_tup (pv 7) pe_int (fun _ _ => rfl))))
      (pss_one (ps_ret (pe_lc (own := [("x", 9), ("y", 10)]) (g := gPair K 9 10) (tt := tYes) (te := tTup (tCons (tOp rSubI (tVar 9) (tOp rMulI (tVar 8) (tVar 10))) (tCons (tVar 10) tNil))) rfl nd (pi_list (pv 6))
          (blkOk_by (N := ["corners", "start", "seen", "ahead", "factors", "divisor", "level", "third", "lean", "x", "y"]) (sc := defScope s_row_from) (by decide +kernel))
          (fun _ _ _ _ _ => pg_tup rfl (pgs_cons (pg_name (i := 9) nd rfl (.inl rfl)) (pgs_cons (pg_name (i := 10) nd rfl (.inl rfl)) pgs_nil))) (fun _ _ _ _ _ => pts_nil)
          (fun _ _ _ _ _ => pe_tup (pa_cons (pe_op op_sub (pv 9) (pe_op op_mul (pv 8) (pv 10))) (pa_cons (pv 10) pa_nil)))))))))))), ?_⟩
    -- the corners from that one on
    have gi : ks[i]? = some ks[i] := List.getElem?_eq_getElem hi
    have gri : (refs ks)[i]? = some (.ref ks[i].1) := by unfold refs; rw [List.getElem?_map, gi]; rfl
    refine ⟨_, rfl, _, rfl, a, _, _, _, rfl, rfl, hS, atI_nat gri, _, rfl, _, rfl, (i : Int), rfl, a, _, rfl, hS, fun d1 n1 => ?_⟩
    have s1 : Same H (upd H d1 (.lst (cutV (refs ks) (some (i : Int)) none))) := same_upd n1
    refine ⟨_, rfl, _, rfl, (i : Int), rfl, a, _, rfl, s1.seq hS, fun d2 n2 => ?_⟩
    have n12 : d1 ≠ d2 := ne_of_none (o := .lst (cutV (refs ks) (some (i : Int)) none)) upd_same n2
    have s2 : Same H (upd (upd H d1 (.lst (cutV (refs ks) (some (i : Int)) none))) d2 (.lst (cutV (refs ks) none (some (i : Int))))) := s1.trans (same_upd n2)
    refine ⟨d1, d2, _, _, rfl, rfl, (by rw [upd_ne n12, upd_same]), upd_same, ?_, fun d3 n3 => ?_⟩
    · have q1 := cutV_length (refs ks) (some (i : Int)) none
      have q2 := cutV_length (refs ks) none (some (i : Int))
      rw [refs_len] at q1 q2
      exact Nat.le_of_lt (small1000 (by omega))
    have s3 := s2.trans (same_upd (o := .lst (cutV (refs ks) (some (i : Int)) none ++ cutV (refs ks) none (some (i : Int)))) n3)
    have hlr : i ≤ (refs ks).length := by rw [refs_len]; omega
    have er : cutV (refs ks) (some (i : Int)) none ++ cutV (refs ks) none (some (i : Int)) = refs (ks.drop i ++ ks.take i) := by
      rw [cut_from _ _ hlr, cut_to _ _ hlr]
      unfold refs
      rw [List.map_append, List.map_drop, List.map_take]
    have ept : pts (ks.drop i ++ ks.take i) = p0 :: p1 :: p2 :: pl := by
      rw [← ebeg]
      unfold pts
      rw [List.map_append, List.map_drop, List.map_take]
    have mem : ∀ k ∈ ks.drop i ++ ks.take i, k ∈ ks := fun k hk => by
      rcases List.mem_append.1 hk with z | z
      · exact List.mem_of_mem_drop z
      · exact List.mem_of_mem_take z
    have lrot : (ks.drop i ++ ks.take i).length = ks.length := by
      rw [List.length_append, List.length_drop, List.length_take]; omega
    have eo : ks[i].2 = p0 := by
      have : (ks.drop i ++ ks.take i)[0]? = some ks[i] := by
        rw [List.getElem?_append_left (by rw [List.length_drop]; omega), List.getElem?_drop, Nat.add_zero]
        exact gi
      have h2 := pts_get this
      rw [ept] at h2
      exact (Option.some.inj h2).symm
    generalize hrot : ks.drop i ++ ks.take i = rot at *
    have hTr : TPs K H rot := hT.sub mem
    refine ⟨ks[i].1, d3, ks[i].2, rot, rfl, same_sqT s3 (hT _ (List.getElem_mem hi)), ?_, hTr.same s3, by omega, fun H4 sa js s4 nsa hsa hjs ejs => ?_⟩
    · refine SqL.of ?_
      rw [upd_same, er]
    have sH4 : Same H H4 := s3.trans s4
    rw [eo, ept] at ejs
    -- numbers are small
    have mid : ∀ p ∈ p0 :: p1 :: p2 :: pl, Mid p := fun p hp => by
      rw [← ept] at hp
      obtain ⟨k, hk, rfl⟩ := List.mem_map.1 hp
      exact hMd k (mem k hk)
    have m0 := mid p0 (by simp)
    have near : ∀ p ∈ p0 :: p1 :: p2 :: pl, (-2000 ≤ (Sq68.sub p p0).1 ∧ (Sq68.sub p p0).1 ≤ 2000) ∧ -2000 ≤ (Sq68.sub p p0).2 ∧ (Sq68.sub p p0).2 ≤ 2000 := fun p hp => by
      obtain ⟨⟨_, _⟩, _, _⟩ := mid p hp
      obtain ⟨⟨_, _⟩, _, _⟩ := m0
      unfold Sq68.sub
      refine ⟨⟨?_, ?_⟩, ?_, ?_⟩ <;> (simp only; omega)
    have nv := near p1 (by simp)
    have hg := Hl.steps_pos (Hl.ne_of_ori hD)
    generalize hv : Sq68.sub p1 p0 = v at *
    -- ahead
    obtain ⟨j0, j1, j2, jr, ej⟩ : ∃ j0 j1 j2 jr, js = j0 :: j1 :: j2 :: jr := three_of (by rw [← pts_len js, ejs, List.length_map]; simp)
    have e1 : j1.2 = v := by
      rw [ej] at ejs
      rw [← hv]
      exact (List.cons.inj (List.cons.inj ejs).2).1
    have e2 : j2.2 = Sq68.sub p2 p0 := by
      rw [ej] at ejs
      exact (List.cons.inj (List.cons.inj (List.cons.inj ejs).2).2).1
    have gj1 : (refs js)[1]? = some (.ref j1.1) := by rw [ej]; rfl
    have tj1 : SqT K H4 j1.1 (tupV v) := by rw [← e1]; exact hjs j1 (by rw [ej]; simp)
    refine ⟨_, rfl, sa, _, _, _, rfl, rfl, SqL.of hsa, atI_nat (j := 1) gj1, ?_⟩
    -- factors, divisor
    refine ⟨_, rfl, j1.1, _, _, _, rfl, rfl, tj1, atI_nat (j := 0) rfl, _, rfl, j1.1, _, _, _, rfl, rfl, tj1, atI_nat (j := 1) rfl, v.1, v.2, rfl, ⟨by omega, by omega⟩, ⟨by omega, by omega⟩, fun H5 tf m n s5 hf emn => ?_⟩
    have esg : (Nat.gcd v.1.natAbs v.2.natAbs : Nat) = Sq68.steps v := rfl
    rw [esg] at hf emn
    have gle : ((Sq68.steps v : Nat) : Int) ≤ 2000 := by
      have d1 : Sq68.steps v ∣ v.1.natAbs := Nat.gcd_dvd_left _ _
      have d2 : Sq68.steps v ∣ v.2.natAbs := Nat.gcd_dvd_right _ _
      by_cases z : v.1 = 0
      · have z2 : v.2 ≠ 0 := fun z2 => by
          have : Sq68.steps v = 0 := by unfold Sq68.steps; rw [z, z2]; rfl
          omega
        have := Nat.le_of_dvd (by omega) d2
        omega
      · have := Nat.le_of_dvd (by omega) d1
        omega
    refine ⟨_, rfl, tf, _, _, _, rfl, rfl, SqT.of hf, atI_nat (j := 0) rfl, ?_⟩
    -- level
    have hsa5 := s5 _ _ hsa
    have ljs : (pts js).length ≤ 100 := by rw [ejs, List.length_map, ← ept, pts_len]; omega
    refine ⟨_, rfl, sa, rfl, ⟨_, SqL.of hsa5⟩, fun dl nl => ?_⟩
    refine lc_list (K := K) (a := sa) (xs := refs js) (Grown K H5 dl ((pts js).map (Hl.lvl v (Sq68.steps v : Nat) m n))) (Grown.start _ nl) (fun i H' _ g => SqL.of (g.sm _ _ hsa5)) ?_ ?_
    · rintro u y H6 hu g
      obtain ⟨k, hk, rfl⟩ := refs_get hu
      have mk : k ∈ js := List.mem_of_getElem? hk
      have gk := pts_get hk
      have nk : (-2000 ≤ k.2.1 ∧ k.2.1 ≤ 2000) ∧ -2000 ≤ k.2.2 ∧ k.2.2 ≤ 2000 := by
        have : k.2 ∈ pts js := List.mem_map.2 ⟨k, mk, rfl⟩
        rw [ejs] at this
        obtain ⟨p, hp, e⟩ := List.mem_map.1 this
        rw [← e]
        exact near p hp
      have sm := g.sm
      have hf6 := sm _ _ hf
      refine ⟨k.1, _, rfl, same_sqT (s5.trans sm) (hjs k mk), rfl, _, _, rfl, _, _, rfl, rfl, rfl, ?_⟩
      refine lc_yes ?_
      refine ⟨_, rfl, tf, _, _, _, rfl, rfl, SqT.of hf6, atI_nat (j := 1) rfl, _, rfl, _, _, rfl, rfl, .inr ⟨by omega, by omega⟩, _, rfl, tf, _, _, _, rfl, rfl, SqT.of hf6, atI_nat (j := 2) rfl, _, rfl, _, _, rfl, rfl, .inr ⟨by omega, by omega⟩, _, _, rfl, rfl, ?_⟩
      refine ⟨_, rfl, _, rfl, _, rfl, (by show 2 ≤ sizeLine; decide), fun T1 nT1 => ?_⟩
      have sT1 : Same H6 (upd H6 T1 (.tup (tupV k.2))) := same_upd nT1
      refine ⟨j1.1, T1, v, k.2, rfl, same_sqT ((s5.trans sm).trans sT1) tj1, SqT.of upd_same, ⟨⟨by omega, by omega⟩, by omega, by omega⟩, _, rfl, _, _, rfl, rfl, ⟨by omega, by omega⟩, (by show 2 ≤ sizeLine; decide), fun T nT => ?_⟩
      exact (g.same sT1).next nl (by rw [List.length_map]; omega) (v := Hl.lvl v (Sq68.steps v : Nat) m n k.2) (by rw [List.getElem?_map, gk]; rfl) nT
    rintro H6 g6
    obtain ⟨ls, s6, hls, tls, els⟩ := g6.whole (by rw [List.length_map, pts_len, refs_len]; exact Nat.le_refl _)
    -- third, lean
    have third := Hl.lvl_third (m := m) (n := n) hD
    rw [hv] at third
    obtain ⟨l0, l1, l2, lr, el⟩ : ∃ l0 l1 l2 lr, ls = l0 :: l1 :: l2 :: lr := three_of (by rw [← pts_len ls, els, List.length_map, ej]; simp [pts])
    have el2 : l2.2 = Hl.lvl v (Sq68.steps v : Nat) m n (Sq68.sub p2 p0) := by
      rw [el, ej] at els
      have := (List.cons.inj (List.cons.inj (List.cons.inj els).2).2).1
      rw [← e2]
      exact this
    have gl2 : (refs ls)[2]? = some (.ref l2.1) := by rw [el]; rfl
    have tl2 : SqT K H6 l2.1 (tupV l2.2) := tls l2 (by rw [el]; simp)
    have oriB : ori p0 p1 p2 ≤ 8000000 := by
      have n2 := near p2 (by simp)
      have e : ori p0 p1 p2 = v.1 * (Sq68.sub p2 p0).2 - v.2 * (Sq68.sub p2 p0).1 := by rw [← hv]; rfl
      have b1 := mul_bound (A := 2000) (B := 2000) nv.1.1 nv.1.2 n2.2.1 n2.2.2
      have b2 := mul_bound (A := 2000) (B := 2000) nv.2.1 nv.2.2 n2.1.1 n2.1.2
      omega
    refine ⟨_, rfl, dl, _, _, _, rfl, rfl, SqL.of hls, atI_nat (j := 2) gl2, ?_⟩
    refine ⟨_, rfl, l2.1, _, _, _, rfl, rfl, tl2, atI_nat (j := 0) rfl, _, rfl, _, _, rfl, rfl, _, rfl, l2.1, _, _, _, rfl, rfl, tl2, atI_nat (j := 1) rfl, _, _, rfl, rfl, ⟨by rw [el2]; exact third.1, by rw [el2]; omega⟩, ?_⟩
    -- the row
    refine ⟨_, rfl, dl, rfl, ⟨_, SqL.of hls⟩, fun dr nr => ?_⟩
    refine lc_list (K := K) (a := dl) (xs := refs ls) (Grown K H6 dr ((pts ls).map (Hl.leant ((l2.2.1 - (Sq68.steps v : Nat)) / l2.2.2)))) (Grown.start _ nr) (fun i H' _ g => SqL.of (g.sm _ _ hls)) ?_ ?_
    · rintro u y H7 hu g
      obtain ⟨k, hk, rfl⟩ := refs_get hu
      have mk : k ∈ ls := List.mem_of_getElem? hk
      have gk := pts_get hk
      have ky : -8000000 ≤ k.2.2 ∧ k.2.2 ≤ 8000000 := by
        have : k.2 ∈ pts ls := List.mem_map.2 ⟨k, mk, rfl⟩
        rw [els, ejs, List.map_map] at this
        obtain ⟨p, hp, e⟩ := List.mem_map.1 this
        rw [← e]
        have np := near p hp
        show -8000000 ≤ Sq68.cross v (Sq68.sub p p0) / _ ∧ Sq68.cross v (Sq68.sub p p0) / _ ≤ 8000000
        have b1 := mul_bound (A := 2000) (B := 2000) nv.1.1 nv.1.2 np.2.1 np.2.2
        have b2 := mul_bound (A := 2000) (B := 2000) nv.2.1 nv.2.2 np.1.1 np.1.2
        refine div_bound (by omega) ?_ ?_ <;> (unfold Sq68.cross; omega)
      refine ⟨k.1, _, rfl, same_sqT g.sm (tls k mk), rfl, _, _, rfl, _, _, rfl, rfl, rfl, ?_⟩
      refine lc_yes ?_
      refine ⟨_, rfl, _, rfl, _, rfl, _, _, rfl, rfl, .inr ⟨by omega, by omega⟩, _, _, rfl, rfl, _, rfl, (by show 2 ≤ sizeLine; decide), fun T nT => ?_⟩
      exact g.next nr (by rw [List.length_map, els, List.length_map]; omega) (v := Hl.leant ((l2.2.1 - (Sq68.steps v : Nat)) / l2.2.2) k.2) (by rw [List.getElem?_map, gk]; rfl) nT
    rintro H7 g7
    obtain ⟨rs, s7, hrs, trs, ers⟩ := g7.whole (by rw [List.length_map, pts_len, refs_len]; exact Nat.le_refl _)
    have sA := (sH4.trans s5).trans s6
    refine q H7 dr rs (sA.trans s7) (sA.free nr) hrs trs ?_
    rw [ebeg, Hl.row_eq (m := m) (n := n) hD (by rw [hv]; exact emn), ers, els, ejs, el2, hv]
end
end Pg

set_option Elab.async false
set_option linter.all false
set_option maxRecDepth 100000
set_option maxHeartbeats 2000000
namespace Pg
open PySem PySem.Spec PyProof.Rows L2 OwR
open Hl (ori rg Good)
section
variable {P : Program} {w : World} {K : PySem.W.Frag} {mg : Str → Option Value} {base : Heap}
/-! ### rows_from_each(corners) -/
/-- rows as lists of the heap's own -/
def NRows (K : PySem.W.Frag) (H : Hp) (rs : RowsP) : Prop := ∀ r ∈ rs, H r.1 = some (.lst (refs r.2)) ∧ TPs K H r.2
theorem NRows.same {H H' : Hp} {rs : RowsP} (h : NRows K H rs) (s : Same H H') : NRows K H' rs := fun r hr => ⟨s _ _ (h r hr).1, (h r hr).2.same s⟩
theorem NRows.rows {H : Hp} {rs : RowsP} (h : NRows K H rs) : RowsIn K H rs := fun r hr => ⟨SqL.of (h r hr).1, (h r hr).2⟩
def spRows (K : PySem.W.Frag) : Sp := fun vs H Q _ => ∃ (a : Addr) (ks : List AP), vs = [.ref a] ∧ PolyAt K H a ks ∧ Mids ks ∧ (∀ r ∈ Sq68.turns (pts ks), Begins r) ∧
  ∀ (H' : Hp) (p : Addr) (rs : RowsP), Same H H' → H p = none → H' p = some (.lst (rrefs rs)) → NRows K H' rs → rpts rs = (Sq68.turns (pts ks)).map Sq68.laid → Q (.ref p) H'
abbrev D_rws (K : PySem.W.Frag) (mg : Str → Option Value) := DefF K mg "rows_from_each" s_rows_from_each ["corners"]
theorem turns_get {c : List Pt} {i : Nat} (h : i < c.length) : (Sq68.turns c)[i]? = some (c.drop i ++ c.take i) := by
  unfold Sq68.turns
  rw [List.getElem?_map, List.getElem?_range h]
  rfl
theorem turns_len (c : List Pt) : (Sq68.turns c).length = c.length := by unfold Sq68.turns; rw [List.length_map, List.length_range]
theorem rrefs_append (a b : RowsP) : rrefs (a ++ b) = rrefs a ++ rrefs b := List.map_append
theorem rpts_append (a b : RowsP) : rpts (a ++ b) = rpts a ++ rpts b := List.map_append
theorem rrefs_len (a : RowsP) : (rrefs a).length = a.length := List.length_map ..
theorem rpts_len (a : RowsP) : (rpts a).length = a.length := List.length_map ..
theorem ok_rws (D : D_rws K mg) (DR : D_row K mg) (DS : D_see K mg) (DD : D_daf K mg) (DX : D_crs K mg) (B : Blt mg) : FnOk P w K mg base CX0 3 D.f D.fd ["corners"] (spRows K) := by
  have GR : FnOk P w K mg base CX0 2 DR.f DR.fd ["corners", "start"] (spRowF K) := ok_row DR DS DD DX B
  refine D.F.ok sc_rows_from_each (fun vs H Q E h => ?_) (fun cdv A outer s H vs Q E hr h => ?_)
  · obtain ⟨a, ks, rfl, _⟩ := h
    rfl
  · obtain ⟨a, ks, rfl, hp, hMd, hbeg, q⟩ := h
    have nd := sc_rows_from_each.nd
    refine ⟨_, pss_one (ps_ret (pe_lc (own := [("start", 1)]) (g := gName 1) (tt := tYes) (te := tCall (spRowF K) [] noX (tCons (tVar 0) (tCons (tVar 1) tNil))) rfl nd (pi_range1 (by rfl) B.rng (pa_cons (pe_callB call_len_seq (by rfl) B.len PySem.boot_len (pa_cons (pv 0) pa_nil)) pa_nil))
      (blkOk_by (N := ["corners", "start"]) (sc := defScope s_rows_from_each) (by decide +kernel)) (fun _ _ _ _ _ => pg_name (i := 1) nd rfl (.inl rfl)) (fun _ _ _ _ _ => pts_nil)
      (fun _ _ _ _ _ => pe_call GR hr (by rfl) DR.g DR.F.kp DR.b .nil pass0 (pa_cons (pv 0) (pa_cons (pv 1) pa_nil))))), ?_⟩
    have lr : ((refs ks).length : Int).toNat = ks.length := by rw [refs_len]; omega
    have lle := hp.2.2.2
    refine ⟨_, rfl, a, _, rfl, .inl hp.1, _, rfl, by omega, by rw [refs_len]; omega, fun d nd1 => ?_⟩
    rw [lr]
    refine lc_it walk_range (fun i H' => ∃ rs : RowsP, Same H H' ∧ H' d = some (.lst (rrefs rs)) ∧ NRows K H' rs ∧ (∀ r ∈ rs, r.1 ≠ d) ∧ rpts rs = ((Sq68.turns (pts ks)).map Sq68.laid).take i)
      ⟨[], same_upd nd1, upd_same, (fun r hr => absurd hr (by simp)), (fun r hr => absurd hr (by simp)), by simp [rpts]⟩ (fun i H' _ _ => trivial) ?_ ?_
    · rintro i x H2 H3 hi ⟨rs, sm, hd, hrs, hnd, ers⟩ ⟨rfl, rfl⟩
      have hi' : i < (pts ks).length := by rw [pts_len]; exact hi
      have gt := turns_get hi'
      refine ⟨rfl, ?_⟩
      refine lc_yes ?_
      refine ⟨_, rfl, _, rfl, a, ks, i, (show [V.ref a, V.int (0 + (i : Int))] = [V.ref a, V.int (i : Int)] by rw [Int.zero_add]), hp.same sm, hMd, hi, hbeg _ (List.mem_of_getElem? gt), fun H4 p js s4 np hpj hjs ejs => ?_⟩
      have ndp : d ≠ p := ne_of_none hd np
      refine ⟨_, s4 _ _ hd, ?_, rs ++ [(p, js)], same_upd' (sm.trans s4) nd1, ?_, ?_, ?_, ?_⟩
      · have : (rpts rs).length ≤ i := by rw [ers, List.length_take]; omega
        rw [rpts_len] at this
        rw [rrefs_len]
        exact small1000 (by omega)
      · rw [upd_same, rrefs_append]
        rfl
      · intro r hr'
        rcases List.mem_append.1 hr' with z | z
        · have := hrs.same s4 r z
          refine ⟨by rw [upd_ne (hnd r z)]; exact this.1, fun k hk => sqT_upd (s4 _ _ hd) (this.2 k hk)⟩
        · rw [List.mem_singleton.1 z]
          exact ⟨by rw [upd_ne (Ne.symm ndp)]; exact hpj, fun k hk => sqT_upd (s4 _ _ hd) (hjs k hk)⟩
      · intro r hr'
        rcases List.mem_append.1 hr' with z | z
        · exact hnd r z
        · rw [List.mem_singleton.1 z]
          exact Ne.symm ndp
      · have gl : ((Sq68.turns (pts ks)).map Sq68.laid)[i]? = some (pts js) := by rw [List.getElem?_map, gt, ejs]; rfl
        rw [rpts_append, ers, take_snoc gl]
        rfl
    · rintro H' ⟨rs, sm, hd, hrs, hnd, ers⟩
      rw [List.take_of_length_le (by rw [List.length_map, turns_len, pts_len]; exact Nat.le_refl _)] at ers
      exact q H' d rs sm nd1 hd hrs ers
/-! ### one_form(corners) -/
def spForm (K : PySem.W.Frag) : Sp := fun vs H Q _ => ∃ (a : Addr) (ks : List AP), vs = [.ref a] ∧ PolyAt K H a ks ∧ Mids ks ∧ Hl.CT (pts ks) ∧ 3 ≤ ks.length ∧
  ∀ (H' : Hp) (p : Addr) (js : List AP), Same H H' → SqL K H' p (refs js) → TPs K H' js → pts js = Sq68.form (pts ks) → Q (.ref p) H'
abbrev D_frm (K : PySem.W.Frag) (mg : Str → Option Value) := DefF K mg "one_form" s_one_form ["corners"]
theorem ok_frm (D : D_frm K mg) (DW : D_rws K mg) (DM : D_mir K mg) (DR : D_row K mg) (DS : D_see K mg) (DD : D_daf K mg) (DX : D_crs K mg) (B : Blt mg) : FnOk P w K mg base CX0 4 D.f D.fd ["corners"] (spForm K) := by
  have GW : FnOk P w K mg base CX0 3 DW.f DW.fd ["corners"] (spRows K) := ok_rws DW DR DS DD DX B
  have GM : FnOk P w K mg base CX0 1 DM.f DM.fd ["corners"] (spMir K) := ok_mir DM B
  refine D.F.ok sc_one_form (fun vs H Q E h => ?_) (fun cdv A outer s H vs Q E hr h => ?_)
  · obtain ⟨a, ks, rfl, _⟩ := h
    rfl
  · obtain ⟨a, ks, rfl, hp, hMd, ct, h3, q⟩ := h
    have hr1 : Room 1 _ := hr.mono (by decide)
    refine ⟨_, pss_one (ps_ret (pe_callB (cr_minRows rfl hr.units) (by rfl) B.min (by decide +kernel) (pa_cons (pe_op op_cat (pe_call GW hr (by rfl) DW.g DW.F.kp DW.b .nil pass0 (pa_cons (pv 0) pa_nil))
      (pe_call GW hr (by rfl) DW.g DW.F.kp DW.b .nil pass0 (pa_cons (pe_call GM hr1 (by rfl) DM.g DM.F.kp DM.b .nil pass0 (pa_cons (pv 0) pa_nil)) pa_nil))) pa_nil))), ?_⟩
    have h3' : 3 ≤ (pts ks).length := by rw [pts_len]; exact h3
    have rows := ct.rows h3'
    have lle := hp.2.2.2
    refine ⟨_, rfl, a, ks, rfl, hp, hMd, (fun r hr => rows r (List.mem_append_left _ hr)), fun H1 p1 r1 s1 n1 e1 t1 q1 => ?_⟩
    have hp1 := hp.same s1
    refine ⟨_, rfl, a, ks, rfl, hp1.1, hp1.2.1, by omega, fun H2 pm ms s2 n2 e2 t2 q2 => ?_⟩
    have memm : ∀ k ∈ ms, ∃ j ∈ ks, k.2 = Hl.mir j.2 := fun k hk => by
      have : k.2 ∈ pts ms := List.mem_map.2 ⟨k, hk, rfl⟩
      rw [q2, Hl.mirrored_eq, List.mem_reverse] at this
      obtain ⟨z, hz, e⟩ := List.mem_map.1 this
      obtain ⟨j, hj, rfl⟩ := List.mem_map.1 hz
      exact ⟨j, hj, e.symm⟩
    have lms : ms.length = ks.length := by rw [← pts_len ms, q2, Hl.mirrored_len, pts_len]
    refine ⟨pm, ms, rfl, ⟨SqL.of e2, t2, fun k hk => ?_, by omega⟩, fun k hk => ?_, (fun r hr => rows r (List.mem_append_right _ (by rw [← q2]; exact hr))), fun H3 p3 r3 s3 n3 e3 t3 q3 => ?_⟩
    · obtain ⟨j, hj, e⟩ := memm k hk
      obtain ⟨⟨_, _⟩, _, _⟩ := hp.2.2.1 j hj
      rw [e]
      exact ⟨⟨by show _ ≤ -j.2.1; omega, by show -j.2.1 ≤ _; omega⟩, by show _ ≤ j.2.2; omega, by show j.2.2 ≤ _; omega⟩
    · obtain ⟨j, hj, e⟩ := memm k hk
      obtain ⟨⟨_, _⟩, _, _⟩ := hMd j hj
      rw [e]
      exact ⟨⟨by show _ ≤ -j.2.1; omega, by show -j.2.1 ≤ _; omega⟩, by show _ ≤ j.2.2; omega, by show j.2.2 ≤ _; omega⟩
    have l1 : r1.length = ks.length := by rw [← rpts_len, q1, List.length_map, turns_len, pts_len]
    have l3 : r3.length = ks.length := by rw [← rpts_len, q3, List.length_map, turns_len, pts_len, lms]
    refine ⟨p1, p3, _, _, rfl, rfl, s3 _ _ (s2 _ _ e1), e3, ?_, fun p np => ?_⟩
    · rw [rrefs_len, rrefs_len]
      exact Nat.le_of_lt (small1000 (by omega))
    have s4 : Same H3 (upd H3 p (.lst (rrefs r1 ++ rrefs r3))) := same_upd np
    have sA := ((s1.trans s2).trans s3).trans s4
    have hall : RowsIn K (upd H3 p (.lst (rrefs r1 ++ rrefs r3))) (r1 ++ r3) := fun r hr => by
      rcases List.mem_append.1 hr with z | z
      · exact (((t1.same s2).same s3).same s4).rows r z
      · exact (t3.same s4).rows r z
    have hmin : minRow (rpts (r1 ++ r3)) = Sq68.form (pts ks) := by
      rw [rpts_append, q1, q3, q2, ← List.map_append]
      exact minRow_form (fun z => by rw [z] at h3'; simp at h3')
    refine ⟨p, r1 ++ r3, rfl, SqL.of (by rw [upd_same, rrefs_append]), ?_, hall, fun r hr e => ?_⟩
    · intro z
      have := congrArg List.length z
      rw [List.length_append, l1, List.length_nil] at this
      omega
    · exact q _ r.1 r.2 sA (hall r hr).1 (hall r hr).2 (e.trans hmin)
/-! ### dual_corner(a, b), dual_corners(corners) -/
def spDC (K : PySem.W.Frag) : Sp := fun vs H Q _ => ∃ (ta tb : Addr) (a b : Pt), vs = [.ref ta, .ref tb] ∧ SqT K H ta (tupV a) ∧ SqT K H tb (tupV b) ∧ Fair a ∧ 0 < Sq68.cross a b ∧ Sq68.cross a b < 1000000000 ∧ ∀ T, H T = none → Q (.ref T) (upd H T (.tup (tupV (Hl.dualC a b))))
abbrev D_dco (K : PySem.W.Frag) (mg : Str → Option Value) := DefF K mg "dual_corner" s_dual_corner ["a", "b"]
theorem ok_dco (D : D_dco K mg) (DX : D_crs K mg) : FnOk P w K mg base CX0 2 D.f D.fd ["a", "b"] (spDC K) := by
  have GX : FnOk P w K mg base CX0 1 DX.f DX.fd ["a", "b"] (spCross K) := ok_crs DX
  refine D.F.ok sc_dual_corner (fun vs H Q E h => ?_) (fun cdv A outer s H vs Q E hr h => ?_)
  · obtain ⟨ta, tb, a, b, rfl, _⟩ := h
    rfl
  · obtain ⟨ta, tb, a, b, rfl, ha, hb, fa, c0, c1, q⟩ := h
    have nd := sc_dual_corner.nd
    refine ⟨_, pss_cons (ps_set (i := 2) nd rfl (.inl rfl) (pe_call GX hr (by rfl) DX.g DX.F.kp DX.b .nil pass0 (pa_cons (pv 0) (pa_cons (pv 1) pa_nil))))
      (pss_one (ps_ret (pe_tup (pa_cons (pe_op op_fdiv (pe_op op_sub (pe_ix ix_tup (pv 1) pe_int (fun _ _ => rfl)) (pe_ix ix_tup (pv 0) pe_int (fun _ _ => rfl))) (pv 2)) (pa_cons (pe_op op_fdiv (pe_op op_sub (pe_ix ix_tup (pv 0) pe_int (fun _ _ => rfl)) (pe_ix ix_tup (pv 1) pe_int (fun _ _ => rfl))) (pv 2)) pa_nil))))), ?_⟩
    have a0 : atI (tupV a) 0 = some (.int a.1) := atI_nat (j := 0) rfl
    have a1 : atI (tupV a) 1 = some (.int a.2) := atI_nat (j := 1) rfl
    have b0 : atI (tupV b) 0 = some (.int b.1) := atI_nat (j := 0) rfl
    have b1 : atI (tupV b) 1 = some (.int b.2) := atI_nat (j := 1) rfl
    refine ⟨_, rfl, _, rfl, ta, tb, a, b, rfl, ha, hb, fa, ?_⟩
    exact ⟨_, rfl, tb, _, _, _, rfl, rfl, hb, b1, _, rfl, ta, _, _, _, rfl, rfl, ha, a1, _, _, rfl, rfl, _, rfl, _, _, rfl, rfl, ⟨c0, by omega⟩, _, rfl, ta, _, _, _, rfl, rfl, ha, a0, _, rfl, tb, _, _, _, rfl, rfl, hb, b0, _, _, rfl, rfl, _, rfl, _, _, rfl, rfl, ⟨c0, by omega⟩, (by show 2 ≤ sizeLine; decide), fun T nT => q T nT⟩
def spDual (K : PySem.W.Frag) (C : Addr) : Sp := fun vs H Q E => ∃ (a : Addr) (ks : List AP), vs = [.ref a] ∧ HouseAt K H a ks ∧
  ((∀ o, Sq68.innerPoints (pts ks) ≠ [o]) → ∀ H', Same H H' → E (.ref C) none H') ∧
  (∀ o, Sq68.innerPoints (pts ks) = [o] → ∀ (H' : Hp) (p : Addr) (js : List AP), Same H H' → H' p = some (.lst (refs js)) → TPs K H' js → pts js = Sq68.dual (pts ks) → Q (.ref p) H')
abbrev D_dus (K : PySem.W.Frag) (mg : Str → Option Value) := DefF K mg "dual_corners" s_dual_corners ["corners"]
theorem mids_tame {ks : List AP} (h : Tame ks) : Mids ks := fun k hk => by
  obtain ⟨⟨_, _⟩, _, _⟩ := h k hk
  exact ⟨⟨by omega, by omega⟩, by omega, by omega⟩
theorem ok_dus (D : D_dus K mg) (DI : D_cwi K mg) (DA : D_all K mg) (DW : D_twi K mg) (DC : D_cae K mg) (DE : D_edg K mg) (DG : D_gcd K mg) (DD : D_daf K mg) (DX : D_crs K mg) (DP : D_ptw K mg) (DT : D_sta K mg) (DU : D_turn K mg) (DS : D_see K mg) (DO : D_dco K mg)
    (XW : ExF K mg "NotJustOneWithin") (C : CstW mg) (B : Blt mg) : FnOk P w K mg base (L2.CX P w) 6 D.f D.fd ["corners"] (spDual K XW.C) := by
  have GI : FnOk P w K mg base CX0 5 DI.f DI.fd ["corners"] (spOfPoly K Sq68.inner) := ok_cwi DI DA DW DC DE DG DD DX B
  have GP : FnOk P w K mg base CX0 3 DP.f DP.fd ["corners"] (spWithin K) := ok_ptw DP DT DE DU C B
  have GE : FnOk P w K mg base CX0 1 DE.f DE.fd ["corners"] (spEdges K) := ok_edg DE B
  have GS : FnOk P w K mg base CX0 1 DS.f DS.fd ["origin", "points"] (spSeen K) := ok_see DS
  have GO : FnOk P w K mg base CX0 2 DO.f DO.fd ["a", "b"] (spDC K) := ok_dco DO DX
  refine D.F.okX sc_dual_corners (fun vs H Q E h => ?_) (fun cdv A outer s H vs Q E hr h => ?_)
  · obtain ⟨a, ks, rfl, _⟩ := h
    rfl
  · obtain ⟨a, ks, rfl, hh, bad, good⟩ := h
    have nd := sc_dual_corners.nd
    have hr1 : Room 1 _ := hr.mono (by decide)
    have hr2 : Room 2 _ := hr.mono (by decide)
    have hr3 : Room 3 _ := hr.mono (by decide)
    refine ⟨_, pss_cons (ps_if (pt_cmpR op_ne (pe_call GI hr (by rfl) DI.g DI.F.kp DI.b .nil pass0 (pa_cons (pv 0) pa_nil)) pe_int (nomark _))
        (pss_one (ps_raise rfl (takes_of rfl rfl rfl rfl) (pmk_own0 PySem.F.excBase_Exception XW.x XW.g XW.k (raises_own XW.b XW.t) rfl))) pss_nil)
      (PSs.nox (pss_cons (ps_set (i := 1) nd rfl (.inl rfl) (pe_ix ix_list (pe_call GP hr3 (by rfl) DP.g DP.F.kp DP.b .nil pass0 (pa_cons (pv 0) pa_nil)) pe_int (fun _ _ => rfl)))
      (pss_one (ps_ret (pe_lc (own := [("a", 2), ("b", 3)]) (g := gPair K 2 3) (tt := tYes) (te := tCall (spDC K) [] noX (tCons (tVar 2) (tCons (tVar 3) tNil))) rfl nd (pi_list (pe_call GE hr1 (by rfl) DE.g DE.F.kp DE.b .nil pass0 (pa_cons (pe_call GS hr1 (by rfl) DS.g DS.F.kp DS.b .nil pass0 (pa_cons (pv 1) (pa_cons (pv 0) pa_nil))) pa_nil)))
        (blkOk_by (N := ["corners", "middle", "a", "b"]) (sc := defScope s_dual_corners) (by decide +kernel))
        (fun _ _ _ _ _ => pg_tup rfl (pgs_cons (pg_name (i := 2) nd rfl (.inl rfl)) (pgs_cons (pg_name (i := 3) nd rfl (.inl rfl)) pgs_nil))) (fun _ _ _ _ _ => pts_nil)
        (fun _ _ _ _ _ => pe_call GO hr2 (by rfl) DO.g DO.F.kp DO.b .nil pass0 (pa_cons (pv 2) (pa_cons (pv 3) pa_nil)))))))), ?_⟩
    have G := hh.2.2
    have pk := Hl.pick_one G
    have hl := hh.len
    refine ⟨_, rfl, a, ks, rfl, hh.poly, fun H1 s1 => ?_⟩
    refine ⟨rfl, _, rfl, ?_⟩
    by_cases c : Sq68.inner (pts ks) = 1
    · refine ifF (by rw [neB]; exact decide_eq_false (by simpa using c)) ?_
      obtain ⟨o, ho⟩ := pk.1 c
      have hne : ks ≠ [] := fun z => by rw [z] at hl; simp at hl
      refine ⟨_, rfl, a, ks, rfl, hh.poly.same s1, mids_tame hh.tame, hne, fun H2 pw ws s2 nw hw tw ew lw => ?_⟩
      obtain ⟨w0, ews⟩ : ∃ w0, ws = [w0] := by
        have : (pts ws).length = 1 := by rw [ew, ho]; rfl
        rw [pts_len] at this
        exact List.length_eq_one_iff.1 this
      have ew0 : w0.2 = o := by
        rw [ews, ho] at ew
        exact (List.cons.inj ew).1
      refine ⟨pw, _, _, _, rfl, rfl, SqL.of hw, (by rw [ews]; exact atI_nat (j := 0) rfl), ?_⟩
      have s12 := s1.trans s2
      have hh2 := hh.kn (Kn.of_same s12)
      refine ⟨_, rfl, _, rfl, w0.1, a, o, ks, rfl, (by rw [← ew0]; exact tw w0 (by rw [ews]; simp)), hh2.1, hh2.2.1, by omega, fun H3 sa js s3 nsa hsa tjs ejs => ?_⟩
      have ljs : js.length = ks.length := by rw [← pts_len js, ejs, List.length_map, pts_len]
      refine ⟨sa, js, rfl, SqL.of hsa, by omega, fun H4 l es s4 nl hl4 ee het => ?_⟩
      refine ⟨l, rfl, ⟨_, SqL.of hl4⟩, fun d nd1 => ?_⟩
      have epts : (es.map fun e => Hl.dualC e.2.1.2 e.2.2.2) = Sq68.dual (pts ks) := by
        rw [← Hl.dual_prog G ho, ← ejs, edges_pts, ← ee, List.map_map, List.map_map]
        rfl
      have pos := Hl.dual_pos G ho
      rw [← ejs, edges_pts, ← ee, List.map_map] at pos
      have les : es.length = ks.length := by rw [← ljs, ← edgesK_len js, ← ee, List.length_map]
      refine lc_list (K := K) (a := l) (xs := erefs es) (Grown K H4 d (es.map fun e => Hl.dualC e.2.1.2 e.2.2.2)) (Grown.start _ nd1) (fun i H' _ g => SqL.of (g.sm _ _ hl4)) ?_ ?_
      · rintro i y H' hi g
        obtain ⟨e, he, rfl⟩ := erefs_get hi
        have me : e ∈ es := List.mem_of_getElem? he
        have mk : e.2 ∈ edgesK js := by rw [← ee]; exact List.mem_map.2 ⟨e, me, rfl⟩
        obtain ⟨m1, m2⟩ := edgesK_mem mk
        have sm := g.sm
        have t1 : SqT K H' e.2.1.1 (tupV e.2.1.2) := same_sqT (s4.trans sm) (tjs _ m1)
        have t2 : SqT K H' e.2.2.1 (tupV e.2.2.2) := same_sqT (s4.trans sm) (tjs _ m2)
        have pe := pos (e.2.1.2, e.2.2.2) (List.mem_map.2 ⟨e, me, rfl⟩)
        have fe : Fair e.2.1.2 := by
          have : e.2.1.2 ∈ pts js := List.mem_map.2 ⟨e.2.1, m1, rfl⟩
          rw [ejs] at this
          obtain ⟨p, hp, q⟩ := List.mem_map.1 this
          rw [← q]
          obtain ⟨⟨_, _⟩, _, _⟩ := G.small p hp
          have io : o ∈ Sq68.innerPoints (pts ks) := by rw [ho]; simp
          have hc : pts ks ≠ [] := fun z => by
            have := G.three
            rw [z] at this
            simp at this
          obtain ⟨⟨b1, x1, y1⟩, ⟨b2, x2, y2⟩, ⟨b3, x3, y3⟩, ⟨b4, x4, y4⟩⟩ := Hl.within_box hc ((Hl.inner_mem hc).1 io)
          obtain ⟨⟨_, _⟩, _, _⟩ := G.small b1 x1
          obtain ⟨⟨_, _⟩, _, _⟩ := G.small b2 x2
          obtain ⟨⟨_, _⟩, _, _⟩ := G.small b3 x3
          obtain ⟨⟨_, _⟩, _, _⟩ := G.small b4 x4
          unfold Sq68.sub
          exact ⟨⟨by simp only; omega, by simp only; omega⟩, by simp only; omega, by simp only; omega⟩
        refine ⟨e.1, _, rfl, SqT.of (sm _ _ (het e me)), rfl, _, _, rfl, _, _, rfl, rfl, rfl, ?_⟩
        refine lc_yes ?_
        refine ⟨_, rfl, _, rfl, e.2.1.1, e.2.2.1, e.2.1.2, e.2.2.2, rfl, t1, t2, fe, pe.1, (by have := pe.2; simp only at this; omega), fun T nT => ?_⟩
        exact g.next nd1 (by rw [List.length_map]; omega) (v := Hl.dualC e.2.1.2 e.2.2.2) (by rw [List.getElem?_map, he]; rfl) nT
      · rintro H' g
        obtain ⟨ds, sm, hd, tds, eds⟩ := g.whole (by rw [List.length_map, erefs_len]; exact Nat.le_refl _)
        exact good o ho H' d ds (((s12.trans s3).trans s4).trans sm) hd tds (eds.trans epts)
    · refine ifT (by rw [neB]; exact decide_eq_true c) ?_
      exact bad (fun o ho => c (pk.2 ⟨o, ho⟩)) H1 s1
end
end Pg

set_option Elab.async false
set_option linter.all false
set_option maxRecDepth 100000
set_option maxHeartbeats 2000000
namespace Pg
open PySem PySem.Spec PyProof.Rows L2 OwR
open Hl (ori rg Good)
section
variable {P : Program} {w : World} {K : PySem.W.Frag} {mg : Str → Option Value} {base : Heap}
/-! ### answer_same(corners, reader) -/
def spSame (K : PySem.W.Frag) (CR CP CN CB CL : Addr) : Sp := fun vs H Q E => ∃ (r q a dr dq c : Addr) (ns : List Int) (n : Nat) (ks : List AP) (x y rest : List Int), vs = [.ref c, .ref r] ∧ SitAt K CR CP H r q a dr dq c ns n ks ∧ RowsNext ns n x y rest ∧ rowOk x ∧ rowOk y ∧
  (∀ e, Sq68.read (nat x) (nat y) = .error e → (e = -3 → OutX K CR CP H r q a dr dq c ns rest ks CN E) ∧ (e = -1 → OutX K CR CP H r q a dr dq c ns rest ks CB E) ∧ (e = -4 → OutX K CR CP H r q a dr dq c ns rest ks CL E)) ∧
  (∀ c', Sq68.read (nat x) (nat y) = .ok c' → Out K CR CP H r q a dr dq ns rest (pts ks) [if Sq68.form c' = Sq68.form (pts ks) then 1 else 0] Q)
abbrev D_sam (K : PySem.W.Frag) (mg : Str → Option Value) := DefF K mg "answer_same" s_answer_same ["corners", "reader"]
/-- the defs that the form takes -/
structure FormP (K : PySem.W.Frag) (mg : Str → Option Value) where
  frm : D_frm K mg
  rws : D_rws K mg
  mir : D_mir K mg
  row : D_row K mg
  see : D_see K mg
  daf : D_daf K mg
  crs : D_crs K mg
theorem FormP.ok (F : FormP K mg) (B : Blt mg) : FnOk P w K mg base CX0 4 F.frm.f F.frm.fd ["corners"] (spForm K) := ok_frm F.frm F.rws F.mir F.row F.see F.daf F.crs B
theorem ok_sam (D : D_sam K mg) (R : Rdr K mg) (CP : Addr) (F : FormP K mg) (DRC : D_rco K mg) (DR : D_rpt K mg) (DC : D_cor K mg) (DW : D_way K mg) (DT : D_turn K mg) (XN : ExF K mg "NotPoints") (XB : ExF K mg "BeyondBounds") (XL : ExF K mg "InOneLine") (C : CstB mg) (B : Blt mg) :
    FnOk P w K mg base (L2.CX P w) 5 D.f D.fd ["corners", "reader"] (spSame K R.C CP XN.C XB.C XL.C) := by
  have GR : FnOk P w K mg base CX0 2 R.mR.f R.mR.fd ["self"] (spRow K R.C) := ok_rrow R
  have GC : FnOk P w K mg base (L2.CX P w) 4 DRC.f DRC.fd ["plus", "minus"] (spRC K XN.C XB.C XL.C) := ok_rco DRC DR DC DW DT XN XB XL C B
  have GF : FnOk P w K mg base CX0 4 F.frm.f F.frm.fd ["corners"] (spForm K) := F.ok B
  refine D.F.okX sc_answer_same (fun vs H Q E h => ?_) (fun cdv A outer s H vs Q E hr h => ?_)
  · obtain ⟨r, q, a, dr, dq, c, ns, n, ks, x, y, rest, rfl, _⟩ := h
    rfl
  · obtain ⟨r, q, a, dr, dq, c, ns, n, ks, x, y, rest, rfl, sit, hrow, hx, hy, bad, good⟩ := h
    have nd := sc_answer_same.nd
    have hr2 : Room 2 _ := hr.mono (by decide)
    have nrq := sit.ne
    refine ⟨_, pss_cons (ps_set (i := 2) nd rfl (.inl rfl) (pe_meth0 (pv 1) R.c R.mR.m GR hr2 R.mR.b .nil pass0))
      (pss_cons (ps_set (i := 3) nd rfl (.inl rfl) (pe_meth0 (pv 1) R.c R.mR.m GR hr2 R.mR.b .nil pass0))
      (pss_one (ps_ret (pe_lst (pa_cons (pe_ifExp (pt_cmpR (op_eqRows hr.units) (pe_call GF hr (by rfl) F.frm.g F.frm.F.kp F.frm.b .nil pass0 (pa_cons (pe_call GC hr (by rfl) DRC.g DRC.F.kp DRC.b .nil (passes_call (takes_of rfl rfl rfl rfl) (fun _ _ _ _ h => h)) (pa_cons (pv 2) (pa_cons (pv 3) pa_nil))) pa_nil))
        (pe_call GF hr (by rfl) F.frm.g F.frm.F.kp F.frm.b .nil pass0 (pa_cons (pv 0) pa_nil)) (nomark _)) pe_int pe_int) pa_nil))))), ?_⟩
    refine ⟨_, rfl, r, dr, _, rfl, sit.rd, rf_no _ _ (by decide +kernel) (by decide +kernel), r, a, dr, ns, x, _, n, rfl, sit.rd, sit.ls, hrow, fun H1 p1 b1 e1 n1 g1 => ?_⟩
    have sit1 := sit.moved b1 e1 nrq
    have hrow1 := drop_rows hrow
    refine ⟨_, rfl, r, dr, _, rfl, sit1.rd, rf_no _ _ (by decide +kernel) (by decide +kernel), r, a, dr, ns, y, rest, _, rfl, sit1.rd, sit1.ls, hrow1, fun H2 p2 b2 e2 n2 g2 => ?_⟩
    have sit2 := sit1.moved b2 e2 nrq
    have hrow2 := drop_rows hrow1
    have k12 : Kn H1 H2 := b2.kn sit1.rd
    have k2 : Kn H H2 := (b1.kn sit.rd).trans k12
    have fx : ∀ z ∈ x, 0 ≤ z := fun z hz => (hx.2 z hz).1
    have fy : ∀ z ∈ y, 0 ≤ z := fun z hz => (hy.2 z hz).1
    obtain ⟨q1, q2, q3, q4⟩ := read_eq fx fy
    refine ⟨_, rfl, _, rfl, p1, p2, x, y, rfl, ⟨SqL.of (k12 _ _ trivial g1), SqL.of g2, by have := hx.1; omega, by have := hy.1; omega⟩, fun hb H3 s3 => ?_, fun hok hb H3 s3 => ?_, fun hok hin hl H3 s3 => ?_, fun hok hin hl H3 cc js s3 ncc hcc hjs ejs => ?_⟩
    · exact (bad _ (q1 hb)).1 rfl H3 _ (k2.trans (Kn.of_same s3)) (sit2.same s3) hrow2
    · exact (bad _ (q2 hok hb)).2.1 rfl H3 _ (k2.trans (Kn.of_same s3)) (sit2.same s3) hrow2
    · exact (bad _ (q3 hok hin hl)).2.2 rfl H3 _ (k2.trans (Kn.of_same s3)) (sit2.same s3) hrow2
    · obtain ⟨er, gd⟩ := q4 hok hin hl
      have sit3 := sit2.same s3
      have good := good _ er
      generalize Hl.hull (Sq68.inOrder (pairUp (diffs x y))) = c' at *
      have hh' : HouseAt K H3 cc js := ⟨SqL.of hcc, hjs, by rw [ejs]; exact gd⟩
      have hl' := hh'.len
      refine ⟨cc, js, rfl, hh'.poly, mids_tame hh'.tame, hh'.2.2.ct, hl'.1, fun H4 f1 j1 s4 hf1 t1 ef1 => ?_⟩
      have sit4 := sit3.same s4
      have hl := sit4.hs.len
      refine ⟨_, rfl, c, ks, rfl, sit4.hs.poly, mids_tame sit4.hs.tame, sit4.hs.2.2.ct, hl.1, fun H5 f2 j2 s5 hf2 t2 ef2 => ?_⟩
      have sit5 := sit4.same s5
      have k5 : Kn H H5 := ((k2.trans (Kn.of_same s3)).trans (Kn.of_same s4)).trans (Kn.of_same s5)
      refine ⟨f1, f2, j1, j2, rfl, rfl, s5.seq hf1, t1.same s5, hf2, t2, _, rfl, ?_⟩
      rw [ef1, ef2, ejs]
      by_cases e : Sq68.form c' = Sq68.form (pts ks)
      · rw [if_pos e] at good
        refine ifT (decide_eq_true e) ?_
        refine ⟨(by show 1 ≤ sizeLine; decide), fun o no => ?_⟩
        have so := same_upd (o := .lst [V.int 1]) no
        exact good _ o c _ ks (k5.trans (Kn.of_same so)) (sit5.same so) hrow2 rfl (k5.new no) upd_same
      · rw [if_neg e] at good
        refine ifF (decide_eq_false e) ?_
        refine ⟨(by show 1 ≤ sizeLine; decide), fun o no => ?_⟩
        have so := same_upd (o := .lst [V.int 0]) no
        exact good _ o c _ ks (k5.trans (Kn.of_same so)) (sit5.same so) hrow2 rfl (k5.new no) upd_same
/-! ### answer_twelve(corners) -/
/-- the defs that the dual takes -/
structure DualP (K : PySem.W.Frag) (mg : Str → Option Value) where
  dus : D_dus K mg
  cwi : D_cwi K mg
  all : D_all K mg
  twi : D_twi K mg
  cae : D_cae K mg
  edg : D_edg K mg
  gcd : D_gcd K mg
  daf : D_daf K mg
  crs : D_crs K mg
  ptw : D_ptw K mg
  sta : D_sta K mg
  turn : D_turn K mg
  see : D_see K mg
  dco : D_dco K mg
theorem DualP.ok (F : DualP K mg) (XW : ExF K mg "NotJustOneWithin") (C : CstW mg) (B : Blt mg) : FnOk P w K mg base (L2.CX P w) 6 F.dus.f F.dus.fd ["corners"] (spDual K XW.C) := ok_dus F.dus F.cwi F.all F.twi F.cae F.edg F.gcd F.daf F.crs F.ptw F.sta F.turn F.see F.dco XW C B
def spTwl (K : PySem.W.Frag) (C : Addr) : Sp := fun vs H Q E => ∃ (a : Addr) (ks : List AP), vs = [.ref a] ∧ HouseAt K H a ks ∧
  ((∀ o, Sq68.innerPoints (pts ks) ≠ [o]) → ∀ H', Same H H' → E (.ref C) none H') ∧
  (∀ o, Sq68.innerPoints (pts ks) = [o] → ∀ (H' : Hp) (p : Addr), Same H H' → H p = none → H' p = some (.lst (intsV [0, edgeI (pts ks), edgeI (Sq68.dual (pts ks))])) → Q (.ref p) H')
abbrev D_twl (K : PySem.W.Frag) (mg : Str → Option Value) := DefF K mg "answer_twelve" s_answer_twelve ["corners"]
theorem ok_twl (D : D_twl K mg) (F : DualP K mg) (XW : ExF K mg "NotJustOneWithin") (C : CstW mg) (B : Blt mg) : FnOk P w K mg base (L2.CX P w) 7 D.f D.fd ["corners"] (spTwl K XW.C) := by
  have GC : FnOk P w K mg base CX0 3 F.cae.f F.cae.fd ["corners"] (spOfPoly K edgeI) := ok_cae F.cae F.edg F.gcd F.daf B
  have GD : FnOk P w K mg base (L2.CX P w) 6 F.dus.f F.dus.fd ["corners"] (spDual K XW.C) := F.ok XW C B
  refine D.F.okX sc_answer_twelve (fun vs H Q E h => ?_) (fun cdv A outer s H vs Q E hr h => ?_)
  · obtain ⟨a, ks, rfl, _⟩ := h
    rfl
  · obtain ⟨a, ks, rfl, hh, bad, good⟩ := h
    have hr3 : Room 3 _ := hr.mono (by decide)
    refine ⟨_, pss_one (ps_ret (pe_lst (pa_cons pe_int (pa_cons (pe_call GC hr3 (by rfl) F.cae.g F.cae.F.kp F.cae.b .nil pass0 (pa_cons (pv 0) pa_nil))
      (pa_cons (pe_call GC hr3 (by rfl) F.cae.g F.cae.F.kp F.cae.b .nil pass0 (pa_cons (pe_call GD hr (by rfl) F.dus.g F.dus.F.kp F.dus.b .nil (passes_call (takes_of rfl rfl rfl rfl) (fun _ _ _ _ h => h)) (pa_cons (pv 0) pa_nil)) pa_nil)) pa_nil))))), ?_⟩
    refine ⟨_, rfl, a, ks, rfl, hh.poly, fun H1 s1 => ?_⟩
    refine ⟨_, rfl, a, ks, rfl, hh.kn (Kn.of_same s1), (fun hb H2 s2 => bad hb H2 (s1.trans s2)), fun o ho H2 p js s2 hp hjs ejs => ?_⟩
    have sm := Hl.dual_small hh.2.2 ho
    have ld := (Hl.dual_ct hh.2.2 ho).2
    have hl := hh.len
    have lj : js.length = ks.length := by rw [← pts_len js, ejs, ld, pts_len]
    refine ⟨p, js, rfl, ⟨SqL.of hp, hjs, fun k hk => ?_, by omega⟩, fun H3 s3 => ?_⟩
    · obtain ⟨⟨_, _⟩, _, _⟩ := sm k.2 (by rw [← ejs]; exact List.mem_map.2 ⟨k, hk, rfl⟩)
      exact ⟨⟨by omega, by omega⟩, by omega, by omega⟩
    · refine ⟨(by show 3 ≤ sizeLine; decide), fun t nt => ?_⟩
      have sA := (s1.trans s2).trans s3
      refine good o ho _ t (sA.trans (same_upd nt)) (sA.free nt) ?_
      rw [upd_same, ejs]
      rfl
end
end Pg

set_option Elab.async false
set_option linter.all false
set_option maxRecDepth 100000
set_option maxHeartbeats 2000000
namespace Pg
open PySem PySem.Spec PyProof.Rows L2 OwR
open Hl (ori rg Good)
section
variable {P : Program} {w : World} {K : PySem.W.Frag} {mg : Str → Option Value} {base : Heap}
/-- one call, its refusals as errors -/
def spCall (K : PySem.W.Frag) (CR CP CN CB CL CW : Addr) : Sp := fun vs H Q E => ∃ (r q a dr dq c : Addr) (ns : List Int) (n : Nat) (ks : List AP) (cl : List (List Int)) (rest : List Int), vs = [.ref q, .ref r] ∧ SitAt K CR CP H r q a dr dq c ns n ks ∧
  PyFlat.call shape (ns.drop n) = some (cl, rest) ∧ PyInside.call PySq68.bound cl = true ∧
  Out K CR CP H r q a dr dq ns rest (Sq68Neutral.step (pts ks) (PySq68.whole cl)).1 (Sq68Neutral.step (pts ks) (PySq68.whole cl)).2 Q ∧
  (Sq68Neutral.step (pts ks) (PySq68.whole cl) = (pts ks, [-3]) → OutX K CR CP H r q a dr dq c ns rest ks CN E) ∧
  (Sq68Neutral.step (pts ks) (PySq68.whole cl) = (pts ks, [-1]) → OutX K CR CP H r q a dr dq c ns rest ks CB E) ∧
  (Sq68Neutral.step (pts ks) (PySq68.whole cl) = (pts ks, [-4]) → OutX K CR CP H r q a dr dq c ns rest ks CL E) ∧
  (Sq68Neutral.step (pts ks) (PySq68.whole cl) = (pts ks, [-4]) → OutX K CR CP H r q a dr dq c ns rest ks CW E)
/-- the four errors, and that they are apart -/
structure Errs (K : PySem.W.Frag) (mg : Str → Option Value) where
  N : ExF K mg "NotPoints"
  B : ExF K mg "BeyondBounds"
  L : ExF K mg "InOneLine"
  W : ExF K mg "NotJustOneWithin"
  nn : PySem.W.subIn K (.ref N.C) (.ref N.C) = some true
  bn : PySem.W.subIn K (.ref B.C) (.ref N.C) = some false
  bb : PySem.W.subIn K (.ref B.C) (.ref B.C) = some true
  ln : PySem.W.subIn K (.ref L.C) (.ref N.C) = some false
  lb : PySem.W.subIn K (.ref L.C) (.ref B.C) = some false
  ll : PySem.W.subIn K (.ref L.C) (.ref L.C) = some true
  wn : PySem.W.subIn K (.ref W.C) (.ref N.C) = some false
  wb : PySem.W.subIn K (.ref W.C) (.ref B.C) = some false
  wl : PySem.W.subIn K (.ref W.C) (.ref L.C) = some false
  ww : PySem.W.subIn K (.ref W.C) (.ref W.C) = some true
  rN : IntG mg "REFUSED_LISTS" (-3)
  rB : IntG mg "REFUSED_BOUNDS" (-1)
  rL : IntG mg "REFUSED_LINE" (-4)
  rW : IntG mg "REFUSED_WITHIN" (-4)
abbrev D_cal (K : PySem.W.Frag) (mg : Str → Option Value) := DefF K mg "answer_call" s_answer_call ["polygon", "reader"]
/-- return [a constant], in a suite -/
def sufT (z : Int) : Addr → Value → Option Addr → TS := fun _ _ _ => tRet (tLst (tCons (tC (.int z)) tNil))
theorem ok_aor {kC : Nat} (D : D_aor K mg) (DC : D_cal K mg) (R : Rdr K mg) (CP : Addr) (X : Errs K mg) (GC : FnOk P w K mg base (L2.CX P w) kC DC.f DC.fd ["polygon", "reader"] (spCall K R.C CP X.N.C X.B.C X.L.C X.W.C)) :
    FnOk P w K mg base CX0 (kC + 1) D.f D.fd ["polygon", "reader"] (spOneCall K R.C CP) := by
  obtain ⟨t0, g0⟩ := X.rN
  obtain ⟨t1, g1⟩ := X.rB
  obtain ⟨t2, g2⟩ := X.rL
  obtain ⟨t3, g3⟩ := X.rW
  refine D.F.ok sc_answer_or_refusal (fun vs H Q E h => ?_) (fun cdv A outer s H vs Q E hr h => ?_)
  · obtain ⟨r, q, a, dr, dq, c, ns, n, ks, cl, rest, rfl, _⟩ := h
    rfl
  · obtain ⟨r, q, a, dr, dq, c, ns, n, ks, cl, rest, rfl, sit, hcl, hin, good⟩ := h
    refine ⟨_, pss_one (ps_try_many (tb := fun W => tRet (tCallS (spCall K R.C CP X.N.C X.B.C X.L.C X.W.C) (WE W) (tCons (tVar 0) (tCons (tVar 1) tNil)))) (l := [(.ref X.N.C, sufT (-3)), (.ref X.B.C, sufT (-1)), (.ref X.L.C, sufT (-4)), (.ref X.W.C, sufT (-4))]) (Wout := fun _ _ _ _ => False) rfl rfl takes0
      (fun W pn xe tk _ => pss_one (ps_ret (by exact (pe_callS GC hr rfl DC.g DC.F.kp DC.b (fun σ => passAt tk σ) (by exact (pa_cons (pv 0) (pa_cons (pv 1) pa_nil)))))))
      (.cons ⟨rfl, by decide, .inl X.N.g⟩ (fun a oe cls d pn hz hf => pss_one (ps_ret (by exact (pe_lst (pa_cons (pe_glob rfl g0 (v := .int (-3)) ⟨_, rfl⟩) pa_nil)))))
      (.cons ⟨rfl, by decide, .inl X.B.g⟩ (fun a oe cls d pn hz hf => pss_one (ps_ret (by exact (pe_lst (pa_cons (pe_glob rfl g1 (v := .int (-1)) ⟨_, rfl⟩) pa_nil)))))
      (.cons ⟨rfl, by decide, .inl X.L.g⟩ (fun a oe cls d pn hz hf => pss_one (ps_ret (by exact (pe_lst (pa_cons (pe_glob rfl g2 (v := .int (-4)) ⟨_, rfl⟩) pa_nil)))))
      (.cons ⟨rfl, by decide, .inl X.W.g⟩ (fun a oe cls d pn hz hf => pss_one (ps_ret (by exact (pe_lst (pa_cons (pe_glob rfl g3 (v := .int (-4)) ⟨_, rfl⟩) pa_nil))))) .nil))))), ?_⟩
    have good' : Out K R.C CP H r q a dr dq ns rest (Sq68Neutral.step (pts ks) (PySq68.whole cl)).1 (Sq68Neutral.step (pts ks) (PySq68.whole cl)).2 Q := fun H' p d n' ks' k1 s1 e1 e2 e3 e4 => good H' p d n' ks' k1 s1 e1 e2 e3 e4
    have fin : ∀ (z : Int) (H' : Hp) (n' : Nat) (e : Sq68Neutral.step (pts ks) (PySq68.whole cl) = (pts ks, [z])), Kn H H' → SitAt K R.C CP H' r q a dr dq c ns n' ks → ns.drop n' = rest → ∀ o, H' o = none → Q (.ref o) (upd H' o (.lst [.int z])) := fun z H' n' e k1 s1 e1 o no =>
      good _ o c n' ks (k1.trans (Kn.of_same (same_upd no))) (s1.same (same_upd no)) e1 (by rw [e]) (k1.new no) (by rw [upd_same, e]; rfl)
    refine ⟨_, rfl, _, rfl, r, q, a, dr, dq, c, ns, n, ks, cl, rest, rfl, sit, hcl, hin, good', fun e H' n' k1 s1 e1 => ?_, fun e H' n' k1 s1 e1 => ?_, fun e H' n' k1 s1 e1 => ?_, fun e H' n' k1 s1 e1 => ?_⟩
    · exact ⟨true, exm_by X.N.b X.N.i X.N.t X.nn, fun _ _ _ => ⟨(by show 1 ≤ sizeLine; decide), fun o no => fin _ H' n' e k1 s1 e1 o no⟩, fun z => Bool.noConfusion z⟩
    · exact ⟨false, exm_by X.N.b X.N.i X.N.t X.bn, fun z => Bool.noConfusion z, fun _ => ⟨true, exm_by X.B.b X.B.i X.B.t X.bb, fun _ _ _ => ⟨(by show 1 ≤ sizeLine; decide), fun o no => fin _ H' n' e k1 s1 e1 o no⟩, fun z => Bool.noConfusion z⟩⟩
    · exact ⟨false, exm_by X.N.b X.N.i X.N.t X.ln, fun z => Bool.noConfusion z, fun _ => ⟨false, exm_by X.B.b X.B.i X.B.t X.lb, fun z => Bool.noConfusion z, fun _ => ⟨true, exm_by X.L.b X.L.i X.L.t X.ll, fun _ _ _ => ⟨(by show 1 ≤ sizeLine; decide), fun o no => fin _ H' n' e k1 s1 e1 o no⟩, fun z => Bool.noConfusion z⟩⟩⟩
    · exact ⟨false, exm_by X.N.b X.N.i X.N.t X.wn, fun z => Bool.noConfusion z, fun _ => ⟨false, exm_by X.B.b X.B.i X.B.t X.wb, fun z => Bool.noConfusion z, fun _ => ⟨false, exm_by X.L.b X.L.i X.L.t X.wl, fun z => Bool.noConfusion z, fun _ => ⟨true, exm_by X.W.b X.W.i X.W.t X.ww, fun _ _ _ => ⟨(by show 1 ≤ sizeLine; decide), fun o no => fin _ H' n' e k1 s1 e1 o no⟩, fun z => Bool.noConfusion z⟩⟩⟩⟩
end
end Pg

set_option Elab.async false
set_option linter.all false
set_option maxRecDepth 100000
set_option maxHeartbeats 2000000
namespace Pg
open PySem PySem.Spec PyProof.Rows L2 OwR
open Hl (ori rg Good)
/-! ### which call stands next -/
theorem rows_two {l rest : List Int} {xs : List (List Int)} (h : PyFlat.rows 2 l = some (xs, rest)) : ∃ x y, xs = [x, y] ∧ l = (x.length : Int) :: (x ++ ((y.length : Int) :: (y ++ rest))) := by
  unfold PyFlat.rows at h
  cases e : PyFlat.row l with
  | none => rw [e] at h; cases h
  | some xy =>
    obtain ⟨x, s⟩ := xy
    rw [e] at h
    simp only at h
    unfold PyFlat.rows at h
    cases e2 : PyFlat.row s with
    | none => rw [e2] at h; cases h
    | some yt =>
      obtain ⟨y, t⟩ := yt
      rw [e2] at h
      simp only [PyFlat.rows] at h
      cases h
      exact ⟨x, y, rfl, by rw [(row_short e).2, (row_short e2).2]⟩
theorem call_cases {l rest : List Int} {cl : List (List Int)} (h : PyFlat.call shape l = some (cl, rest)) : ∃ z rr, l = z :: rr ∧
    (((z = 1 ∨ z = 5 ∨ z = 9) ∧ ∃ x y, cl = [[z], x, y] ∧ rr = (x.length : Int) :: (x ++ ((y.length : Int) :: (y ++ rest)))) ∨
     (z = 4 ∧ ∃ k, cl = [[4, k]] ∧ rr = k :: rest) ∨
     ((z = 2 ∨ z = 3 ∨ z = 6 ∨ z = 7 ∨ z = 8 ∨ z = 10 ∨ z = 11) ∧ cl = [[z]] ∧ rr = rest)) := by
  cases l with
  | nil => cases h
  | cons z rr =>
    refine ⟨z, rr, rfl, ?_⟩
    have h : (match shape z with
      | none => none
      | some (n, k) => if rr.length < n then none else match PyFlat.rows k (rr.drop n) with
        | none => none
        | some (xs, t) => some ((z :: rr.take n) :: xs, t)) = some (cl, rest) := h
    have three : ∀ (hz : z = 1 ∨ z = 5 ∨ z = 9) (hs : shape z = some (0, 2)), ∃ x y, cl = [[z], x, y] ∧ rr = (x.length : Int) :: (x ++ ((y.length : Int) :: (y ++ rest))) := by
      intro hz hs
      rw [hs] at h
      simp only [Nat.not_lt_zero, if_false, List.drop_zero, List.take_zero] at h
      cases e : PyFlat.rows 2 rr with
      | none => rw [e] at h; cases h
      | some xt =>
        obtain ⟨xs, t⟩ := xt
        rw [e] at h
        simp only [Option.some.injEq, Prod.mk.injEq] at h
        obtain ⟨h1, h2⟩ := h
        subst h2
        obtain ⟨x, y, e1, e2⟩ := rows_two e
        exact ⟨x, y, by rw [← h1, e1], e2⟩
    have zero : ∀ (hs : shape z = some (0, 0)), cl = [[z]] ∧ rr = rest := by
      intro hs
      rw [hs] at h
      simp only [Nat.not_lt_zero, if_false, List.drop_zero, List.take_zero, PyFlat.rows, Option.some.injEq, Prod.mk.injEq] at h
      exact ⟨h.1.symm, h.2⟩
    by_cases h1 : z = 1
    · exact .inl ⟨.inl h1, three (.inl h1) (by rw [h1]; rfl)⟩
    by_cases h5 : z = 5
    · exact .inl ⟨.inr (.inl h5), three (.inr (.inl h5)) (by rw [h5]; rfl)⟩
    by_cases h9 : z = 9
    · exact .inl ⟨.inr (.inr h9), three (.inr (.inr h9)) (by rw [h9]; rfl)⟩
    by_cases h4 : z = 4
    · refine .inr (.inl ⟨h4, ?_⟩)
      subst h4
      have hs : shape 4 = some (1, 0) := rfl
      rw [hs] at h
      simp only [PyFlat.rows] at h
      cases rr with
      | nil => simp at h
      | cons k r =>
        simp only [List.length_cons, Nat.lt_one_iff, Nat.add_eq_zero_iff, Nat.succ_ne_zero, and_false, if_false, List.drop_succ_cons, List.drop_zero, List.take_succ_cons, List.take_zero, Option.some.injEq, Prod.mk.injEq] at h
        exact ⟨k, h.1.symm, by rw [h.2]⟩
    by_cases h2 : z = 2
    · exact .inr (.inr ⟨.inl h2, zero (by rw [h2]; rfl)⟩)
    by_cases h3 : z = 3
    · exact .inr (.inr ⟨.inr (.inl h3), zero (by rw [h3]; rfl)⟩)
    by_cases h6 : z = 6
    · exact .inr (.inr ⟨.inr (.inr (.inl h6)), zero (by rw [h6]; rfl)⟩)
    by_cases h7 : z = 7
    · exact .inr (.inr ⟨.inr (.inr (.inr (.inl h7))), zero (by rw [h7]; rfl)⟩)
    by_cases h8 : z = 8
    · exact .inr (.inr ⟨.inr (.inr (.inr (.inr (.inl h8)))), zero (by rw [h8]; rfl)⟩)
    by_cases h10 : z = 10
    · exact .inr (.inr ⟨.inr (.inr (.inr (.inr (.inr (.inl h10))))), zero (by rw [h10]; rfl)⟩)
    by_cases h11 : z = 11
    · exact .inr (.inr ⟨.inr (.inr (.inr (.inr (.inr (.inr h11))))), zero (by rw [h11]; rfl)⟩)
    exfalso
    have hs : shape z = none := by
      show PySq68.shape z = none
      unfold PySq68.shape
      simp only [h1, h2, h3, h4, h5, h6, h7, h8, h9, h10, h11, if_false]
    rw [hs] at h
    cases h
theorem rows_in {z : Int} {x y : List Int} (hz : z = 1 ∨ z = 5 ∨ z = 9) (h : PyInside.call PySq68.bound [[z], x, y] = true) : rowOk x ∧ rowOk y := by
  have e : PyInside.call PySq68.bound [[z], x, y] = (PyInside.each [] [] && PyInside.lists [(0, 18446744073709551615, 0, 60), (0, 18446744073709551615, 0, 60)] [x, y]) := by
    rcases hz with rfl | rfl | rfl <;> rfl
  rw [e] at h
  simp only [PyInside.each, PyInside.lists, PyInside.within, Bool.true_and, Bool.and_true, Bool.and_eq_true, decide_eq_true_eq, List.all_eq_true] at h
  obtain ⟨⟨⟨_, h1⟩, h2⟩, ⟨_, h3⟩, h4⟩ := h
  exact ⟨⟨h1, h2⟩, h3, h4⟩
theorem num_in {k : Int} (h : PyInside.call PySq68.bound [[4, k]] = true) : 0 ≤ k := by
  have e : PyInside.call PySq68.bound [[4, k]] = (PyInside.each [(0, 18446744073709551615)] [k] && PyInside.lists [] []) := rfl
  rw [e] at h
  simp only [PyInside.each, PyInside.lists, PyInside.within, Bool.and_true, Bool.and_eq_true, decide_eq_true_eq] at h
  exact h.1
end Pg

set_option Elab.async false
set_option linter.all false
set_option maxRecDepth 100000
set_option maxHeartbeats 2000000
namespace Pg
open PySem PySem.Spec PyProof.Rows L2 OwR
open Hl (ori rg Good)
section
variable {P : Program} {w : World} {K : PySem.W.Frag} {mg : Str → Option Value} {base : Heap}
structure CstC (mg : Str → Option Value) : Prop where
  c1 : IntG mg "BEGIN" 1
  c2 : IntG mg "CORNERS" 2
  c3 : IntG mg "SIZE" 3
  c4 : IntG mg "COUNT" 4
  c5 : IntG mg "WHERE" 5
  c6 : IntG mg "INNER" 6
  c7 : IntG mg "WIDTH" 7
  c8 : IntG mg "FORM" 8
  c9 : IntG mg "SAME" 9
  c10 : IntG mg "DUAL" 10
  c11 : IntG mg "TWELVE" 11
theorem eqT {x y : Int} (h : x = y) : decide (V.int x = V.int y) = true := decide_eq_true (by rw [h])
theorem eqF {x y : Int} (h : x ≠ y) : decide (V.int x = V.int y) = false := decide_eq_false fun z => h (V.int.inj z)
theorem mids_of {ks : List AP} (h : Tame ks) : Mids ks := fun k hk => by
  obtain ⟨⟨_, _⟩, _, _⟩ := h k hk
  exact ⟨⟨by omega, by omega⟩, by omega, by omega⟩
theorem Kn.new' {H H' : Hp} (_ : Kn H H') {p : Addr} (h : H p = none) : New H p := fun u _ e => by
  rw [h] at e
  cases e
theorem step_count (c : List Pt) (k : Int) : (1000 < k.toNat → Sq68Neutral.step c (PySq68.whole [[4, k]]) = (c, [-1])) ∧ (¬ 1000 < k.toNat → Sq68Neutral.step c (PySq68.whole [[4, k]]) = (c, [Sq68.count c k.toNat])) := by
  refine ⟨fun h => ?_, fun h => ?_⟩
  · have e : Sq68.House.step c (.count k.toNat) = (c, Sq68.says (-1)) := if_pos h
    show ((Sq68.House.step c (.count k.toNat)).1, (Sq68.House.step c (.count k.toNat)).2.value :: (Sq68.House.step c (.count k.toNat)).2.out) = _
    rw [e]
    rfl
  · have e : Sq68.House.step c (.count k.toNat) = (c, Sq68.says (Sq68.count c k.toNat)) := if_neg h
    show ((Sq68.House.step c (.count k.toNat)).1, (Sq68.House.step c (.count k.toNat)).2.value :: (Sq68.House.step c (.count k.toNat)).2.out) = _
    rw [e]
    rfl
theorem Out.from {CR CP : Addr} {H H1 : Hp} {r q a dr dq : Addr} {ns rest : List Int} {c' : List Pt} {ans : List Int} {Q : VK} (o : Out K CR CP H r q a dr dq ns rest c' ans Q) (k : Kn H H1) : Out K CR CP H1 r q a dr dq ns rest c' ans Q :=
  fun H' p d n' ks' k1 s1 e1 e2 e3 e4 => o H' p d n' ks' (k.trans k1) s1 e1 e2 (fun u hu e => e3 u hu (k p u hu e)) e4
theorem OutX.from {CR CP : Addr} {H H1 : Hp} {r q a dr dq c : Addr} {ns rest : List Int} {ks : List AP} {C : Addr} {E : XK} (o : OutX K CR CP H r q a dr dq c ns rest ks C E) (k : Kn H H1) : OutX K CR CP H1 r q a dr dq c ns rest ks C E :=
  fun H' n' k1 s1 e1 => o H' n' (k.trans k1) s1 e1
/-- the parts of the program that the calls use -/
structure Parts (K : PySem.W.Frag) (mg : Str → Option Value) where
  R : Rdr K mg
  L : Ply K mg
  X : Errs K mg
  B : Blt mg
  CC : CstC mg
  CB : CstB mg
  CW : CstW mg
  CT : IntG mg "GREATEST_TIMES" 1000
  way : D_way K mg
  cor : D_cor K mg
  rpt : D_rpt K mg
  one : D_one K mg
  rco : D_rco K mg
  tol : D_tol K mg
  nof : D_nof K mg
  beg : D_beg K mg
  siz : D_siz K mg
  cnt : D_cnt K mg
  whr : D_whr K mg
  wid : D_wid K mg
  nar : D_nar K mg
  acr : D_acr K mg
  prs : D_prs K mg
  ris : D_ris K mg
  sam : D_sam K mg
  twl : D_twl K mg
  F : FormP K mg
  U : DualP K mg
theorem step7 (c : List Pt) : Sq68Neutral.step c (PySq68.whole [[7]]) = (c, widI c) := rfl
theorem step8 (c : List Pt) : Sq68Neutral.step c (PySq68.whole [[8]]) = (c, toldI (Sq68.form c)) := rfl
theorem step10 (c : List Pt) : (∀ o, Sq68.innerPoints c = [o] → Sq68Neutral.step c (PySq68.whole [[10]]) = (c, toldI (Sq68.form (Sq68.dual c)))) ∧ ((∀ o, Sq68.innerPoints c ≠ [o]) → Sq68Neutral.step c (PySq68.whole [[10]]) = (c, [-4])) := by
  have e : Sq68Neutral.step c (PySq68.whole [[10]]) = ((Sq68.House.step c .dual).1, (Sq68.House.step c .dual).2.value :: (Sq68.House.step c .dual).2.out) := rfl
  rw [e]
  unfold Sq68.House.step
  refine ⟨fun o ho => ?_, fun hn => ?_⟩
  · simp only [ho]
    rfl
  · match h : Sq68.innerPoints c with
    | [] => rfl
    | [o] => exact absurd h (hn o)
    | _ :: _ :: _ => rfl
theorem step11 (c : List Pt) : (∀ o, Sq68.innerPoints c = [o] → Sq68Neutral.step c (PySq68.whole [[11]]) = (c, [0, edgeI c, edgeI (Sq68.dual c)])) ∧ ((∀ o, Sq68.innerPoints c ≠ [o]) → Sq68Neutral.step c (PySq68.whole [[11]]) = (c, [-4])) := by
  have e : Sq68Neutral.step c (PySq68.whole [[11]]) = ((Sq68.House.step c .twelve).1, (Sq68.House.step c .twelve).2.value :: (Sq68.House.step c .twelve).2.out) := rfl
  rw [e]
  unfold Sq68.House.step
  refine ⟨fun o ho => ?_, fun hn => ?_⟩
  · simp only [ho]
    rfl
  · match h : Sq68.innerPoints c with
    | [] => rfl
    | [o] => exact absurd h (hn o)
    | _ :: _ :: _ => rfl
theorem ok_cal (D : D_cal K mg) (T : Parts K mg) : FnOk P w K mg base (L2.CX P w) 8 D.f D.fd ["polygon", "reader"] (spCall K T.R.C T.L.C T.X.N.C T.X.B.C T.X.L.C T.X.W.C) := by
  have GN : FnOk P w K mg base CX0 1 T.R.mN.f T.R.mN.fd ["self"] (spNum K T.R.C) := ok_rnum T.R
  have GB : FnOk P w K mg base (L2.CX P w) 5 T.beg.f T.beg.fd ["polygon", "reader"] (spBegin K T.R.C T.L.C T.X.N.C T.X.B.C T.X.L.C) := ok_beg T.beg T.R T.L T.rco T.rpt T.cor T.way T.U.turn T.X.N T.X.B T.X.L T.CB T.B
  have GT : FnOk P w K mg base CX0 2 T.tol.f T.tol.fd ["points"] (spTold K) := ok_tol T.tol T.nof T.B
  have GS : FnOk P w K mg base CX0 6 T.siz.f T.siz.fd ["corners"] (spSize K) := ok_siz T.siz T.U.cwi T.U.all T.U.twi T.U.cae T.U.edg T.U.gcd T.U.daf T.U.crs T.B
  have GC : FnOk P w K mg base (L2.CX P w) 5 T.cnt.f T.cnt.fd ["corners", "reader"] (spCount K T.R.C T.L.C T.X.B.C) := ok_cnt T.cnt T.R T.L.C T.U.all T.U.twi T.U.cae T.U.edg T.U.gcd T.U.daf T.U.crs T.X.B T.CT T.B
  have GW : FnOk P w K mg base (L2.CX P w) 3 T.whr.f T.whr.fd ["corners", "reader"] (spWhere K T.R.C T.L.C T.X.N.C) := ok_whr T.whr T.R T.L.C T.one T.rpt T.U.sta T.U.edg T.U.turn T.X.N T.CW T.B
  have GI : FnOk P w K mg base CX0 3 T.U.ptw.f T.U.ptw.fd ["corners"] (spWithin K) := ok_ptw T.U.ptw T.U.sta T.U.edg T.U.turn T.CW T.B
  have GV : FnOk P w K mg base CX0 4 T.wid.f T.wid.fd ["corners"] (spWid K) := ok_wid T.wid T.nar T.nof T.U.see T.acr T.prs T.ris T.U.crs T.B
  have GF : FnOk P w K mg base CX0 4 T.F.frm.f T.F.frm.fd ["corners"] (spForm K) := T.F.ok T.B
  have GM : FnOk P w K mg base (L2.CX P w) 5 T.sam.f T.sam.fd ["corners", "reader"] (spSame K T.R.C T.L.C T.X.N.C T.X.B.C T.X.L.C) := ok_sam T.sam T.R T.L.C T.F T.rco T.rpt T.cor T.way T.U.turn T.X.N T.X.B T.X.L T.CB T.B
  have GD : FnOk P w K mg base (L2.CX P w) 6 T.U.dus.f T.U.dus.fd ["corners"] (spDual K T.X.W.C) := T.U.ok T.X.W T.CW T.B
  have GL : FnOk P w K mg base (L2.CX P w) 7 T.twl.f T.twl.fd ["corners"] (spTwl K T.X.W.C) := ok_twl T.twl T.U T.X.W T.CW T.B
  obtain ⟨⟨t1, g1⟩, ⟨t2, g2⟩, ⟨t3, g3⟩, ⟨t4, g4⟩, ⟨t5, g5⟩, ⟨t6, g6⟩, ⟨t7, g7⟩, ⟨t8, g8⟩, ⟨t9, g9⟩, ⟨t10, g10⟩, ⟨t11, g11⟩⟩ := T.CC
  refine D.F.okX sc_answer_call (fun vs H Q E h => ?_) (fun cdv A outer s H vs Q E hr h => ?_)
  · obtain ⟨r, q, a, dr, dq, c, ns, n, ks, cl, rest, rfl, _⟩ := h
    rfl
  · obtain ⟨r, q, a, dr, dq, c, ns, n, ks, cl, rest, rfl, sit, hcl, hin, good, bN, bB, bL, bW⟩ := h
    have nd := sc_answer_call.nd
    have hr1 : Room 1 _ := hr.mono (by decide)
    have hr2 : Room 2 _ := hr.mono (by decide)
    have hr3 : Room 3 _ := hr.mono (by decide)
    have hr4 : Room 4 _ := hr.mono (by decide)
    have hr5 : Room 5 _ := hr.mono (by decide)
    have hr6 : Room 6 _ := hr.mono (by decide)
    refine ⟨_, pss_cons (ps_set (i := 2) nd rfl (.inl rfl) (pe_meth0 (pv 1) T.R.c T.R.mN.m GN hr1 T.R.mN.b .nil pass0))
      (pss_cons (ps_if (pt_cmpR op_eq (pv 2) (pe_glob rfl g1 (v := .int 1) ⟨_, rfl⟩) (nomark _)) (pss_one (ps_ret (pe_call GB hr5 (by rfl) T.beg.g T.beg.F.kp T.beg.b .nil (passes_call (takes_of rfl rfl rfl rfl) (fun _ _ _ _ h => h)) (pa_cons (pv 0) (pa_cons (pv 1) pa_nil))))) pss_nil)
      (pss_cons (ps_if (pt_cmpR op_eq (pv 2) (pe_glob rfl g2 (v := .int 2) ⟨_, rfl⟩) (nomark _)) (pss_one (ps_ret (pe_call GT hr2 (by rfl) T.tol.g T.tol.F.kp T.tol.b .nil pass0 (pa_cons (pe_fld (pv 0) rfl) pa_nil)))) pss_nil)
      (pss_cons (ps_if (pt_cmpR op_eq (pv 2) (pe_glob rfl g3 (v := .int 3) ⟨_, rfl⟩) (nomark _)) (pss_one (ps_ret (pe_call GS hr6 (by rfl) T.siz.g T.siz.F.kp T.siz.b .nil pass0 (pa_cons (pe_fld (pv 0) rfl) pa_nil)))) pss_nil)
      (pss_cons (ps_if (pt_cmpR op_eq (pv 2) (pe_glob rfl g4 (v := .int 4) ⟨_, rfl⟩) (nomark _)) (pss_one (ps_ret (pe_call GC hr5 (by rfl) T.cnt.g T.cnt.F.kp T.cnt.b .nil (passes_call (takes_of rfl rfl rfl rfl) (fun _ _ _ _ h => h)) (pa_cons (pe_fld (pv 0) rfl) (pa_cons (pv 1) pa_nil))))) pss_nil)
      (pss_cons (ps_if (pt_cmpR op_eq (pv 2) (pe_glob rfl g5 (v := .int 5) ⟨_, rfl⟩) (nomark _)) (pss_one (ps_ret (pe_call GW hr3 (by rfl) T.whr.g T.whr.F.kp T.whr.b .nil (passes_call (takes_of rfl rfl rfl rfl) (fun _ _ _ _ h => h)) (pa_cons (pe_fld (pv 0) rfl) (pa_cons (pv 1) pa_nil))))) pss_nil)
      (pss_cons (ps_if (pt_cmpR op_eq (pv 2) (pe_glob rfl g6 (v := .int 6) ⟨_, rfl⟩) (nomark _)) (pss_one (ps_ret (pe_call GT hr2 (by rfl) T.tol.g T.tol.F.kp T.tol.b .nil pass0 (pa_cons (pe_call GI hr3 (by rfl) T.U.ptw.g T.U.ptw.F.kp T.U.ptw.b .nil pass0 (pa_cons (pe_fld (pv 0) rfl) pa_nil)) pa_nil)))) pss_nil)
      (pss_cons (ps_if (pt_cmpR op_eq (pv 2) (pe_glob rfl g7 (v := .int 7) ⟨_, rfl⟩) (nomark _)) (pss_one (ps_ret (pe_call GV hr4 (by rfl) T.wid.g T.wid.F.kp T.wid.b .nil pass0 (pa_cons (pe_fld (pv 0) rfl) pa_nil)))) pss_nil)
      (pss_cons (ps_if (pt_cmpR op_eq (pv 2) (pe_glob rfl g8 (v := .int 8) ⟨_, rfl⟩) (nomark _)) (pss_one (ps_ret (pe_call GT hr2 (by rfl) T.tol.g T.tol.F.kp T.tol.b .nil pass0 (pa_cons (pe_call GF hr4 (by rfl) T.F.frm.g T.F.frm.F.kp T.F.frm.b .nil pass0 (pa_cons (pe_fld (pv 0) rfl) pa_nil)) pa_nil)))) pss_nil)
      (pss_cons (ps_if (pt_cmpR op_eq (pv 2) (pe_glob rfl g9 (v := .int 9) ⟨_, rfl⟩) (nomark _)) (pss_one (ps_ret (pe_call GM hr5 (by rfl) T.sam.g T.sam.F.kp T.sam.b .nil (passes_call (takes_of rfl rfl rfl rfl) (fun _ _ _ _ h => h)) (pa_cons (pe_fld (pv 0) rfl) (pa_cons (pv 1) pa_nil))))) pss_nil)
      (pss_cons (ps_if (pt_cmpR op_eq (pv 2) (pe_glob rfl g10 (v := .int 10) ⟨_, rfl⟩) (nomark _)) (pss_one (ps_ret (pe_call GT hr2 (by rfl) T.tol.g T.tol.F.kp T.tol.b .nil pass0 (pa_cons (pe_call GF hr4 (by rfl) T.F.frm.g T.F.frm.F.kp T.F.frm.b .nil pass0 (pa_cons (pe_call GD hr6 (by rfl) T.U.dus.g T.U.dus.F.kp T.U.dus.b .nil (passes_call (takes_of rfl rfl rfl rfl) (fun _ _ _ _ h => h)) (pa_cons (pe_fld (pv 0) rfl) pa_nil)) pa_nil)) pa_nil)))) pss_nil)
      (pss_cons (ps_if (pt_cmpR op_eq (pv 2) (pe_glob rfl g11 (v := .int 11) ⟨_, rfl⟩) (nomark _)) (pss_one (ps_ret (pe_call GL hr (by rfl) T.twl.g T.twl.F.kp T.twl.b .nil (passes_call (takes_of rfl rfl rfl rfl) (fun _ _ _ _ h => h)) (pa_cons (pe_fld (pv 0) rfl) pa_nil)))) pss_nil)
      (pss_one ps_never)))))))))))), ?_⟩
    obtain ⟨z, rr, hz, cases⟩ := call_cases hcl
    obtain ⟨hn, hrest⟩ := drop_one hz
    refine ⟨_, rfl, r, dr, _, rfl, sit.rd, rf_no _ _ (by decide +kernel) (by decide +kernel), r, a, dr, ns, n, z, rfl, sit.rd, sit.ls, hn, ?_⟩
    have b1 : SB r H (upd H r (.ins T.R.C dr (rf a (n + 1)))) := SB.upd
    have k1 : Kn H (upd H r (.ins T.R.C dr (rf a (n + 1)))) := b1.kn sit.rd
    have sit1 : SitAt K T.R.C T.L.C (upd H r (.ins T.R.C dr (rf a (n + 1)))) r q a dr dq c ns (n + 1) ks := sit.moved b1 upd_same sit.ne
    have good := good.from k1
    have bN := fun e => (bN e).from k1
    have bB := fun e => (bB e).from k1
    have bL := fun e => (bL e).from k1
    have bW := fun e => (bW e).from k1
    generalize upd H r (.ins T.R.C dr (rf a (n + 1))) = H1 at *
    have hlen := sit1.hs.len
    have hne : ks ≠ [] := fun z => by rw [z] at hlen; simp at hlen
    refine ⟨_, rfl, rfl, _, rfl, ?_⟩
    rcases cases with ⟨hz3, x, y, rfl, hrows⟩ | ⟨rfl, k, rfl, hrk⟩ | ⟨hz7, rfl, hre⟩
    · obtain ⟨rx, ry⟩ := rows_in hz3 hin
      have hnext : RowsNext ns (n + 1) x y rest := hrest.trans hrows
      by_cases c1 : z = 1
      · subst c1
        refine ifT (eqT rfl) ⟨_, rfl, _, rfl, r, q, a, dr, dq, c, ns, n + 1, ks, x, y, rest, rfl, sit1, hnext, rx, ry, fun e he => ?_, fun c' hc => ?_⟩
        · have es : Sq68Neutral.step (pts ks) (PySq68.whole [[1], x, y]) = (pts ks, [e]) := by
            show (let r := Sq68.House.step (pts ks) (.begin_ (nat x) (nat y)); (r.1, r.2.value :: r.2.out)) = _
            simp only [Sq68.House.step, he]
            rfl
          refine ⟨fun z => bN ?_, fun z => bB ?_, fun z => bL ?_⟩ <;> (rw [es, z])
        · have es : Sq68Neutral.step (pts ks) (PySq68.whole [[1], x, y]) = (c', [(c'.length : Int)]) := by
            show (let r := Sq68.House.step (pts ks) (.begin_ (nat x) (nat y)); (r.1, r.2.value :: r.2.out)) = _
            simp only [Sq68.House.step, hc]
            rfl
          rw [es] at good
          exact good
      · refine ifF (eqF c1) ⟨_, rfl, rfl, _, rfl, ifF (eqF (by omega)) ⟨_, rfl, rfl, _, rfl, ifF (eqF (by omega)) ⟨_, rfl, rfl, _, rfl, ifF (eqF (by omega)) ⟨_, rfl, rfl, _, rfl, ?_⟩⟩⟩⟩
        by_cases c5 : z = 5
        · subst c5
          have es : ∀ o, (Sq68.given (nat x) (nat y)).bind Sq68.pairs = o → Sq68Neutral.step (pts ks) (PySq68.whole [[5], x, y]) = match (generalizing := false) o with
              | some [p] => (pts ks, [((Sq68.where_ (pts ks) p : Nat) : Int)])
              | _ => (pts ks, [-3]) := by
            intro o ho
            show (let r := Sq68.House.step (pts ks) (.where_ (nat x) (nat y)); (r.1, r.2.value :: r.2.out)) = _
            simp only [Sq68.House.step, ho]
            match o with
            | none => rfl
            | some [] => rfl
            | some [p] => rfl
            | some (_ :: _ :: _) => rfl
          refine ifT (eqT rfl) ⟨_, rfl, q, T.L.C, dq, _, _, rfl, sit1.pl, T.L.c, T.L.nC, pf_get _, _, rfl, r, q, a, dr, dq, c, ns, n + 1, ks, x, y, rest, rfl, sit1, hnext, rx, ry, fun hno => bN ?_, fun p hp => ?_⟩
          · rw [es _ rfl]
            match e : (Sq68.given (nat x) (nat y)).bind Sq68.pairs with
            | none => rfl
            | some [] => rfl
            | some [p] => exact absurd e (hno p)
            | some (_ :: _ :: _) => rfl
          · rw [es _ hp] at good
            exact good
        · refine ifF (eqF c5) ⟨_, rfl, rfl, _, rfl, ifF (eqF (by omega)) ⟨_, rfl, rfl, _, rfl, ifF (eqF (by omega)) ⟨_, rfl, rfl, _, rfl, ifF (eqF (by omega)) ⟨_, rfl, rfl, _, rfl, ?_⟩⟩⟩⟩
          have c9 : z = 9 := by omega
          subst c9
          refine ifT (eqT rfl) ⟨_, rfl, q, T.L.C, dq, _, _, rfl, sit1.pl, T.L.c, T.L.nC, pf_get _, _, rfl, r, q, a, dr, dq, c, ns, n + 1, ks, x, y, rest, rfl, sit1, hnext, rx, ry, fun e he => ?_, fun c' hc => ?_⟩
          · have es : Sq68Neutral.step (pts ks) (PySq68.whole [[9], x, y]) = (pts ks, [e]) := by
              show (let r := Sq68.House.step (pts ks) (.same (nat x) (nat y)); (r.1, r.2.value :: r.2.out)) = _
              simp only [Sq68.House.step, he]
              rfl
            refine ⟨fun z => bN ?_, fun z => bB ?_, fun z => bL ?_⟩ <;> (rw [es, z])
          · have es : Sq68Neutral.step (pts ks) (PySq68.whole [[9], x, y]) = (pts ks, [if Sq68.form c' = Sq68.form (pts ks) then 1 else 0]) := by
              show (let r := Sq68.House.step (pts ks) (.same (nat x) (nat y)); (r.1, r.2.value :: r.2.out)) = _
              simp only [Sq68.House.step, hc]
              rfl
            rw [es] at good
            exact good
    · refine ifF (eqF (by decide)) ⟨_, rfl, rfl, _, rfl, ifF (eqF (by decide)) ⟨_, rfl, rfl, _, rfl, ifF (eqF (by decide)) ⟨_, rfl, rfl, _, rfl, ?_⟩⟩⟩
      have hk0 := num_in hin
      refine ifT (eqT rfl) ⟨_, rfl, q, T.L.C, dq, _, _, rfl, sit1.pl, T.L.c, T.L.nC, pf_get _, _, rfl, r, q, a, dr, dq, c, ns, n + 1, ks, k, rest, rfl, sit1, hrest.trans hrk, hk0, fun hk => bB ?_, fun hk => ?_⟩
      · exact (step_count (pts ks) k).1 (by omega)
      · have es : Sq68Neutral.step (pts ks) (PySq68.whole [[4, k]]) = (pts ks, [Sq68.count (pts ks) k.toNat]) := by
          exact (step_count (pts ks) k).2 (by omega)
        rw [es] at good
        exact good
    · have hre' : ns.drop (n + 1) = rest := hrest.trans hre
      refine ifF (eqF (by omega)) ⟨_, rfl, rfl, _, rfl, ?_⟩
      by_cases c2 : z = 2
      · subst c2
        refine ifT (eqT rfl) ⟨_, rfl, q, T.L.C, dq, _, _, rfl, sit1.pl, T.L.c, T.L.nC, pf_get _, c, ks, rfl, sit1.hs.1, sit1.hs.2.1, by omega, fun H2 p s2 np hp => ?_⟩
        exact good H2 p c _ ks (Kn.of_same s2) (sit1.same s2) hre' rfl ((Kn.of_same s2).new' np) hp
      refine ifF (eqF c2) ⟨_, rfl, rfl, _, rfl, ?_⟩
      by_cases c3 : z = 3
      · subst c3
        refine ifT (eqT rfl) ⟨_, rfl, q, T.L.C, dq, _, _, rfl, sit1.pl, T.L.c, T.L.nC, pf_get _, c, ks, rfl, sit1.hs.poly, fun H2 p s2 np hp => ?_⟩
        exact good H2 p c _ ks (Kn.of_same s2) (sit1.same s2) hre' rfl ((Kn.of_same s2).new' np) hp
      refine ifF (eqF c3) ⟨_, rfl, rfl, _, rfl, ifF (eqF (by omega)) ⟨_, rfl, rfl, _, rfl, ifF (eqF (by omega)) ⟨_, rfl, rfl, _, rfl, ?_⟩⟩⟩
      by_cases c6 : z = 6
      · subst c6
        refine ifT (eqT rfl) ⟨_, rfl, q, T.L.C, dq, _, _, rfl, sit1.pl, T.L.c, T.L.nC, pf_get _, c, ks, rfl, sit1.hs.poly, mids_of sit1.hs.tame, hne, fun H2 l js s2 nl hl hjs ejs ljs => ?_⟩
        refine ⟨l, js, rfl, SqL.of hl, hjs, ljs, fun H3 p s3 np hp => ?_⟩
        rw [ejs] at hp
        exact good H3 p c _ ks (Kn.of_same (s2.trans s3)) (sit1.same (s2.trans s3)) hre' rfl ((Kn.of_same s2).new np) hp
      refine ifF (eqF c6) ⟨_, rfl, rfl, _, rfl, ?_⟩
      by_cases c7 : z = 7
      · subst c7
        rw [step7] at good
        refine ifT (eqT rfl) ⟨_, rfl, q, T.L.C, dq, _, _, rfl, sit1.pl, T.L.c, T.L.nC, pf_get _, c, ks, rfl, sit1.hs, fun H2 p s2 np hp => ?_⟩
        exact good H2 p c _ ks (Kn.of_same s2) (sit1.same s2) hre' rfl ((Kn.of_same s2).new' np) hp
      refine ifF (eqF c7) ⟨_, rfl, rfl, _, rfl, ?_⟩
      have pne : pts ks ≠ [] := fun z => hne (by rw [← List.length_eq_zero_iff, ← pts_len, z]; rfl)
      by_cases c8 : z = 8
      · subst c8
        rw [step8] at good
        refine ifT (eqT rfl) ⟨_, rfl, q, T.L.C, dq, _, _, rfl, sit1.pl, T.L.c, T.L.nC, pf_get _, c, ks, rfl, sit1.hs.poly, mids_of sit1.hs.tame, sit1.hs.2.2.ct, hlen.1, fun H2 l js s2 hl hjs ejs => ?_⟩
        have lj : js.length = ks.length := by rw [← pts_len js, ejs, Hl.form_len pne, pts_len]
        refine ⟨l, js, rfl, hl, hjs, by omega, fun H3 p s3 np hp => ?_⟩
        rw [ejs] at hp
        exact good H3 p c _ ks (Kn.of_same (s2.trans s3)) (sit1.same (s2.trans s3)) hre' rfl ((Kn.of_same s2).new np) hp
      refine ifF (eqF c8) ⟨_, rfl, rfl, _, rfl, ifF (eqF (by omega)) ⟨_, rfl, rfl, _, rfl, ?_⟩⟩
      by_cases c10 : z = 10
      · subst c10
        refine ifT (eqT rfl) ⟨_, rfl, q, T.L.C, dq, _, _, rfl, sit1.pl, T.L.c, T.L.nC, pf_get _, c, ks, rfl, sit1.hs, fun hno H2 s2 => ?_, fun o ho H2 l js s2 hl hjs ejs => ?_⟩
        · exact bW ((step10 (pts ks)).2 hno) H2 _ (Kn.of_same s2) (sit1.same s2) hre'
        · rw [(step10 (pts ks)).1 o ho] at good
          obtain ⟨dct, dlen⟩ := Hl.dual_ct sit1.hs.2.2 ho
          have dsm := Hl.dual_small sit1.hs.2.2 ho
          have lj : js.length = ks.length := by rw [← pts_len js, ejs, dlen, pts_len]
          have sm : ∀ k ∈ js, (-80 ≤ k.2.1 ∧ k.2.1 ≤ 80) ∧ -80 ≤ k.2.2 ∧ k.2.2 ≤ 80 := fun k hk => dsm k.2 (by rw [← ejs]; exact List.mem_map.2 ⟨k, hk, rfl⟩)
          refine ⟨l, js, rfl, ⟨SqL.of hl, hjs, fun k hk => ?_, by omega⟩, fun k hk => ?_, by rw [ejs]; exact dct, by omega, fun H3 l3 j3 s3 hl3 t3 e3 => ?_⟩
          · obtain ⟨⟨_, _⟩, _, _⟩ := sm k hk
            exact ⟨⟨by omega, by omega⟩, by omega, by omega⟩
          · obtain ⟨⟨_, _⟩, _, _⟩ := sm k hk
            exact ⟨⟨by omega, by omega⟩, by omega, by omega⟩
          have pne' : pts js ≠ [] := fun z => by
            have := congrArg List.length z
            rw [pts_len, lj] at this
            simp only [List.length_nil] at this
            omega
          have l3e : j3.length = ks.length := by rw [← pts_len j3, e3, Hl.form_len pne', pts_len, lj]
          refine ⟨l3, j3, rfl, hl3, t3, by omega, fun H4 p s4 np hp => ?_⟩
          rw [e3, ejs] at hp
          have sA := (s2.trans s3).trans s4
          exact good H4 p c _ ks (Kn.of_same sA) (sit1.same sA) hre' rfl ((Kn.of_same (s2.trans s3)).new np) hp
      refine ifF (eqF c10) ⟨_, rfl, rfl, _, rfl, ?_⟩
      have c11 : z = 11 := by omega
      subst c11
      refine ifT (eqT rfl) ⟨_, rfl, q, T.L.C, dq, _, _, rfl, sit1.pl, T.L.c, T.L.nC, pf_get _, c, ks, rfl, sit1.hs, fun hno H2 s2 => ?_, fun o ho H2 p s2 np hp => ?_⟩
      · exact bW ((step11 (pts ks)).2 hno) H2 _ (Kn.of_same s2) (sit1.same s2) hre'
      · rw [(step11 (pts ks)).1 o ho] at good
        exact good H2 p c _ ks (Kn.of_same s2) (sit1.same s2) hre' rfl ((Kn.of_same s2).new' np) hp
end
end Pg

set_option Elab.async false
set_option linter.all false
set_option maxRecDepth 100000
set_option maxHeartbeats 2000000
namespace Pg
open PySem PySem.Spec PyProof.Rows L2 OwR
theorem all_mk {P : Program} {w : World} {K : PySem.W.Frag} {h : Heap} {mg : Str → Option Value} {fa : Addr} (X : K.In h) (G : h.Ns mainGlobals mg) (hfa : mg "answers" = some (.ref fa))
    {f_cross : Addr} {od_cross an_cross : Option Addr} {sl_cross : Array (Option Value)} {oc_cross kV_cross dc_cross pm_cross cd_cross ct_cross : Value}
    {f_seen_from : Addr} {od_seen_from an_seen_from : Option Addr} {sl_seen_from : Array (Option Value)} {oc_seen_from kV_seen_from dc_seen_from pm_seen_from cd_seen_from ct_seen_from : Value}
    {f_turn : Addr} {od_turn an_turn : Option Addr} {sl_turn : Array (Option Value)} {oc_turn kV_turn dc_turn pm_turn cd_turn ct_turn : Value}
    {f_left_turning_way : Addr} {od_left_turning_way an_left_turning_way : Option Addr} {sl_left_turning_way : Array (Option Value)} {oc_left_turning_way kV_left_turning_way dc_left_turning_way pm_left_turning_way cd_left_turning_way ct_left_turning_way : Value}
    {f_corners_of : Addr} {od_corners_of an_corners_of : Option Addr} {sl_corners_of : Array (Option Value)} {oc_corners_of kV_corners_of dc_corners_of pm_corners_of cd_corners_of ct_corners_of : Value}
    {f_edges_of : Addr} {od_edges_of an_edges_of : Option Addr} {sl_edges_of : Array (Option Value)} {oc_edges_of kV_edges_of dc_edges_of pm_edges_of cd_edges_of ct_edges_of : Value}
    {f_divisor_and_factors : Addr} {od_divisor_and_factors an_divisor_and_factors : Option Addr} {sl_divisor_and_factors : Array (Option Value)} {oc_divisor_and_factors kV_divisor_and_factors dc_divisor_and_factors pm_divisor_and_factors cd_divisor_and_factors ct_divisor_and_factors : Value}
    {f_greatest_divisor : Addr} {od_greatest_divisor an_greatest_divisor : Option Addr} {sl_greatest_divisor : Array (Option Value)} {oc_greatest_divisor kV_greatest_divisor dc_greatest_divisor pm_greatest_divisor cd_greatest_divisor ct_greatest_divisor : Value}
    {f_twice_area : Addr} {od_twice_area an_twice_area : Option Addr} {sl_twice_area : Array (Option Value)} {oc_twice_area kV_twice_area dc_twice_area pm_twice_area cd_twice_area ct_twice_area : Value}
    {f_count_at_edge : Addr} {od_count_at_edge an_count_at_edge : Option Addr} {sl_count_at_edge : Array (Option Value)} {oc_count_at_edge kV_count_at_edge dc_count_at_edge pm_count_at_edge cd_count_at_edge ct_count_at_edge : Value}
    {f_count_all : Addr} {od_count_all an_count_all : Option Addr} {sl_count_all : Array (Option Value)} {oc_count_all kV_count_all dc_count_all pm_count_all cd_count_all ct_count_all : Value}
    {f_count_within : Addr} {od_count_within an_count_within : Option Addr} {sl_count_within : Array (Option Value)} {oc_count_within kV_count_within dc_count_within pm_count_within cd_count_within ct_count_within : Value}
    {f_standing_of : Addr} {od_standing_of an_standing_of : Option Addr} {sl_standing_of : Array (Option Value)} {oc_standing_of kV_standing_of dc_standing_of pm_standing_of cd_standing_of ct_standing_of : Value}
    {f_points_within : Addr} {od_points_within an_points_within : Option Addr} {sl_points_within : Array (Option Value)} {oc_points_within kV_points_within dc_points_within pm_points_within cd_points_within ct_points_within : Value}
    {f_width_across : Addr} {od_width_across an_width_across : Option Addr} {sl_width_across : Array (Option Value)} {oc_width_across kV_width_across dc_width_across pm_width_across cd_width_across ct_width_across : Value}
    {f_pairs_reaching : Addr} {od_pairs_reaching an_pairs_reaching : Option Addr} {sl_pairs_reaching : Array (Option Value)} {oc_pairs_reaching kV_pairs_reaching dc_pairs_reaching pm_pairs_reaching cd_pairs_reaching ct_pairs_reaching : Value}
    {f_direction_rising : Addr} {od_direction_rising an_direction_rising : Option Addr} {sl_direction_rising : Array (Option Value)} {oc_direction_rising kV_direction_rising dc_direction_rising pm_direction_rising cd_direction_rising ct_direction_rising : Value}
    {f_narrowest_directions : Addr} {od_narrowest_directions an_narrowest_directions : Option Addr} {sl_narrowest_directions : Array (Option Value)} {oc_narrowest_directions kV_narrowest_directions dc_narrowest_directions pm_narrowest_directions cd_narrowest_directions ct_narrowest_directions : Value}
    {f_mirrored : Addr} {od_mirrored an_mirrored : Option Addr} {sl_mirrored : Array (Option Value)} {oc_mirrored kV_mirrored dc_mirrored pm_mirrored cd_mirrored ct_mirrored : Value}
    {f_row_from : Addr} {od_row_from an_row_from : Option Addr} {sl_row_from : Array (Option Value)} {oc_row_from kV_row_from dc_row_from pm_row_from cd_row_from ct_row_from : Value}
    {f_rows_from_each : Addr} {od_rows_from_each an_rows_from_each : Option Addr} {sl_rows_from_each : Array (Option Value)} {oc_rows_from_each kV_rows_from_each dc_rows_from_each pm_rows_from_each cd_rows_from_each ct_rows_from_each : Value}
    {f_one_form : Addr} {od_one_form an_one_form : Option Addr} {sl_one_form : Array (Option Value)} {oc_one_form kV_one_form dc_one_form pm_one_form cd_one_form ct_one_form : Value}
    {f_dual_corner : Addr} {od_dual_corner an_dual_corner : Option Addr} {sl_dual_corner : Array (Option Value)} {oc_dual_corner kV_dual_corner dc_dual_corner pm_dual_corner cd_dual_corner ct_dual_corner : Value}
    {f_dual_corners : Addr} {od_dual_corners an_dual_corners : Option Addr} {sl_dual_corners : Array (Option Value)} {oc_dual_corners kV_dual_corners dc_dual_corners pm_dual_corners cd_dual_corners ct_dual_corners : Value}
    {f_read_points : Addr} {od_read_points an_read_points : Option Addr} {sl_read_points : Array (Option Value)} {oc_read_points kV_read_points dc_read_points pm_read_points cd_read_points ct_read_points : Value}
    {f_read_one_point : Addr} {od_read_one_point an_read_one_point : Option Addr} {sl_read_one_point : Array (Option Value)} {oc_read_one_point kV_read_one_point dc_read_one_point pm_read_one_point cd_read_one_point ct_read_one_point : Value}
    {f_read_corners : Addr} {od_read_corners an_read_corners : Option Addr} {sl_read_corners : Array (Option Value)} {oc_read_corners kV_read_corners dc_read_corners pm_read_corners cd_read_corners ct_read_corners : Value}
    {f_numbers_of : Addr} {od_numbers_of an_numbers_of : Option Addr} {sl_numbers_of : Array (Option Value)} {oc_numbers_of kV_numbers_of dc_numbers_of pm_numbers_of cd_numbers_of ct_numbers_of : Value}
    {f_told_with_count : Addr} {od_told_with_count an_told_with_count : Option Addr} {sl_told_with_count : Array (Option Value)} {oc_told_with_count kV_told_with_count dc_told_with_count pm_told_with_count cd_told_with_count ct_told_with_count : Value}
    {f_answer_begin : Addr} {od_answer_begin an_answer_begin : Option Addr} {sl_answer_begin : Array (Option Value)} {oc_answer_begin kV_answer_begin dc_answer_begin pm_answer_begin cd_answer_begin ct_answer_begin : Value}
    {f_answer_size : Addr} {od_answer_size an_answer_size : Option Addr} {sl_answer_size : Array (Option Value)} {oc_answer_size kV_answer_size dc_answer_size pm_answer_size cd_answer_size ct_answer_size : Value}
    {f_answer_count : Addr} {od_answer_count an_answer_count : Option Addr} {sl_answer_count : Array (Option Value)} {oc_answer_count kV_answer_count dc_answer_count pm_answer_count cd_answer_count ct_answer_count : Value}
    {f_answer_where : Addr} {od_answer_where an_answer_where : Option Addr} {sl_answer_where : Array (Option Value)} {oc_answer_where kV_answer_where dc_answer_where pm_answer_where cd_answer_where ct_answer_where : Value}
    {f_answer_width : Addr} {od_answer_width an_answer_width : Option Addr} {sl_answer_width : Array (Option Value)} {oc_answer_width kV_answer_width dc_answer_width pm_answer_width cd_answer_width ct_answer_width : Value}
    {f_answer_same : Addr} {od_answer_same an_answer_same : Option Addr} {sl_answer_same : Array (Option Value)} {oc_answer_same kV_answer_same dc_answer_same pm_answer_same cd_answer_same ct_answer_same : Value}
    {f_answer_twelve : Addr} {od_answer_twelve an_answer_twelve : Option Addr} {sl_answer_twelve : Array (Option Value)} {oc_answer_twelve kV_answer_twelve dc_answer_twelve pm_answer_twelve cd_answer_twelve ct_answer_twelve : Value}
    {f_answer_call : Addr} {od_answer_call an_answer_call : Option Addr} {sl_answer_call : Array (Option Value)} {oc_answer_call kV_answer_call dc_answer_call pm_answer_call cd_answer_call ct_answer_call : Value}
    {f_answer_or_refusal : Addr} {od_answer_or_refusal an_answer_or_refusal : Option Addr} {sl_answer_or_refusal : Array (Option Value)} {oc_answer_or_refusal kV_answer_or_refusal dc_answer_or_refusal pm_answer_or_refusal cd_answer_or_refusal ct_answer_or_refusal : Value}
    {f_answers : Addr} {od_answers an_answers : Option Addr} {sl_answers : Array (Option Value)} {oc_answers kV_answers dc_answers pm_answers cd_answers ct_answers : Value}
    {C_Polygon : Addr}
    {f_Polygon_init : Addr} {od_Polygon_init an_Polygon_init : Option Addr} {sl_Polygon_init : Array (Option Value)} {oc_Polygon_init kV_Polygon_init dc_Polygon_init pm_Polygon_init cd_Polygon_init ct_Polygon_init : Value}
    {C_Reader : Addr}
    {f_Reader_init : Addr} {od_Reader_init an_Reader_init : Option Addr} {sl_Reader_init : Array (Option Value)} {oc_Reader_init kV_Reader_init dc_Reader_init pm_Reader_init cd_Reader_init ct_Reader_init : Value}
    {f_Reader_at_end : Addr} {od_Reader_at_end an_Reader_at_end : Option Addr} {sl_Reader_at_end : Array (Option Value)} {oc_Reader_at_end kV_Reader_at_end dc_Reader_at_end pm_Reader_at_end cd_Reader_at_end ct_Reader_at_end : Value}
    {f_Reader_take_number : Addr} {od_Reader_take_number an_Reader_take_number : Option Addr} {sl_Reader_take_number : Array (Option Value)} {oc_Reader_take_number kV_Reader_take_number dc_Reader_take_number pm_Reader_take_number cd_Reader_take_number ct_Reader_take_number : Value}
    {f_Reader_take_row : Addr} {od_Reader_take_row an_Reader_take_row : Option Addr} {sl_Reader_take_row : Array (Option Value)} {oc_Reader_take_row kV_Reader_take_row dc_Reader_take_row pm_Reader_take_row cd_Reader_take_row ct_Reader_take_row : Value}
    {C_NotPoints : Addr}
    {C_BeyondBounds : Addr}
    {C_InOneLine : Addr}
    {C_NotJustOneWithin : Addr}
    {t_BEGIN : Tok}
    {t_CORNERS : Tok}
    {t_SIZE : Tok}
    {t_COUNT : Tok}
    {t_WHERE : Tok}
    {t_INNER : Tok}
    {t_WIDTH : Tok}
    {t_FORM : Tok}
    {t_SAME : Tok}
    {t_DUAL : Tok}
    {t_TWELVE : Tok}
    {t_REFUSED_LISTS : Tok}
    {t_REFUSED_BOUNDS : Tok}
    {t_REFUSED_LINE : Tok}
    {t_REFUSED_WITHIN : Tok}
    {t_FEWEST_POINTS : Tok}
    {t_MOST_POINTS : Tok}
    {t_GREATEST_NUMBER : Tok}
    {t_GREATEST_TIMES : Tok}
    {t_OUTSIDE : Tok}
    {t_AT_EDGE : Tok}
    {t_WITHIN : Tok}
    {F0 T1 T2 T3 : Addr} {odF od1 od2 od3 : Option Addr} {slF sl1 sl2 sl3 : Array (Option Value)} {nF n1 n2 n3 : Nat} {t11 t12 t21 t22 t31 t32 : Tok}
    (a_cross : PySem.W.nsIn K mainGlobals "cross" = some (some (.ref f_cross)))
    (l_cross : K.lookup f_cross = some ⟨oc_cross, od_cross, .func (PySem.W.fnOf "cross" "cross" (defArgs s_cross) (defBody s_cross) (defScope s_cross) .none kV_cross dc_cross pm_cross an_cross cd_cross ct_cross), sl_cross⟩)
    (c_cross : PySem.W.codeIn K cd_cross "cross" = true)
    (k_cross : PySem.W.keepIn K (.ref f_cross) = true)
    (a_seen_from : PySem.W.nsIn K mainGlobals "seen_from" = some (some (.ref f_seen_from)))
    (l_seen_from : K.lookup f_seen_from = some ⟨oc_seen_from, od_seen_from, .func (PySem.W.fnOf "seen_from" "seen_from" (defArgs s_seen_from) (defBody s_seen_from) (defScope s_seen_from) .none kV_seen_from dc_seen_from pm_seen_from an_seen_from cd_seen_from ct_seen_from), sl_seen_from⟩)
    (c_seen_from : PySem.W.codeIn K cd_seen_from "seen_from" = true)
    (k_seen_from : PySem.W.keepIn K (.ref f_seen_from) = true)
    (a_turn : PySem.W.nsIn K mainGlobals "turn" = some (some (.ref f_turn)))
    (l_turn : K.lookup f_turn = some ⟨oc_turn, od_turn, .func (PySem.W.fnOf "turn" "turn" (defArgs s_turn) (defBody s_turn) (defScope s_turn) .none kV_turn dc_turn pm_turn an_turn cd_turn ct_turn), sl_turn⟩)
    (c_turn : PySem.W.codeIn K cd_turn "turn" = true)
    (k_turn : PySem.W.keepIn K (.ref f_turn) = true)
    (a_left_turning_way : PySem.W.nsIn K mainGlobals "left_turning_way" = some (some (.ref f_left_turning_way)))
    (l_left_turning_way : K.lookup f_left_turning_way = some ⟨oc_left_turning_way, od_left_turning_way, .func (PySem.W.fnOf "left_turning_way" "left_turning_way" (defArgs s_left_turning_way) (defBody s_left_turning_way) (defScope s_left_turning_way) .none kV_left_turning_way dc_left_turning_way pm_left_turning_way an_left_turning_way cd_left_turning_way ct_left_turning_way), sl_left_turning_way⟩)
    (c_left_turning_way : PySem.W.codeIn K cd_left_turning_way "left_turning_way" = true)
    (k_left_turning_way : PySem.W.keepIn K (.ref f_left_turning_way) = true)
    (a_corners_of : PySem.W.nsIn K mainGlobals "corners_of" = some (some (.ref f_corners_of)))
    (l_corners_of : K.lookup f_corners_of = some ⟨oc_corners_of, od_corners_of, .func (PySem.W.fnOf "corners_of" "corners_of" (defArgs s_corners_of) (defBody s_corners_of) (defScope s_corners_of) .none kV_corners_of dc_corners_of pm_corners_of an_corners_of cd_corners_of ct_corners_of), sl_corners_of⟩)
    (c_corners_of : PySem.W.codeIn K cd_corners_of "corners_of" = true)
    (k_corners_of : PySem.W.keepIn K (.ref f_corners_of) = true)
    (a_edges_of : PySem.W.nsIn K mainGlobals "edges_of" = some (some (.ref f_edges_of)))
    (l_edges_of : K.lookup f_edges_of = some ⟨oc_edges_of, od_edges_of, .func (PySem.W.fnOf "edges_of" "edges_of" (defArgs s_edges_of) (defBody s_edges_of) (defScope s_edges_of) .none kV_edges_of dc_edges_of pm_edges_of an_edges_of cd_edges_of ct_edges_of), sl_edges_of⟩)
    (c_edges_of : PySem.W.codeIn K cd_edges_of "edges_of" = true)
    (k_edges_of : PySem.W.keepIn K (.ref f_edges_of) = true)
    (a_divisor_and_factors : PySem.W.nsIn K mainGlobals "divisor_and_factors" = some (some (.ref f_divisor_and_factors)))
    (l_divisor_and_factors : K.lookup f_divisor_and_factors = some ⟨oc_divisor_and_factors, od_divisor_and_factors, .func (PySem.W.fnOf "divisor_and_factors" "divisor_and_factors" (defArgs s_divisor_and_factors) (defBody s_divisor_and_factors) (defScope s_divisor_and_factors) .none kV_divisor_and_factors dc_divisor_and_factors pm_divisor_and_factors an_divisor_and_factors cd_divisor_and_factors ct_divisor_and_factors), sl_divisor_and_factors⟩)
    (c_divisor_and_factors : PySem.W.codeIn K cd_divisor_and_factors "divisor_and_factors" = true)
    (k_divisor_and_factors : PySem.W.keepIn K (.ref f_divisor_and_factors) = true)
    (a_greatest_divisor : PySem.W.nsIn K mainGlobals "greatest_divisor" = some (some (.ref f_greatest_divisor)))
    (l_greatest_divisor : K.lookup f_greatest_divisor = some ⟨oc_greatest_divisor, od_greatest_divisor, .func (PySem.W.fnOf "greatest_divisor" "greatest_divisor" (defArgs s_greatest_divisor) (defBody s_greatest_divisor) (defScope s_greatest_divisor) .none kV_greatest_divisor dc_greatest_divisor pm_greatest_divisor an_greatest_divisor cd_greatest_divisor ct_greatest_divisor), sl_greatest_divisor⟩)
    (c_greatest_divisor : PySem.W.codeIn K cd_greatest_divisor "greatest_divisor" = true)
    (k_greatest_divisor : PySem.W.keepIn K (.ref f_greatest_divisor) = true)
    (a_twice_area : PySem.W.nsIn K mainGlobals "twice_area" = some (some (.ref f_twice_area)))
    (l_twice_area : K.lookup f_twice_area = some ⟨oc_twice_area, od_twice_area, .func (PySem.W.fnOf "twice_area" "twice_area" (defArgs s_twice_area) (defBody s_twice_area) (defScope s_twice_area) .none kV_twice_area dc_twice_area pm_twice_area an_twice_area cd_twice_area ct_twice_area), sl_twice_area⟩)
    (c_twice_area : PySem.W.codeIn K cd_twice_area "twice_area" = true)
    (k_twice_area : PySem.W.keepIn K (.ref f_twice_area) = true)
    (a_count_at_edge : PySem.W.nsIn K mainGlobals "count_at_edge" = some (some (.ref f_count_at_edge)))
    (l_count_at_edge : K.lookup f_count_at_edge = some ⟨oc_count_at_edge, od_count_at_edge, .func (PySem.W.fnOf "count_at_edge" "count_at_edge" (defArgs s_count_at_edge) (defBody s_count_at_edge) (defScope s_count_at_edge) .none kV_count_at_edge dc_count_at_edge pm_count_at_edge an_count_at_edge cd_count_at_edge ct_count_at_edge), sl_count_at_edge⟩)
    (c_count_at_edge : PySem.W.codeIn K cd_count_at_edge "count_at_edge" = true)
    (k_count_at_edge : PySem.W.keepIn K (.ref f_count_at_edge) = true)
    (a_count_all : PySem.W.nsIn K mainGlobals "count_all" = some (some (.ref f_count_all)))
    (l_count_all : K.lookup f_count_all = some ⟨oc_count_all, od_count_all, .func (PySem.W.fnOf "count_all" "count_all" (defArgs s_count_all) (defBody s_count_all) (defScope s_count_all) .none kV_count_all dc_count_all pm_count_all an_count_all cd_count_all ct_count_all), sl_count_all⟩)
    (c_count_all : PySem.W.codeIn K cd_count_all "count_all" = true)
    (k_count_all : PySem.W.keepIn K (.ref f_count_all) = true)
    (a_count_within : PySem.W.nsIn K mainGlobals "count_within" = some (some (.ref f_count_within)))
    (l_count_within : K.lookup f_count_within = some ⟨oc_count_within, od_count_within, .func (PySem.W.fnOf "count_within" "count_within" (defArgs s_count_within) (defBody s_count_within) (defScope s_count_within) .none kV_count_within dc_count_within pm_count_within an_count_within cd_count_within ct_count_within), sl_count_within⟩)
    (c_count_within : PySem.W.codeIn K cd_count_within "count_within" = true)
    (k_count_within : PySem.W.keepIn K (.ref f_count_within) = true)
    (a_standing_of : PySem.W.nsIn K mainGlobals "standing_of" = some (some (.ref f_standing_of)))
    (l_standing_of : K.lookup f_standing_of = some ⟨oc_standing_of, od_standing_of, .func (PySem.W.fnOf "standing_of" "standing_of" (defArgs s_standing_of) (defBody s_standing_of) (defScope s_standing_of) .none kV_standing_of dc_standing_of pm_standing_of an_standing_of cd_standing_of ct_standing_of), sl_standing_of⟩)
    (c_standing_of : PySem.W.codeIn K cd_standing_of "standing_of" = true)
    (k_standing_of : PySem.W.keepIn K (.ref f_standing_of) = true)
    (a_points_within : PySem.W.nsIn K mainGlobals "points_within" = some (some (.ref f_points_within)))
    (l_points_within : K.lookup f_points_within = some ⟨oc_points_within, od_points_within, .func (PySem.W.fnOf "points_within" "points_within" (defArgs s_points_within) (defBody s_points_within) (defScope s_points_within) .none kV_points_within dc_points_within pm_points_within an_points_within cd_points_within ct_points_within), sl_points_within⟩)
    (c_points_within : PySem.W.codeIn K cd_points_within "points_within" = true)
    (k_points_within : PySem.W.keepIn K (.ref f_points_within) = true)
    (a_width_across : PySem.W.nsIn K mainGlobals "width_across" = some (some (.ref f_width_across)))
    (l_width_across : K.lookup f_width_across = some ⟨oc_width_across, od_width_across, .func (PySem.W.fnOf "width_across" "width_across" (defArgs s_width_across) (defBody s_width_across) (defScope s_width_across) .none kV_width_across dc_width_across pm_width_across an_width_across cd_width_across ct_width_across), sl_width_across⟩)
    (c_width_across : PySem.W.codeIn K cd_width_across "width_across" = true)
    (k_width_across : PySem.W.keepIn K (.ref f_width_across) = true)
    (a_pairs_reaching : PySem.W.nsIn K mainGlobals "pairs_reaching" = some (some (.ref f_pairs_reaching)))
    (l_pairs_reaching : K.lookup f_pairs_reaching = some ⟨oc_pairs_reaching, od_pairs_reaching, .func (PySem.W.fnOf "pairs_reaching" "pairs_reaching" (defArgs s_pairs_reaching) (defBody s_pairs_reaching) (defScope s_pairs_reaching) .none kV_pairs_reaching dc_pairs_reaching pm_pairs_reaching an_pairs_reaching cd_pairs_reaching ct_pairs_reaching), sl_pairs_reaching⟩)
    (c_pairs_reaching : PySem.W.codeIn K cd_pairs_reaching "pairs_reaching" = true)
    (k_pairs_reaching : PySem.W.keepIn K (.ref f_pairs_reaching) = true)
    (a_direction_rising : PySem.W.nsIn K mainGlobals "direction_rising" = some (some (.ref f_direction_rising)))
    (l_direction_rising : K.lookup f_direction_rising = some ⟨oc_direction_rising, od_direction_rising, .func (PySem.W.fnOf "direction_rising" "direction_rising" (defArgs s_direction_rising) (defBody s_direction_rising) (defScope s_direction_rising) .none kV_direction_rising dc_direction_rising pm_direction_rising an_direction_rising cd_direction_rising ct_direction_rising), sl_direction_rising⟩)
    (c_direction_rising : PySem.W.codeIn K cd_direction_rising "direction_rising" = true)
    (k_direction_rising : PySem.W.keepIn K (.ref f_direction_rising) = true)
    (a_narrowest_directions : PySem.W.nsIn K mainGlobals "narrowest_directions" = some (some (.ref f_narrowest_directions)))
    (l_narrowest_directions : K.lookup f_narrowest_directions = some ⟨oc_narrowest_directions, od_narrowest_directions, .func (PySem.W.fnOf "narrowest_directions" "narrowest_directions" (defArgs s_narrowest_directions) (defBody s_narrowest_directions) (defScope s_narrowest_directions) .none kV_narrowest_directions dc_narrowest_directions pm_narrowest_directions an_narrowest_directions cd_narrowest_directions ct_narrowest_directions), sl_narrowest_directions⟩)
    (c_narrowest_directions : PySem.W.codeIn K cd_narrowest_directions "narrowest_directions" = true)
    (k_narrowest_directions : PySem.W.keepIn K (.ref f_narrowest_directions) = true)
    (a_mirrored : PySem.W.nsIn K mainGlobals "mirrored" = some (some (.ref f_mirrored)))
    (l_mirrored : K.lookup f_mirrored = some ⟨oc_mirrored, od_mirrored, .func (PySem.W.fnOf "mirrored" "mirrored" (defArgs s_mirrored) (defBody s_mirrored) (defScope s_mirrored) .none kV_mirrored dc_mirrored pm_mirrored an_mirrored cd_mirrored ct_mirrored), sl_mirrored⟩)
    (c_mirrored : PySem.W.codeIn K cd_mirrored "mirrored" = true)
    (k_mirrored : PySem.W.keepIn K (.ref f_mirrored) = true)
    (a_row_from : PySem.W.nsIn K mainGlobals "row_from" = some (some (.ref f_row_from)))
    (l_row_from : K.lookup f_row_from = some ⟨oc_row_from, od_row_from, .func (PySem.W.fnOf "row_from" "row_from" (defArgs s_row_from) (defBody s_row_from) (defScope s_row_from) .none kV_row_from dc_row_from pm_row_from an_row_from cd_row_from ct_row_from), sl_row_from⟩)
    (c_row_from : PySem.W.codeIn K cd_row_from "row_from" = true)
    (k_row_from : PySem.W.keepIn K (.ref f_row_from) = true)
    (a_rows_from_each : PySem.W.nsIn K mainGlobals "rows_from_each" = some (some (.ref f_rows_from_each)))
    (l_rows_from_each : K.lookup f_rows_from_each = some ⟨oc_rows_from_each, od_rows_from_each, .func (PySem.W.fnOf "rows_from_each" "rows_from_each" (defArgs s_rows_from_each) (defBody s_rows_from_each) (defScope s_rows_from_each) .none kV_rows_from_each dc_rows_from_each pm_rows_from_each an_rows_from_each cd_rows_from_each ct_rows_from_each), sl_rows_from_each⟩)
    (c_rows_from_each : PySem.W.codeIn K cd_rows_from_each "rows_from_each" = true)
    (k_rows_from_each : PySem.W.keepIn K (.ref f_rows_from_each) = true)
    (a_one_form : PySem.W.nsIn K mainGlobals "one_form" = some (some (.ref f_one_form)))
    (l_one_form : K.lookup f_one_form = some ⟨oc_one_form, od_one_form, .func (PySem.W.fnOf "one_form" "one_form" (defArgs s_one_form) (defBody s_one_form) (defScope s_one_form) .none kV_one_form dc_one_form pm_one_form an_one_form cd_one_form ct_one_form), sl_one_form⟩)
    (c_one_form : PySem.W.codeIn K cd_one_form "one_form" = true)
    (k_one_form : PySem.W.keepIn K (.ref f_one_form) = true)
    (a_dual_corner : PySem.W.nsIn K mainGlobals "dual_corner" = some (some (.ref f_dual_corner)))
    (l_dual_corner : K.lookup f_dual_corner = some ⟨oc_dual_corner, od_dual_corner, .func (PySem.W.fnOf "dual_corner" "dual_corner" (defArgs s_dual_corner) (defBody s_dual_corner) (defScope s_dual_corner) .none kV_dual_corner dc_dual_corner pm_dual_corner an_dual_corner cd_dual_corner ct_dual_corner), sl_dual_corner⟩)
    (c_dual_corner : PySem.W.codeIn K cd_dual_corner "dual_corner" = true)
    (k_dual_corner : PySem.W.keepIn K (.ref f_dual_corner) = true)
    (a_dual_corners : PySem.W.nsIn K mainGlobals "dual_corners" = some (some (.ref f_dual_corners)))
    (l_dual_corners : K.lookup f_dual_corners = some ⟨oc_dual_corners, od_dual_corners, .func (PySem.W.fnOf "dual_corners" "dual_corners" (defArgs s_dual_corners) (defBody s_dual_corners) (defScope s_dual_corners) .none kV_dual_corners dc_dual_corners pm_dual_corners an_dual_corners cd_dual_corners ct_dual_corners), sl_dual_corners⟩)
    (c_dual_corners : PySem.W.codeIn K cd_dual_corners "dual_corners" = true)
    (k_dual_corners : PySem.W.keepIn K (.ref f_dual_corners) = true)
    (a_read_points : PySem.W.nsIn K mainGlobals "read_points" = some (some (.ref f_read_points)))
    (l_read_points : K.lookup f_read_points = some ⟨oc_read_points, od_read_points, .func (PySem.W.fnOf "read_points" "read_points" (defArgs s_read_points) (defBody s_read_points) (defScope s_read_points) .none kV_read_points dc_read_points pm_read_points an_read_points cd_read_points ct_read_points), sl_read_points⟩)
    (c_read_points : PySem.W.codeIn K cd_read_points "read_points" = true)
    (k_read_points : PySem.W.keepIn K (.ref f_read_points) = true)
    (a_read_one_point : PySem.W.nsIn K mainGlobals "read_one_point" = some (some (.ref f_read_one_point)))
    (l_read_one_point : K.lookup f_read_one_point = some ⟨oc_read_one_point, od_read_one_point, .func (PySem.W.fnOf "read_one_point" "read_one_point" (defArgs s_read_one_point) (defBody s_read_one_point) (defScope s_read_one_point) .none kV_read_one_point dc_read_one_point pm_read_one_point an_read_one_point cd_read_one_point ct_read_one_point), sl_read_one_point⟩)
    (c_read_one_point : PySem.W.codeIn K cd_read_one_point "read_one_point" = true)
    (k_read_one_point : PySem.W.keepIn K (.ref f_read_one_point) = true)
    (a_read_corners : PySem.W.nsIn K mainGlobals "read_corners" = some (some (.ref f_read_corners)))
    (l_read_corners : K.lookup f_read_corners = some ⟨oc_read_corners, od_read_corners, .func (PySem.W.fnOf "read_corners" "read_corners" (defArgs s_read_corners) (defBody s_read_corners) (defScope s_read_corners) .none kV_read_corners dc_read_corners pm_read_corners an_read_corners cd_read_corners ct_read_corners), sl_read_corners⟩)
    (c_read_corners : PySem.W.codeIn K cd_read_corners "read_corners" = true)
    (k_read_corners : PySem.W.keepIn K (.ref f_read_corners) = true)
    (a_numbers_of : PySem.W.nsIn K mainGlobals "numbers_of" = some (some (.ref f_numbers_of)))
    (l_numbers_of : K.lookup f_numbers_of = some ⟨oc_numbers_of, od_numbers_of, .func (PySem.W.fnOf "numbers_of" "numbers_of" (defArgs s_numbers_of) (defBody s_numbers_of) (defScope s_numbers_of) .none kV_numbers_of dc_numbers_of pm_numbers_of an_numbers_of cd_numbers_of ct_numbers_of), sl_numbers_of⟩)
    (c_numbers_of : PySem.W.codeIn K cd_numbers_of "numbers_of" = true)
    (k_numbers_of : PySem.W.keepIn K (.ref f_numbers_of) = true)
    (a_told_with_count : PySem.W.nsIn K mainGlobals "told_with_count" = some (some (.ref f_told_with_count)))
    (l_told_with_count : K.lookup f_told_with_count = some ⟨oc_told_with_count, od_told_with_count, .func (PySem.W.fnOf "told_with_count" "told_with_count" (defArgs s_told_with_count) (defBody s_told_with_count) (defScope s_told_with_count) .none kV_told_with_count dc_told_with_count pm_told_with_count an_told_with_count cd_told_with_count ct_told_with_count), sl_told_with_count⟩)
    (c_told_with_count : PySem.W.codeIn K cd_told_with_count "told_with_count" = true)
    (k_told_with_count : PySem.W.keepIn K (.ref f_told_with_count) = true)
    (a_answer_begin : PySem.W.nsIn K mainGlobals "answer_begin" = some (some (.ref f_answer_begin)))
    (l_answer_begin : K.lookup f_answer_begin = some ⟨oc_answer_begin, od_answer_begin, .func (PySem.W.fnOf "answer_begin" "answer_begin" (defArgs s_answer_begin) (defBody s_answer_begin) (defScope s_answer_begin) .none kV_answer_begin dc_answer_begin pm_answer_begin an_answer_begin cd_answer_begin ct_answer_begin), sl_answer_begin⟩)
    (c_answer_begin : PySem.W.codeIn K cd_answer_begin "answer_begin" = true)
    (k_answer_begin : PySem.W.keepIn K (.ref f_answer_begin) = true)
    (a_answer_size : PySem.W.nsIn K mainGlobals "answer_size" = some (some (.ref f_answer_size)))
    (l_answer_size : K.lookup f_answer_size = some ⟨oc_answer_size, od_answer_size, .func (PySem.W.fnOf "answer_size" "answer_size" (defArgs s_answer_size) (defBody s_answer_size) (defScope s_answer_size) .none kV_answer_size dc_answer_size pm_answer_size an_answer_size cd_answer_size ct_answer_size), sl_answer_size⟩)
    (c_answer_size : PySem.W.codeIn K cd_answer_size "answer_size" = true)
    (k_answer_size : PySem.W.keepIn K (.ref f_answer_size) = true)
    (a_answer_count : PySem.W.nsIn K mainGlobals "answer_count" = some (some (.ref f_answer_count)))
    (l_answer_count : K.lookup f_answer_count = some ⟨oc_answer_count, od_answer_count, .func (PySem.W.fnOf "answer_count" "answer_count" (defArgs s_answer_count) (defBody s_answer_count) (defScope s_answer_count) .none kV_answer_count dc_answer_count pm_answer_count an_answer_count cd_answer_count ct_answer_count), sl_answer_count⟩)
    (c_answer_count : PySem.W.codeIn K cd_answer_count "answer_count" = true)
    (k_answer_count : PySem.W.keepIn K (.ref f_answer_count) = true)
    (a_answer_where : PySem.W.nsIn K mainGlobals "answer_where" = some (some (.ref f_answer_where)))
    (l_answer_where : K.lookup f_answer_where = some ⟨oc_answer_where, od_answer_where, .func (PySem.W.fnOf "answer_where" "answer_where" (defArgs s_answer_where) (defBody s_answer_where) (defScope s_answer_where) .none kV_answer_where dc_answer_where pm_answer_where an_answer_where cd_answer_where ct_answer_where), sl_answer_where⟩)
    (c_answer_where : PySem.W.codeIn K cd_answer_where "answer_where" = true)
    (k_answer_where : PySem.W.keepIn K (.ref f_answer_where) = true)
    (a_answer_width : PySem.W.nsIn K mainGlobals "answer_width" = some (some (.ref f_answer_width)))
    (l_answer_width : K.lookup f_answer_width = some ⟨oc_answer_width, od_answer_width, .func (PySem.W.fnOf "answer_width" "answer_width" (defArgs s_answer_width) (defBody s_answer_width) (defScope s_answer_width) .none kV_answer_width dc_answer_width pm_answer_width an_answer_width cd_answer_width ct_answer_width), sl_answer_width⟩)
    (c_answer_width : PySem.W.codeIn K cd_answer_width "answer_width" = true)
    (k_answer_width : PySem.W.keepIn K (.ref f_answer_width) = true)
    (a_answer_same : PySem.W.nsIn K mainGlobals "answer_same" = some (some (.ref f_answer_same)))
    (l_answer_same : K.lookup f_answer_same = some ⟨oc_answer_same, od_answer_same, .func (PySem.W.fnOf "answer_same" "answer_same" (defArgs s_answer_same) (defBody s_answer_same) (defScope s_answer_same) .none kV_answer_same dc_answer_same pm_answer_same an_answer_same cd_answer_same ct_answer_same), sl_answer_same⟩)
    (c_answer_same : PySem.W.codeIn K cd_answer_same "answer_same" = true)
    (k_answer_same : PySem.W.keepIn K (.ref f_answer_same) = true)
    (a_answer_twelve : PySem.W.nsIn K mainGlobals "answer_twelve" = some (some (.ref f_answer_twelve)))
    (l_answer_twelve : K.lookup f_answer_twelve = some ⟨oc_answer_twelve, od_answer_twelve, .func (PySem.W.fnOf "answer_twelve" "answer_twelve" (defArgs s_answer_twelve) (defBody s_answer_twelve) (defScope s_answer_twelve) .none kV_answer_twelve dc_answer_twelve pm_answer_twelve an_answer_twelve cd_answer_twelve ct_answer_twelve), sl_answer_twelve⟩)
    (c_answer_twelve : PySem.W.codeIn K cd_answer_twelve "answer_twelve" = true)
    (k_answer_twelve : PySem.W.keepIn K (.ref f_answer_twelve) = true)
    (a_answer_call : PySem.W.nsIn K mainGlobals "answer_call" = some (some (.ref f_answer_call)))
    (l_answer_call : K.lookup f_answer_call = some ⟨oc_answer_call, od_answer_call, .func (PySem.W.fnOf "answer_call" "answer_call" (defArgs s_answer_call) (defBody s_answer_call) (defScope s_answer_call) .none kV_answer_call dc_answer_call pm_answer_call an_answer_call cd_answer_call ct_answer_call), sl_answer_call⟩)
    (c_answer_call : PySem.W.codeIn K cd_answer_call "answer_call" = true)
    (k_answer_call : PySem.W.keepIn K (.ref f_answer_call) = true)
    (a_answer_or_refusal : PySem.W.nsIn K mainGlobals "answer_or_refusal" = some (some (.ref f_answer_or_refusal)))
    (l_answer_or_refusal : K.lookup f_answer_or_refusal = some ⟨oc_answer_or_refusal, od_answer_or_refusal, .func (PySem.W.fnOf "answer_or_refusal" "answer_or_refusal" (defArgs s_answer_or_refusal) (defBody s_answer_or_refusal) (defScope s_answer_or_refusal) .none kV_answer_or_refusal dc_answer_or_refusal pm_answer_or_refusal an_answer_or_refusal cd_answer_or_refusal ct_answer_or_refusal), sl_answer_or_refusal⟩)
    (c_answer_or_refusal : PySem.W.codeIn K cd_answer_or_refusal "answer_or_refusal" = true)
    (k_answer_or_refusal : PySem.W.keepIn K (.ref f_answer_or_refusal) = true)
    (a_answers : PySem.W.nsIn K mainGlobals "answers" = some (some (.ref f_answers)))
    (l_answers : K.lookup f_answers = some ⟨oc_answers, od_answers, .func (PySem.W.fnOf "answers" "answers" (defArgs s_answers) (defBody s_answers) (defScope s_answers) .none kV_answers dc_answers pm_answers an_answers cd_answers ct_answers), sl_answers⟩)
    (c_answers : PySem.W.codeIn K cd_answers "answers" = true)
    (k_answers : PySem.W.keepIn K (.ref f_answers) = true)
    (g_Polygon : PySem.W.nsIn K mainGlobals "Polygon" = some (some (.ref C_Polygon)))
    (a_Polygon_init : PySem.W.findIn K (.ref C_Polygon) "__init__" = some (some (.ref f_Polygon_init)))
    (l_Polygon_init : K.lookup f_Polygon_init = some ⟨oc_Polygon_init, od_Polygon_init, .func (PySem.W.fnOf "__init__" "Polygon.__init__" (defArgs s_Polygon_init) (defBody s_Polygon_init) (defScope s_Polygon_init) .none kV_Polygon_init dc_Polygon_init pm_Polygon_init an_Polygon_init cd_Polygon_init ct_Polygon_init), sl_Polygon_init⟩)
    (c_Polygon_init : PySem.W.codeIn K cd_Polygon_init "Polygon.__init__" = true)
    (k_Polygon_init : PySem.W.keepIn K (.ref f_Polygon_init) = true)
    (i_Polygon_init : PySem.W.isFn K (.ref f_Polygon_init) = true)
    (pg_Polygon : PySem.W.plainGet K C_Polygon Str.empty = true)
    (hd_Polygon : PySem.W.hasDictIn K C_Polygon = true)
    (po_Polygon : PySem.W.plainOver K C_Polygon = true)
    (sa_Polygon : PySem.W.findIn K (.ref C_Polygon) "__setattr__" = some (some (.builtin "object.__setattr__")))
    (mk_Polygon : PySem.W.makesIn K C_Polygon = true)
    (kc_Polygon : PySem.W.keepIn K (.ref C_Polygon) = true)
    (g_Reader : PySem.W.nsIn K mainGlobals "Reader" = some (some (.ref C_Reader)))
    (a_Reader_init : PySem.W.findIn K (.ref C_Reader) "__init__" = some (some (.ref f_Reader_init)))
    (l_Reader_init : K.lookup f_Reader_init = some ⟨oc_Reader_init, od_Reader_init, .func (PySem.W.fnOf "__init__" "Reader.__init__" (defArgs s_Reader_init) (defBody s_Reader_init) (defScope s_Reader_init) .none kV_Reader_init dc_Reader_init pm_Reader_init an_Reader_init cd_Reader_init ct_Reader_init), sl_Reader_init⟩)
    (c_Reader_init : PySem.W.codeIn K cd_Reader_init "Reader.__init__" = true)
    (k_Reader_init : PySem.W.keepIn K (.ref f_Reader_init) = true)
    (i_Reader_init : PySem.W.isFn K (.ref f_Reader_init) = true)
    (a_Reader_at_end : PySem.W.findIn K (.ref C_Reader) "at_end" = some (some (.ref f_Reader_at_end)))
    (l_Reader_at_end : K.lookup f_Reader_at_end = some ⟨oc_Reader_at_end, od_Reader_at_end, .func (PySem.W.fnOf "at_end" "Reader.at_end" (defArgs s_Reader_at_end) (defBody s_Reader_at_end) (defScope s_Reader_at_end) .none kV_Reader_at_end dc_Reader_at_end pm_Reader_at_end an_Reader_at_end cd_Reader_at_end ct_Reader_at_end), sl_Reader_at_end⟩)
    (c_Reader_at_end : PySem.W.codeIn K cd_Reader_at_end "Reader.at_end" = true)
    (k_Reader_at_end : PySem.W.keepIn K (.ref f_Reader_at_end) = true)
    (i_Reader_at_end : PySem.W.isFn K (.ref f_Reader_at_end) = true)
    (a_Reader_take_number : PySem.W.findIn K (.ref C_Reader) "take_number" = some (some (.ref f_Reader_take_number)))
    (l_Reader_take_number : K.lookup f_Reader_take_number = some ⟨oc_Reader_take_number, od_Reader_take_number, .func (PySem.W.fnOf "take_number" "Reader.take_number" (defArgs s_Reader_take_number) (defBody s_Reader_take_number) (defScope s_Reader_take_number) .none kV_Reader_take_number dc_Reader_take_number pm_Reader_take_number an_Reader_take_number cd_Reader_take_number ct_Reader_take_number), sl_Reader_take_number⟩)
    (c_Reader_take_number : PySem.W.codeIn K cd_Reader_take_number "Reader.take_number" = true)
    (k_Reader_take_number : PySem.W.keepIn K (.ref f_Reader_take_number) = true)
    (i_Reader_take_number : PySem.W.isFn K (.ref f_Reader_take_number) = true)
    (a_Reader_take_row : PySem.W.findIn K (.ref C_Reader) "take_row" = some (some (.ref f_Reader_take_row)))
    (l_Reader_take_row : K.lookup f_Reader_take_row = some ⟨oc_Reader_take_row, od_Reader_take_row, .func (PySem.W.fnOf "take_row" "Reader.take_row" (defArgs s_Reader_take_row) (defBody s_Reader_take_row) (defScope s_Reader_take_row) .none kV_Reader_take_row dc_Reader_take_row pm_Reader_take_row an_Reader_take_row cd_Reader_take_row ct_Reader_take_row), sl_Reader_take_row⟩)
    (c_Reader_take_row : PySem.W.codeIn K cd_Reader_take_row "Reader.take_row" = true)
    (k_Reader_take_row : PySem.W.keepIn K (.ref f_Reader_take_row) = true)
    (i_Reader_take_row : PySem.W.isFn K (.ref f_Reader_take_row) = true)
    (pg_Reader : PySem.W.plainGet K C_Reader Str.empty = true)
    (hd_Reader : PySem.W.hasDictIn K C_Reader = true)
    (po_Reader : PySem.W.plainOver K C_Reader = true)
    (sa_Reader : PySem.W.findIn K (.ref C_Reader) "__setattr__" = some (some (.builtin "object.__setattr__")))
    (mk_Reader : PySem.W.makesIn K C_Reader = true)
    (kc_Reader : PySem.W.keepIn K (.ref C_Reader) = true)
    (n_Polygon_corners : PySem.W.findIn K (.ref C_Polygon) "corners" = some none)
    (n_Reader_numbers : PySem.W.findIn K (.ref C_Reader) "numbers" = some none)
    (n_Reader_place : PySem.W.findIn K (.ref C_Reader) "place" = some none)
    (g_NotPoints : PySem.W.nsIn K mainGlobals "NotPoints" = some (some (.ref C_NotPoints)))
    (x_NotPoints : PySem.W.excIn K C_NotPoints [.type "Exception", .type "BaseException", .type "object"] "Exception.__new__" = true)
    (k_NotPoints : PySem.W.keepIn K (.ref C_NotPoints) = true)
    (b_NotPoints : PySem.W.subIn K (.ref C_NotPoints) (.type "BaseException") = some true)
    (t_NotPoints : PySem.W.typeIn K (.ref C_NotPoints) = some (.type "type"))
    (i_NotPoints : PySem.W.isClsIn K C_NotPoints = true)
    (g_BeyondBounds : PySem.W.nsIn K mainGlobals "BeyondBounds" = some (some (.ref C_BeyondBounds)))
    (x_BeyondBounds : PySem.W.excIn K C_BeyondBounds [.type "Exception", .type "BaseException", .type "object"] "Exception.__new__" = true)
    (k_BeyondBounds : PySem.W.keepIn K (.ref C_BeyondBounds) = true)
    (b_BeyondBounds : PySem.W.subIn K (.ref C_BeyondBounds) (.type "BaseException") = some true)
    (t_BeyondBounds : PySem.W.typeIn K (.ref C_BeyondBounds) = some (.type "type"))
    (i_BeyondBounds : PySem.W.isClsIn K C_BeyondBounds = true)
    (g_InOneLine : PySem.W.nsIn K mainGlobals "InOneLine" = some (some (.ref C_InOneLine)))
    (x_InOneLine : PySem.W.excIn K C_InOneLine [.type "Exception", .type "BaseException", .type "object"] "Exception.__new__" = true)
    (k_InOneLine : PySem.W.keepIn K (.ref C_InOneLine) = true)
    (b_InOneLine : PySem.W.subIn K (.ref C_InOneLine) (.type "BaseException") = some true)
    (t_InOneLine : PySem.W.typeIn K (.ref C_InOneLine) = some (.type "type"))
    (i_InOneLine : PySem.W.isClsIn K C_InOneLine = true)
    (g_NotJustOneWithin : PySem.W.nsIn K mainGlobals "NotJustOneWithin" = some (some (.ref C_NotJustOneWithin)))
    (x_NotJustOneWithin : PySem.W.excIn K C_NotJustOneWithin [.type "Exception", .type "BaseException", .type "object"] "Exception.__new__" = true)
    (k_NotJustOneWithin : PySem.W.keepIn K (.ref C_NotJustOneWithin) = true)
    (b_NotJustOneWithin : PySem.W.subIn K (.ref C_NotJustOneWithin) (.type "BaseException") = some true)
    (t_NotJustOneWithin : PySem.W.typeIn K (.ref C_NotJustOneWithin) = some (.type "type"))
    (i_NotJustOneWithin : PySem.W.isClsIn K C_NotJustOneWithin = true)
    (s_nn : PySem.W.subIn K (.ref C_NotPoints) (.ref C_NotPoints) = some true)
    (s_bn : PySem.W.subIn K (.ref C_BeyondBounds) (.ref C_NotPoints) = some false)
    (s_bb : PySem.W.subIn K (.ref C_BeyondBounds) (.ref C_BeyondBounds) = some true)
    (s_ln : PySem.W.subIn K (.ref C_InOneLine) (.ref C_NotPoints) = some false)
    (s_lb : PySem.W.subIn K (.ref C_InOneLine) (.ref C_BeyondBounds) = some false)
    (s_ll : PySem.W.subIn K (.ref C_InOneLine) (.ref C_InOneLine) = some true)
    (s_wn : PySem.W.subIn K (.ref C_NotJustOneWithin) (.ref C_NotPoints) = some false)
    (s_wb : PySem.W.subIn K (.ref C_NotJustOneWithin) (.ref C_BeyondBounds) = some false)
    (s_wl : PySem.W.subIn K (.ref C_NotJustOneWithin) (.ref C_InOneLine) = some false)
    (s_ww : PySem.W.subIn K (.ref C_NotJustOneWithin) (.ref C_NotJustOneWithin) = some true)
    (v_BEGIN : PySem.W.nsIn K mainGlobals "BEGIN" = some (some (.int (1) t_BEGIN)))
    (v_CORNERS : PySem.W.nsIn K mainGlobals "CORNERS" = some (some (.int (2) t_CORNERS)))
    (v_SIZE : PySem.W.nsIn K mainGlobals "SIZE" = some (some (.int (3) t_SIZE)))
    (v_COUNT : PySem.W.nsIn K mainGlobals "COUNT" = some (some (.int (4) t_COUNT)))
    (v_WHERE : PySem.W.nsIn K mainGlobals "WHERE" = some (some (.int (5) t_WHERE)))
    (v_INNER : PySem.W.nsIn K mainGlobals "INNER" = some (some (.int (6) t_INNER)))
    (v_WIDTH : PySem.W.nsIn K mainGlobals "WIDTH" = some (some (.int (7) t_WIDTH)))
    (v_FORM : PySem.W.nsIn K mainGlobals "FORM" = some (some (.int (8) t_FORM)))
    (v_SAME : PySem.W.nsIn K mainGlobals "SAME" = some (some (.int (9) t_SAME)))
    (v_DUAL : PySem.W.nsIn K mainGlobals "DUAL" = some (some (.int (10) t_DUAL)))
    (v_TWELVE : PySem.W.nsIn K mainGlobals "TWELVE" = some (some (.int (11) t_TWELVE)))
    (v_REFUSED_LISTS : PySem.W.nsIn K mainGlobals "REFUSED_LISTS" = some (some (.int (-3) t_REFUSED_LISTS)))
    (v_REFUSED_BOUNDS : PySem.W.nsIn K mainGlobals "REFUSED_BOUNDS" = some (some (.int (-1) t_REFUSED_BOUNDS)))
    (v_REFUSED_LINE : PySem.W.nsIn K mainGlobals "REFUSED_LINE" = some (some (.int (-4) t_REFUSED_LINE)))
    (v_REFUSED_WITHIN : PySem.W.nsIn K mainGlobals "REFUSED_WITHIN" = some (some (.int (-4) t_REFUSED_WITHIN)))
    (v_FEWEST_POINTS : PySem.W.nsIn K mainGlobals "FEWEST_POINTS" = some (some (.int (3) t_FEWEST_POINTS)))
    (v_MOST_POINTS : PySem.W.nsIn K mainGlobals "MOST_POINTS" = some (some (.int (12) t_MOST_POINTS)))
    (v_GREATEST_NUMBER : PySem.W.nsIn K mainGlobals "GREATEST_NUMBER" = some (some (.int (20) t_GREATEST_NUMBER)))
    (v_GREATEST_TIMES : PySem.W.nsIn K mainGlobals "GREATEST_TIMES" = some (some (.int (1000) t_GREATEST_TIMES)))
    (v_OUTSIDE : PySem.W.nsIn K mainGlobals "OUTSIDE" = some (some (.int (0) t_OUTSIDE)))
    (v_AT_EDGE : PySem.W.nsIn K mainGlobals "AT_EDGE" = some (some (.int (1) t_AT_EDGE)))
    (v_WITHIN : PySem.W.nsIn K mainGlobals "WITHIN" = some (some (.int (2) t_WITHIN)))
    (z_len : PySem.W.nsIn K mainGlobals "len" = some none)
    (z_list : PySem.W.nsIn K mainGlobals "list" = some none)
    (z_zip : PySem.W.nsIn K mainGlobals "zip" = some none)
    (z_reversed : PySem.W.nsIn K mainGlobals "reversed" = some none)
    (z_set : PySem.W.nsIn K mainGlobals "set" = some none)
    (z_sorted : PySem.W.nsIn K mainGlobals "sorted" = some none)
    (z_sum : PySem.W.nsIn K mainGlobals "sum" = some none)
    (z_min : PySem.W.nsIn K mainGlobals "min" = some none)
    (z_max : PySem.W.nsIn K mainGlobals "max" = some none)
    (z_abs : PySem.W.nsIn K mainGlobals "abs" = some none)
    (z_any : PySem.W.nsIn K mainGlobals "any" = some none)
    (z_range : PySem.W.nsIn K mainGlobals "range" = some none)
    (z_tuple : PySem.W.nsIn K mainGlobals "tuple" = some none)
    (gF : PySem.W.nsIn K mainGlobals "FIRST_CORNERS" = some (some (.ref F0)))
    (lF : K.lookup F0 = some ⟨.type "tuple", odF, .seq #[.ref T1, .ref T2, .ref T3] nF, slF⟩)
    (lT1 : K.lookup T1 = some ⟨.type "tuple", od1, .seq #[.int 0 t11, .int 0 t12] n1, sl1⟩)
    (lT2 : K.lookup T2 = some ⟨.type "tuple", od2, .seq #[.int 1 t21, .int 0 t22] n2, sl2⟩)
    (lT3 : K.lookup T3 = some ⟨.type "tuple", od3, .seq #[.int 0 t31, .int 1 t32] n3, sl3⟩)
    : ∃ fd : FuncData, (∀ (s : Shared) (us : List Value), us.length = (["calls"] : List Str).length → BindsTo s fd ⟨us, []⟩ ((["calls"] : List Str).zip us)) ∧ ∀ base : Heap, K.In base → base.Ns mainGlobals mg → FnOk P w K mg base CX0 10 fa fd ["calls"] (spMain K) := by
  have e : f_answers = fa := by
    have e0 := (PySem.W.mg_of X G a_answers).symm.trans hfa
    injection e0 with e1
    injection e1
  subst e
  have F_cross := fun_mk (st := s_cross) l_cross c_cross k_cross
  have D_cross : DefF K mg "cross" s_cross ["a", "b"] := ⟨f_cross, _, F_cross, F_cross.binds (ps := ["a", "b"]) (fun _ _ _ _ _ _ us hl => match us, hl with | [_, _], _ => rfl), PySem.W.mg_of X G a_cross⟩
  have F_seen_from := fun_mk (st := s_seen_from) l_seen_from c_seen_from k_seen_from
  have D_seen_from : DefF K mg "seen_from" s_seen_from ["origin", "points"] := ⟨f_seen_from, _, F_seen_from, F_seen_from.binds (ps := ["origin", "points"]) (fun _ _ _ _ _ _ us hl => match us, hl with | [_, _], _ => rfl), PySem.W.mg_of X G a_seen_from⟩
  have F_turn := fun_mk (st := s_turn) l_turn c_turn k_turn
  have D_turn : DefF K mg "turn" s_turn ["a", "b", "c"] := ⟨f_turn, _, F_turn, F_turn.binds (ps := ["a", "b", "c"]) (fun _ _ _ _ _ _ us hl => match us, hl with | [_, _, _], _ => rfl), PySem.W.mg_of X G a_turn⟩
  have F_left_turning_way := fun_mk (st := s_left_turning_way) l_left_turning_way c_left_turning_way k_left_turning_way
  have D_left_turning_way : DefF K mg "left_turning_way" s_left_turning_way ["points"] := ⟨f_left_turning_way, _, F_left_turning_way, F_left_turning_way.binds (ps := ["points"]) (fun _ _ _ _ _ _ us hl => match us, hl with | [_], _ => rfl), PySem.W.mg_of X G a_left_turning_way⟩
  have F_corners_of := fun_mk (st := s_corners_of) l_corners_of c_corners_of k_corners_of
  have D_corners_of : DefF K mg "corners_of" s_corners_of ["points"] := ⟨f_corners_of, _, F_corners_of, F_corners_of.binds (ps := ["points"]) (fun _ _ _ _ _ _ us hl => match us, hl with | [_], _ => rfl), PySem.W.mg_of X G a_corners_of⟩
  have F_edges_of := fun_mk (st := s_edges_of) l_edges_of c_edges_of k_edges_of
  have D_edges_of : DefF K mg "edges_of" s_edges_of ["corners"] := ⟨f_edges_of, _, F_edges_of, F_edges_of.binds (ps := ["corners"]) (fun _ _ _ _ _ _ us hl => match us, hl with | [_], _ => rfl), PySem.W.mg_of X G a_edges_of⟩
  have F_divisor_and_factors := fun_mk (st := s_divisor_and_factors) l_divisor_and_factors c_divisor_and_factors k_divisor_and_factors
  have D_divisor_and_factors : DefF K mg "divisor_and_factors" s_divisor_and_factors ["a", "b"] := ⟨f_divisor_and_factors, _, F_divisor_and_factors, F_divisor_and_factors.binds (ps := ["a", "b"]) (fun _ _ _ _ _ _ us hl => match us, hl with | [_, _], _ => rfl), PySem.W.mg_of X G a_divisor_and_factors⟩
  have F_greatest_divisor := fun_mk (st := s_greatest_divisor) l_greatest_divisor c_greatest_divisor k_greatest_divisor
  have D_greatest_divisor : DefF K mg "greatest_divisor" s_greatest_divisor ["a", "b"] := ⟨f_greatest_divisor, _, F_greatest_divisor, F_greatest_divisor.binds (ps := ["a", "b"]) (fun _ _ _ _ _ _ us hl => match us, hl with | [_, _], _ => rfl), PySem.W.mg_of X G a_greatest_divisor⟩
  have F_twice_area := fun_mk (st := s_twice_area) l_twice_area c_twice_area k_twice_area
  have D_twice_area : DefF K mg "twice_area" s_twice_area ["corners"] := ⟨f_twice_area, _, F_twice_area, F_twice_area.binds (ps := ["corners"]) (fun _ _ _ _ _ _ us hl => match us, hl with | [_], _ => rfl), PySem.W.mg_of X G a_twice_area⟩
  have F_count_at_edge := fun_mk (st := s_count_at_edge) l_count_at_edge c_count_at_edge k_count_at_edge
  have D_count_at_edge : DefF K mg "count_at_edge" s_count_at_edge ["corners"] := ⟨f_count_at_edge, _, F_count_at_edge, F_count_at_edge.binds (ps := ["corners"]) (fun _ _ _ _ _ _ us hl => match us, hl with | [_], _ => rfl), PySem.W.mg_of X G a_count_at_edge⟩
  have F_count_all := fun_mk (st := s_count_all) l_count_all c_count_all k_count_all
  have D_count_all : DefF K mg "count_all" s_count_all ["corners", "k"] := ⟨f_count_all, _, F_count_all, F_count_all.binds (ps := ["corners", "k"]) (fun _ _ _ _ _ _ us hl => match us, hl with | [_, _], _ => rfl), PySem.W.mg_of X G a_count_all⟩
  have F_count_within := fun_mk (st := s_count_within) l_count_within c_count_within k_count_within
  have D_count_within : DefF K mg "count_within" s_count_within ["corners"] := ⟨f_count_within, _, F_count_within, F_count_within.binds (ps := ["corners"]) (fun _ _ _ _ _ _ us hl => match us, hl with | [_], _ => rfl), PySem.W.mg_of X G a_count_within⟩
  have F_standing_of := fun_mk (st := s_standing_of) l_standing_of c_standing_of k_standing_of
  have D_standing_of : DefF K mg "standing_of" s_standing_of ["corners", "point"] := ⟨f_standing_of, _, F_standing_of, F_standing_of.binds (ps := ["corners", "point"]) (fun _ _ _ _ _ _ us hl => match us, hl with | [_, _], _ => rfl), PySem.W.mg_of X G a_standing_of⟩
  have F_points_within := fun_mk (st := s_points_within) l_points_within c_points_within k_points_within
  have D_points_within : DefF K mg "points_within" s_points_within ["corners"] := ⟨f_points_within, _, F_points_within, F_points_within.binds (ps := ["corners"]) (fun _ _ _ _ _ _ us hl => match us, hl with | [_], _ => rfl), PySem.W.mg_of X G a_points_within⟩
  have F_width_across := fun_mk (st := s_width_across) l_width_across c_width_across k_width_across
  have D_width_across : DefF K mg "width_across" s_width_across ["corners", "direction"] := ⟨f_width_across, _, F_width_across, F_width_across.binds (ps := ["corners", "direction"]) (fun _ _ _ _ _ _ us hl => match us, hl with | [_, _], _ => rfl), PySem.W.mg_of X G a_width_across⟩
  have F_pairs_reaching := fun_mk (st := s_pairs_reaching) l_pairs_reaching c_pairs_reaching k_pairs_reaching
  have D_pairs_reaching : DefF K mg "pairs_reaching" s_pairs_reaching ["reach"] := ⟨f_pairs_reaching, _, F_pairs_reaching, F_pairs_reaching.binds (ps := ["reach"]) (fun _ _ _ _ _ _ us hl => match us, hl with | [_], _ => rfl), PySem.W.mg_of X G a_pairs_reaching⟩
  have F_direction_rising := fun_mk (st := s_direction_rising) l_direction_rising c_direction_rising k_direction_rising
  have D_direction_rising : DefF K mg "direction_rising" s_direction_rising ["b", "s", "c", "t"] := ⟨f_direction_rising, _, F_direction_rising, F_direction_rising.binds (ps := ["b", "s", "c", "t"]) (fun _ _ _ _ _ _ us hl => match us, hl with | [_, _, _, _], _ => rfl), PySem.W.mg_of X G a_direction_rising⟩
  have F_narrowest_directions := fun_mk (st := s_narrowest_directions) l_narrowest_directions c_narrowest_directions k_narrowest_directions
  have D_narrowest_directions : DefF K mg "narrowest_directions" s_narrowest_directions ["corners"] := ⟨f_narrowest_directions, _, F_narrowest_directions, F_narrowest_directions.binds (ps := ["corners"]) (fun _ _ _ _ _ _ us hl => match us, hl with | [_], _ => rfl), PySem.W.mg_of X G a_narrowest_directions⟩
  have F_mirrored := fun_mk (st := s_mirrored) l_mirrored c_mirrored k_mirrored
  have D_mirrored : DefF K mg "mirrored" s_mirrored ["corners"] := ⟨f_mirrored, _, F_mirrored, F_mirrored.binds (ps := ["corners"]) (fun _ _ _ _ _ _ us hl => match us, hl with | [_], _ => rfl), PySem.W.mg_of X G a_mirrored⟩
  have F_row_from := fun_mk (st := s_row_from) l_row_from c_row_from k_row_from
  have D_row_from : DefF K mg "row_from" s_row_from ["corners", "start"] := ⟨f_row_from, _, F_row_from, F_row_from.binds (ps := ["corners", "start"]) (fun _ _ _ _ _ _ us hl => match us, hl with | [_, _], _ => rfl), PySem.W.mg_of X G a_row_from⟩
  have F_rows_from_each := fun_mk (st := s_rows_from_each) l_rows_from_each c_rows_from_each k_rows_from_each
  have D_rows_from_each : DefF K mg "rows_from_each" s_rows_from_each ["corners"] := ⟨f_rows_from_each, _, F_rows_from_each, F_rows_from_each.binds (ps := ["corners"]) (fun _ _ _ _ _ _ us hl => match us, hl with | [_], _ => rfl), PySem.W.mg_of X G a_rows_from_each⟩
  have F_one_form := fun_mk (st := s_one_form) l_one_form c_one_form k_one_form
  have D_one_form : DefF K mg "one_form" s_one_form ["corners"] := ⟨f_one_form, _, F_one_form, F_one_form.binds (ps := ["corners"]) (fun _ _ _ _ _ _ us hl => match us, hl with | [_], _ => rfl), PySem.W.mg_of X G a_one_form⟩
  have F_dual_corner := fun_mk (st := s_dual_corner) l_dual_corner c_dual_corner k_dual_corner
  have D_dual_corner : DefF K mg "dual_corner" s_dual_corner ["a", "b"] := ⟨f_dual_corner, _, F_dual_corner, F_dual_corner.binds (ps := ["a", "b"]) (fun _ _ _ _ _ _ us hl => match us, hl with | [_, _], _ => rfl), PySem.W.mg_of X G a_dual_corner⟩
  have F_dual_corners := fun_mk (st := s_dual_corners) l_dual_corners c_dual_corners k_dual_corners
  have D_dual_corners : DefF K mg "dual_corners" s_dual_corners ["corners"] := ⟨f_dual_corners, _, F_dual_corners, F_dual_corners.binds (ps := ["corners"]) (fun _ _ _ _ _ _ us hl => match us, hl with | [_], _ => rfl), PySem.W.mg_of X G a_dual_corners⟩
  have F_read_points := fun_mk (st := s_read_points) l_read_points c_read_points k_read_points
  have D_read_points : DefF K mg "read_points" s_read_points ["plus", "minus"] := ⟨f_read_points, _, F_read_points, F_read_points.binds (ps := ["plus", "minus"]) (fun _ _ _ _ _ _ us hl => match us, hl with | [_, _], _ => rfl), PySem.W.mg_of X G a_read_points⟩
  have F_read_one_point := fun_mk (st := s_read_one_point) l_read_one_point c_read_one_point k_read_one_point
  have D_read_one_point : DefF K mg "read_one_point" s_read_one_point ["plus", "minus"] := ⟨f_read_one_point, _, F_read_one_point, F_read_one_point.binds (ps := ["plus", "minus"]) (fun _ _ _ _ _ _ us hl => match us, hl with | [_, _], _ => rfl), PySem.W.mg_of X G a_read_one_point⟩
  have F_read_corners := fun_mk (st := s_read_corners) l_read_corners c_read_corners k_read_corners
  have D_read_corners : DefF K mg "read_corners" s_read_corners ["plus", "minus"] := ⟨f_read_corners, _, F_read_corners, F_read_corners.binds (ps := ["plus", "minus"]) (fun _ _ _ _ _ _ us hl => match us, hl with | [_, _], _ => rfl), PySem.W.mg_of X G a_read_corners⟩
  have F_numbers_of := fun_mk (st := s_numbers_of) l_numbers_of c_numbers_of k_numbers_of
  have D_numbers_of : DefF K mg "numbers_of" s_numbers_of ["points"] := ⟨f_numbers_of, _, F_numbers_of, F_numbers_of.binds (ps := ["points"]) (fun _ _ _ _ _ _ us hl => match us, hl with | [_], _ => rfl), PySem.W.mg_of X G a_numbers_of⟩
  have F_told_with_count := fun_mk (st := s_told_with_count) l_told_with_count c_told_with_count k_told_with_count
  have D_told_with_count : DefF K mg "told_with_count" s_told_with_count ["points"] := ⟨f_told_with_count, _, F_told_with_count, F_told_with_count.binds (ps := ["points"]) (fun _ _ _ _ _ _ us hl => match us, hl with | [_], _ => rfl), PySem.W.mg_of X G a_told_with_count⟩
  have F_answer_begin := fun_mk (st := s_answer_begin) l_answer_begin c_answer_begin k_answer_begin
  have D_answer_begin : DefF K mg "answer_begin" s_answer_begin ["polygon", "reader"] := ⟨f_answer_begin, _, F_answer_begin, F_answer_begin.binds (ps := ["polygon", "reader"]) (fun _ _ _ _ _ _ us hl => match us, hl with | [_, _], _ => rfl), PySem.W.mg_of X G a_answer_begin⟩
  have F_answer_size := fun_mk (st := s_answer_size) l_answer_size c_answer_size k_answer_size
  have D_answer_size : DefF K mg "answer_size" s_answer_size ["corners"] := ⟨f_answer_size, _, F_answer_size, F_answer_size.binds (ps := ["corners"]) (fun _ _ _ _ _ _ us hl => match us, hl with | [_], _ => rfl), PySem.W.mg_of X G a_answer_size⟩
  have F_answer_count := fun_mk (st := s_answer_count) l_answer_count c_answer_count k_answer_count
  have D_answer_count : DefF K mg "answer_count" s_answer_count ["corners", "reader"] := ⟨f_answer_count, _, F_answer_count, F_answer_count.binds (ps := ["corners", "reader"]) (fun _ _ _ _ _ _ us hl => match us, hl with | [_, _], _ => rfl), PySem.W.mg_of X G a_answer_count⟩
  have F_answer_where := fun_mk (st := s_answer_where) l_answer_where c_answer_where k_answer_where
  have D_answer_where : DefF K mg "answer_where" s_answer_where ["corners", "reader"] := ⟨f_answer_where, _, F_answer_where, F_answer_where.binds (ps := ["corners", "reader"]) (fun _ _ _ _ _ _ us hl => match us, hl with | [_, _], _ => rfl), PySem.W.mg_of X G a_answer_where⟩
  have F_answer_width := fun_mk (st := s_answer_width) l_answer_width c_answer_width k_answer_width
  have D_answer_width : DefF K mg "answer_width" s_answer_width ["corners"] := ⟨f_answer_width, _, F_answer_width, F_answer_width.binds (ps := ["corners"]) (fun _ _ _ _ _ _ us hl => match us, hl with | [_], _ => rfl), PySem.W.mg_of X G a_answer_width⟩
  have F_answer_same := fun_mk (st := s_answer_same) l_answer_same c_answer_same k_answer_same
  have D_answer_same : DefF K mg "answer_same" s_answer_same ["corners", "reader"] := ⟨f_answer_same, _, F_answer_same, F_answer_same.binds (ps := ["corners", "reader"]) (fun _ _ _ _ _ _ us hl => match us, hl with | [_, _], _ => rfl), PySem.W.mg_of X G a_answer_same⟩
  have F_answer_twelve := fun_mk (st := s_answer_twelve) l_answer_twelve c_answer_twelve k_answer_twelve
  have D_answer_twelve : DefF K mg "answer_twelve" s_answer_twelve ["corners"] := ⟨f_answer_twelve, _, F_answer_twelve, F_answer_twelve.binds (ps := ["corners"]) (fun _ _ _ _ _ _ us hl => match us, hl with | [_], _ => rfl), PySem.W.mg_of X G a_answer_twelve⟩
  have F_answer_call := fun_mk (st := s_answer_call) l_answer_call c_answer_call k_answer_call
  have D_answer_call : DefF K mg "answer_call" s_answer_call ["polygon", "reader"] := ⟨f_answer_call, _, F_answer_call, F_answer_call.binds (ps := ["polygon", "reader"]) (fun _ _ _ _ _ _ us hl => match us, hl with | [_, _], _ => rfl), PySem.W.mg_of X G a_answer_call⟩
  have F_answer_or_refusal := fun_mk (st := s_answer_or_refusal) l_answer_or_refusal c_answer_or_refusal k_answer_or_refusal
  have D_answer_or_refusal : DefF K mg "answer_or_refusal" s_answer_or_refusal ["polygon", "reader"] := ⟨f_answer_or_refusal, _, F_answer_or_refusal, F_answer_or_refusal.binds (ps := ["polygon", "reader"]) (fun _ _ _ _ _ _ us hl => match us, hl with | [_, _], _ => rfl), PySem.W.mg_of X G a_answer_or_refusal⟩
  have F_answers := fun_mk (st := s_answers) l_answers c_answers k_answers
  have D_answers : DefF K mg "answers" s_answers ["calls"] := ⟨f_answers, _, F_answers, F_answers.binds (ps := ["calls"]) (fun _ _ _ _ _ _ us hl => match us, hl with | [_], _ => rfl), PySem.W.mg_of X G a_answers⟩
  have BB : Blt mg := ⟨PySem.W.mg_none_of X G z_len, PySem.W.mg_none_of X G z_list, PySem.W.mg_none_of X G z_zip, PySem.W.mg_none_of X G z_reversed, PySem.W.mg_none_of X G z_set, PySem.W.mg_none_of X G z_sorted, PySem.W.mg_none_of X G z_sum, PySem.W.mg_none_of X G z_min, PySem.W.mg_none_of X G z_max, PySem.W.mg_none_of X G z_abs, PySem.W.mg_none_of X G z_any, PySem.W.mg_none_of X G z_range, PySem.W.mg_none_of X G z_tuple⟩
  let X_NotPoints : ExF K mg "NotPoints" := ⟨C_NotPoints, PySem.W.mg_of X G g_NotPoints, x_NotPoints, k_NotPoints, b_NotPoints, t_NotPoints, i_NotPoints⟩
  let X_BeyondBounds : ExF K mg "BeyondBounds" := ⟨C_BeyondBounds, PySem.W.mg_of X G g_BeyondBounds, x_BeyondBounds, k_BeyondBounds, b_BeyondBounds, t_BeyondBounds, i_BeyondBounds⟩
  let X_InOneLine : ExF K mg "InOneLine" := ⟨C_InOneLine, PySem.W.mg_of X G g_InOneLine, x_InOneLine, k_InOneLine, b_InOneLine, t_InOneLine, i_InOneLine⟩
  let X_NotJustOneWithin : ExF K mg "NotJustOneWithin" := ⟨C_NotJustOneWithin, PySem.W.mg_of X G g_NotJustOneWithin, x_NotJustOneWithin, k_NotJustOneWithin, b_NotJustOneWithin, t_NotJustOneWithin, i_NotJustOneWithin⟩
  have I_BEGIN : IntG mg "BEGIN" (1) := ⟨_, PySem.W.mg_of X G v_BEGIN⟩
  have I_CORNERS : IntG mg "CORNERS" (2) := ⟨_, PySem.W.mg_of X G v_CORNERS⟩
  have I_SIZE : IntG mg "SIZE" (3) := ⟨_, PySem.W.mg_of X G v_SIZE⟩
  have I_COUNT : IntG mg "COUNT" (4) := ⟨_, PySem.W.mg_of X G v_COUNT⟩
  have I_WHERE : IntG mg "WHERE" (5) := ⟨_, PySem.W.mg_of X G v_WHERE⟩
  have I_INNER : IntG mg "INNER" (6) := ⟨_, PySem.W.mg_of X G v_INNER⟩
  have I_WIDTH : IntG mg "WIDTH" (7) := ⟨_, PySem.W.mg_of X G v_WIDTH⟩
  have I_FORM : IntG mg "FORM" (8) := ⟨_, PySem.W.mg_of X G v_FORM⟩
  have I_SAME : IntG mg "SAME" (9) := ⟨_, PySem.W.mg_of X G v_SAME⟩
  have I_DUAL : IntG mg "DUAL" (10) := ⟨_, PySem.W.mg_of X G v_DUAL⟩
  have I_TWELVE : IntG mg "TWELVE" (11) := ⟨_, PySem.W.mg_of X G v_TWELVE⟩
  have I_REFUSED_LISTS : IntG mg "REFUSED_LISTS" (-3) := ⟨_, PySem.W.mg_of X G v_REFUSED_LISTS⟩
  have I_REFUSED_BOUNDS : IntG mg "REFUSED_BOUNDS" (-1) := ⟨_, PySem.W.mg_of X G v_REFUSED_BOUNDS⟩
  have I_REFUSED_LINE : IntG mg "REFUSED_LINE" (-4) := ⟨_, PySem.W.mg_of X G v_REFUSED_LINE⟩
  have I_REFUSED_WITHIN : IntG mg "REFUSED_WITHIN" (-4) := ⟨_, PySem.W.mg_of X G v_REFUSED_WITHIN⟩
  have I_FEWEST_POINTS : IntG mg "FEWEST_POINTS" (3) := ⟨_, PySem.W.mg_of X G v_FEWEST_POINTS⟩
  have I_MOST_POINTS : IntG mg "MOST_POINTS" (12) := ⟨_, PySem.W.mg_of X G v_MOST_POINTS⟩
  have I_GREATEST_NUMBER : IntG mg "GREATEST_NUMBER" (20) := ⟨_, PySem.W.mg_of X G v_GREATEST_NUMBER⟩
  have I_GREATEST_TIMES : IntG mg "GREATEST_TIMES" (1000) := ⟨_, PySem.W.mg_of X G v_GREATEST_TIMES⟩
  have I_OUTSIDE : IntG mg "OUTSIDE" (0) := ⟨_, PySem.W.mg_of X G v_OUTSIDE⟩
  have I_AT_EDGE : IntG mg "AT_EDGE" (1) := ⟨_, PySem.W.mg_of X G v_AT_EDGE⟩
  have I_WITHIN : IntG mg "WITHIN" (2) := ⟨_, PySem.W.mg_of X G v_WITHIN⟩
  let XE : Errs K mg := ⟨X_NotPoints, X_BeyondBounds, X_InOneLine, X_NotJustOneWithin, s_nn, s_bn, s_bb, s_ln, s_lb, s_ll, s_wn, s_wb, s_wl, s_ww, I_REFUSED_LISTS, I_REFUSED_BOUNDS, I_REFUSED_LINE, I_REFUSED_WITHIN⟩
  let RR : Rdr K mg := { C := C_Reader, g := PySem.W.mg_of X G g_Reader, c := ⟨pg_Reader, hd_Reader, po_Reader, sa_Reader⟩, nN := n_Reader_numbers, nP := n_Reader_place, fI := f_Reader_init, dI := _, FI := fun_mk (st := s_Reader_init) l_Reader_init c_Reader_init k_Reader_init, bI := (fun_mk (st := s_Reader_init) l_Reader_init c_Reader_init k_Reader_init).binds (ps := ["self", "numbers"]) (fun _ _ _ _ _ _ us hl => match us, hl with | [_, _], _ => rfl), mkI := ⟨mk_Reader, a_Reader_init, i_Reader_init, kc_Reader⟩, mE := ⟨f_Reader_at_end, _, fun_mk (st := s_Reader_at_end) l_Reader_at_end c_Reader_at_end k_Reader_at_end, (fun_mk (st := s_Reader_at_end) l_Reader_at_end c_Reader_at_end k_Reader_at_end).binds (ps := ["self"]) (fun _ _ _ _ _ _ us hl => match us, hl with | [_], _ => rfl), ⟨a_Reader_at_end, i_Reader_at_end, k_Reader_at_end⟩⟩, mN := ⟨f_Reader_take_number, _, fun_mk (st := s_Reader_take_number) l_Reader_take_number c_Reader_take_number k_Reader_take_number, (fun_mk (st := s_Reader_take_number) l_Reader_take_number c_Reader_take_number k_Reader_take_number).binds (ps := ["self"]) (fun _ _ _ _ _ _ us hl => match us, hl with | [_], _ => rfl), ⟨a_Reader_take_number, i_Reader_take_number, k_Reader_take_number⟩⟩, mR := ⟨f_Reader_take_row, _, fun_mk (st := s_Reader_take_row) l_Reader_take_row c_Reader_take_row k_Reader_take_row, (fun_mk (st := s_Reader_take_row) l_Reader_take_row c_Reader_take_row k_Reader_take_row).binds (ps := ["self"]) (fun _ _ _ _ _ _ us hl => match us, hl with | [_], _ => rfl), ⟨a_Reader_take_row, i_Reader_take_row, k_Reader_take_row⟩⟩ }
  let LL : Ply K mg := { C := C_Polygon, g := PySem.W.mg_of X G g_Polygon, c := ⟨pg_Polygon, hd_Polygon, po_Polygon, sa_Polygon⟩, nC := n_Polygon_corners, fI := f_Polygon_init, dI := _, FI := fun_mk (st := s_Polygon_init) l_Polygon_init c_Polygon_init k_Polygon_init, bI := (fun_mk (st := s_Polygon_init) l_Polygon_init c_Polygon_init k_Polygon_init).binds (ps := ["self"]) (fun _ _ _ _ _ _ us hl => match us, hl with | [_], _ => rfl), mkI := ⟨mk_Polygon, a_Polygon_init, i_Polygon_init, kc_Polygon⟩ }
  let CC : FirstC K mg := ⟨F0, PySem.W.mg_of X G gF, [(T1, (0, 0)), (T2, (1, 0)), (T3, (0, 1))],
    fun H => .inr ⟨_, _, _, lF, rfl, rfl, (by show 3 ≤ sizeLine; decide), .cons rfl (.cons rfl (.cons rfl .nil))⟩,
    fun H k hk => by
      simp only [List.mem_cons, List.not_mem_nil, or_false] at hk
      rcases hk with rfl | rfl | rfl
      · exact .inr ⟨_, _, _, lT1, rfl, rfl, (by show 2 ≤ sizeLine; decide), .cons ⟨_, rfl⟩ (.cons ⟨_, rfl⟩ .nil)⟩
      · exact .inr ⟨_, _, _, lT2, rfl, rfl, (by show 2 ≤ sizeLine; decide), .cons ⟨_, rfl⟩ (.cons ⟨_, rfl⟩ .nil)⟩
      · exact .inr ⟨_, _, _, lT3, rfl, rfl, (by show 2 ≤ sizeLine; decide), .cons ⟨_, rfl⟩ (.cons ⟨_, rfl⟩ .nil)⟩,
    rfl⟩
  refine ⟨PySem.W.fnOf "answers" "answers" (defArgs s_answers) (defBody s_answers) (defScope s_answers) .none kV_answers dc_answers pm_answers an_answers cd_answers ct_answers, fun s us hu => match us, hu with | [_], _ => .of_eq rfl, fun base _ _ => ?_⟩
  have DA : D_aor K mg := ⟨f_answer_or_refusal, _, F_answer_or_refusal, F_answer_or_refusal.binds (ps := ["polygon", "reader"]) (fun _ _ _ _ _ _ us hl => match us, hl with | [_, _], _ => rfl), PySem.W.mg_of X G a_answer_or_refusal⟩
  let DN : D_ans K mg := ⟨f_answers, _, F_answers, F_answers.binds (ps := ["calls"]) (fun _ _ _ _ _ _ us hl => match us, hl with | [_], _ => rfl), PySem.W.mg_of X G a_answers⟩
  let FF : FormP K mg := ⟨D_one_form, D_rows_from_each, D_mirrored, D_row_from, D_seen_from, D_divisor_and_factors, D_cross⟩
  let UU : DualP K mg := ⟨D_dual_corners, D_count_within, D_count_all, D_twice_area, D_count_at_edge, D_edges_of, D_greatest_divisor, D_divisor_and_factors, D_cross, D_points_within, D_standing_of, D_turn, D_seen_from, D_dual_corner⟩
  let TT : Parts K mg := { R := RR, L := LL, X := XE, B := BB, CC := ⟨I_BEGIN, I_CORNERS, I_SIZE, I_COUNT, I_WHERE, I_INNER, I_WIDTH, I_FORM, I_SAME, I_DUAL, I_TWELVE⟩, CB := ⟨I_FEWEST_POINTS, I_MOST_POINTS, I_GREATEST_NUMBER⟩, CW := ⟨I_OUTSIDE, I_AT_EDGE, I_WITHIN⟩, CT := I_GREATEST_TIMES, way := D_left_turning_way, cor := D_corners_of, rpt := D_read_points, one := D_read_one_point, rco := D_read_corners, tol := D_told_with_count, nof := D_numbers_of, beg := D_answer_begin, siz := D_answer_size, cnt := D_answer_count, whr := D_answer_where, wid := D_answer_width, nar := D_narrowest_directions, acr := D_width_across, prs := D_pairs_reaching, ris := D_direction_rising, sam := D_answer_same, twl := D_answer_twelve, F := FF, U := UU }
  have GC : FnOk P w K mg base (L2.CX P w) 8 D_answer_call.f D_answer_call.fd ["polygon", "reader"] (spCall K RR.C LL.C XE.N.C XE.B.C XE.L.C XE.W.C) := ok_cal D_answer_call TT
  exact ok_ans DN DA RR LL CC BB (by decide) (ok_aor DA D_answer_call RR LL.C XE GC)
end Pg
open PySem PySem.W PyProof.Rows
set_option maxRecDepth 100000 in
set_option maxHeartbeats 0 in
theorem PySem.Challenge.cw_wholepolygons_s01_answers_holds : PySem.Challenge.rw_wholepolygons_s01_answers.Holds := by
  w_on; k_headS; (case hw => exact ⟨[.list [.int 2]], by decide +kernel, by decide +kernel⟩)
  k_fillS
  refine L2.walk_specK (r := PySem.Challenge.rw_wholepolygons_s01_answers) (k := 10) (CX := L2.CX0) (ps := ["calls"]) (sp := Pg.spMain) (by decide +kernel) rfl rfl ⟨rfl, by decide, by decide⟩ (fun w h Y => PySem.W.kIn_of Y) ?F ?S (fun _ _ _ _ z => z)
  case F =>
    intro w mg fa h Y KX G hmg
    refine' Pg.all_mk KX G hmg ?a_cross ?l_cross ?c_cross ?k_cross ?a_seen_from ?l_seen_from ?c_seen_from ?k_seen_from ?a_turn ?l_turn ?c_turn ?k_turn ?a_left_turning_way ?l_left_turning_way ?c_left_turning_way ?k_left_turning_way ?a_corners_of ?l_corners_of ?c_corners_of ?k_corners_of ?a_edges_of ?l_edges_of ?c_edges_of ?k_edges_of ?a_divisor_and_factors ?l_divisor_and_factors ?c_divisor_and_factors ?k_divisor_and_factors ?a_greatest_divisor ?l_greatest_divisor ?c_greatest_divisor ?k_greatest_divisor ?a_twice_area ?l_twice_area ?c_twice_area ?k_twice_area ?a_count_at_edge ?l_count_at_edge ?c_count_at_edge ?k_count_at_edge ?a_count_all ?l_count_all ?c_count_all ?k_count_all ?a_count_within ?l_count_within ?c_count_within ?k_count_within ?a_standing_of ?l_standing_of ?c_standing_of ?k_standing_of ?a_points_within ?l_points_within ?c_points_within ?k_points_within ?a_width_across ?l_width_across ?c_width_across ?k_width_across ?a_pairs_reaching ?l_pairs_reaching ?c_pairs_reaching ?k_pairs_reaching ?a_direction_rising ?l_direction_rising ?c_direction_rising ?k_direction_rising ?a_narrowest_directions ?l_narrowest_directions ?c_narrowest_directions ?k_narrowest_directions ?a_mirrored ?l_mirrored ?c_mirrored ?k_mirrored ?a_row_from ?l_row_from ?c_row_from ?k_row_from ?a_rows_from_each ?l_rows_from_each ?c_rows_from_each ?k_rows_from_each ?a_one_form ?l_one_form ?c_one_form ?k_one_form ?a_dual_corner ?l_dual_corner ?c_dual_corner ?k_dual_corner ?a_dual_corners ?l_dual_corners ?c_dual_corners ?k_dual_corners ?a_read_points ?l_read_points ?c_read_points ?k_read_points ?a_read_one_point ?l_read_one_point ?c_read_one_point ?k_read_one_point ?a_read_corners ?l_read_corners ?c_read_corners ?k_read_corners ?a_numbers_of ?l_numbers_of ?c_numbers_of ?k_numbers_of ?a_told_with_count ?l_told_with_count ?c_told_with_count ?k_told_with_count ?a_answer_begin ?l_answer_begin ?c_answer_begin ?k_answer_begin ?a_answer_size ?l_answer_size ?c_answer_size ?k_answer_size ?a_answer_count ?l_answer_count ?c_answer_count ?k_answer_count ?a_answer_where ?l_answer_where ?c_answer_where ?k_answer_where ?a_answer_width ?l_answer_width ?c_answer_width ?k_answer_width ?a_answer_same ?l_answer_same ?c_answer_same ?k_answer_same ?a_answer_twelve ?l_answer_twelve ?c_answer_twelve ?k_answer_twelve ?a_answer_call ?l_answer_call ?c_answer_call ?k_answer_call ?a_answer_or_refusal ?l_answer_or_refusal ?c_answer_or_refusal ?k_answer_or_refusal ?a_answers ?l_answers ?c_answers ?k_answers ?g_Polygon ?a_Polygon_init ?l_Polygon_init ?c_Polygon_init ?k_Polygon_init ?i_Polygon_init ?pg_Polygon ?hd_Polygon ?po_Polygon ?sa_Polygon ?mk_Polygon ?kc_Polygon ?g_Reader ?a_Reader_init ?l_Reader_init ?c_Reader_init ?k_Reader_init ?i_Reader_init ?a_Reader_at_end ?l_Reader_at_end ?c_Reader_at_end ?k_Reader_at_end ?i_Reader_at_end ?a_Reader_take_number ?l_Reader_take_number ?c_Reader_take_number ?k_Reader_take_number ?i_Reader_take_number ?a_Reader_take_row ?l_Reader_take_row ?c_Reader_take_row ?k_Reader_take_row ?i_Reader_take_row ?pg_Reader ?hd_Reader ?po_Reader ?sa_Reader ?mk_Reader ?kc_Reader ?n_Polygon_corners ?n_Reader_numbers ?n_Reader_place ?g_NotPoints ?x_NotPoints ?k_NotPoints ?b_NotPoints ?t_NotPoints ?i_NotPoints ?g_BeyondBounds ?x_BeyondBounds ?k_BeyondBounds ?b_BeyondBounds ?t_BeyondBounds ?i_BeyondBounds ?g_InOneLine ?x_InOneLine ?k_InOneLine ?b_InOneLine ?t_InOneLine ?i_InOneLine ?g_NotJustOneWithin ?x_NotJustOneWithin ?k_NotJustOneWithin ?b_NotJustOneWithin ?t_NotJustOneWithin ?i_NotJustOneWithin ?s_nn ?s_bn ?s_bb ?s_ln ?s_lb ?s_ll ?s_wn ?s_wb ?s_wl ?s_ww ?v_BEGIN ?v_CORNERS ?v_SIZE ?v_COUNT ?v_WHERE ?v_INNER ?v_WIDTH ?v_FORM ?v_SAME ?v_DUAL ?v_TWELVE ?v_REFUSED_LISTS ?v_REFUSED_BOUNDS ?v_REFUSED_LINE ?v_REFUSED_WITHIN ?v_FEWEST_POINTS ?v_MOST_POINTS ?v_GREATEST_NUMBER ?v_GREATEST_TIMES ?v_OUTSIDE ?v_AT_EDGE ?v_WITHIN ?z_len ?z_list ?z_zip ?z_reversed ?z_set ?z_sorted ?z_sum ?z_min ?z_max ?z_abs ?z_any ?z_range ?z_tuple ?gF ?lF ?lT1 ?lT2 ?lT3
    (case a_cross => k_is)
    (case l_cross => k_is)
    (case c_cross => k_is)
    (case k_cross => k_is)
    (case a_seen_from => k_is)
    (case l_seen_from => k_is)
    (case c_seen_from => k_is)
    (case k_seen_from => k_is)
    (case a_turn => k_is)
    (case l_turn => k_is)
    (case c_turn => k_is)
    (case k_turn => k_is)
    (case a_left_turning_way => k_is)
    (case l_left_turning_way => k_is)
    (case c_left_turning_way => k_is)
    (case k_left_turning_way => k_is)
    (case a_corners_of => k_is)
    (case l_corners_of => k_is)
    (case c_corners_of => k_is)
    (case k_corners_of => k_is)
    (case a_edges_of => k_is)
    (case l_edges_of => k_is)
    (case c_edges_of => k_is)
    (case k_edges_of => k_is)
    (case a_divisor_and_factors => k_is)
    (case l_divisor_and_factors => k_is)
    (case c_divisor_and_factors => k_is)
    (case k_divisor_and_factors => k_is)
    (case a_greatest_divisor => k_is)
    (case l_greatest_divisor => k_is)
    (case c_greatest_divisor => k_is)
    (case k_greatest_divisor => k_is)
    (case a_twice_area => k_is)
    (case l_twice_area => k_is)
    (case c_twice_area => k_is)
    (case k_twice_area => k_is)
    (case a_count_at_edge => k_is)
    (case l_count_at_edge => k_is)
    (case c_count_at_edge => k_is)
    (case k_count_at_edge => k_is)
    (case a_count_all => k_is)
    (case l_count_all => k_is)
    (case c_count_all => k_is)
    (case k_count_all => k_is)
    (case a_count_within => k_is)
    (case l_count_within => k_is)
    (case c_count_within => k_is)
    (case k_count_within => k_is)
    (case a_standing_of => k_is)
    (case l_standing_of => k_is)
    (case c_standing_of => k_is)
    (case k_standing_of => k_is)
    (case a_points_within => k_is)
    (case l_points_within => k_is)
    (case c_points_within => k_is)
    (case k_points_within => k_is)
    (case a_width_across => k_is)
    (case l_width_across => k_is)
    (case c_width_across => k_is)
    (case k_width_across => k_is)
    (case a_pairs_reaching => k_is)
    (case l_pairs_reaching => k_is)
    (case c_pairs_reaching => k_is)
    (case k_pairs_reaching => k_is)
    (case a_direction_rising => k_is)
    (case l_direction_rising => k_is)
    (case c_direction_rising => k_is)
    (case k_direction_rising => k_is)
    (case a_narrowest_directions => k_is)
    (case l_narrowest_directions => k_is)
    (case c_narrowest_directions => k_is)
    (case k_narrowest_directions => k_is)
    (case a_mirrored => k_is)
    (case l_mirrored => k_is)
    (case c_mirrored => k_is)
    (case k_mirrored => k_is)
    (case a_row_from => k_is)
    (case l_row_from => k_is)
    (case c_row_from => k_is)
    (case k_row_from => k_is)
    (case a_rows_from_each => k_is)
    (case l_rows_from_each => k_is)
    (case c_rows_from_each => k_is)
    (case k_rows_from_each => k_is)
    (case a_one_form => k_is)
    (case l_one_form => k_is)
    (case c_one_form => k_is)
    (case k_one_form => k_is)
    (case a_dual_corner => k_is)
    (case l_dual_corner => k_is)
    (case c_dual_corner => k_is)
    (case k_dual_corner => k_is)
    (case a_dual_corners => k_is)
    (case l_dual_corners => k_is)
    (case c_dual_corners => k_is)
    (case k_dual_corners => k_is)
    (case a_read_points => k_is)
    (case l_read_points => k_is)
    (case c_read_points => k_is)
    (case k_read_points => k_is)
    (case a_read_one_point => k_is)
    (case l_read_one_point => k_is)
    (case c_read_one_point => k_is)
    (case k_read_one_point => k_is)
    (case a_read_corners => k_is)
    (case l_read_corners => k_is)
    (case c_read_corners => k_is)
    (case k_read_corners => k_is)
    (case a_numbers_of => k_is)
    (case l_numbers_of => k_is)
    (case c_numbers_of => k_is)
    (case k_numbers_of => k_is)
    (case a_told_with_count => k_is)
    (case l_told_with_count => k_is)
    (case c_told_with_count => k_is)
    (case k_told_with_count => k_is)
    (case a_answer_begin => k_is)
    (case l_answer_begin => k_is)
    (case c_answer_begin => k_is)
    (case k_answer_begin => k_is)
    (case a_answer_size => k_is)
    (case l_answer_size => k_is)
    (case c_answer_size => k_is)
    (case k_answer_size => k_is)
    (case a_answer_count => k_is)
    (case l_answer_count => k_is)
    (case c_answer_count => k_is)
    (case k_answer_count => k_is)
    (case a_answer_where => k_is)
    (case l_answer_where => k_is)
    (case c_answer_where => k_is)
    (case k_answer_where => k_is)
    (case a_answer_width => k_is)
    (case l_answer_width => k_is)
    (case c_answer_width => k_is)
    (case k_answer_width => k_is)
    (case a_answer_same => k_is)
    (case l_answer_same => k_is)
    (case c_answer_same => k_is)
    (case k_answer_same => k_is)
    (case a_answer_twelve => k_is)
    (case l_answer_twelve => k_is)
    (case c_answer_twelve => k_is)
    (case k_answer_twelve => k_is)
    (case a_answer_call => k_is)
    (case l_answer_call => k_is)
    (case c_answer_call => k_is)
    (case k_answer_call => k_is)
    (case a_answer_or_refusal => k_is)
    (case l_answer_or_refusal => k_is)
    (case c_answer_or_refusal => k_is)
    (case k_answer_or_refusal => k_is)
    (case a_answers => k_is)
    (case l_answers => k_is)
    (case c_answers => k_is)
    (case k_answers => k_is)
    (case g_Polygon => k_is)
    (case a_Polygon_init => k_is)
    (case l_Polygon_init => k_is)
    (case c_Polygon_init => k_is)
    (case k_Polygon_init => k_is)
    (case i_Polygon_init => k_is)
    (case pg_Polygon => k_is)
    (case hd_Polygon => k_is)
    (case po_Polygon => k_is)
    (case sa_Polygon => k_is)
    (case mk_Polygon => k_is)
    (case kc_Polygon => k_is)
    (case g_Reader => k_is)
    (case a_Reader_init => k_is)
    (case l_Reader_init => k_is)
    (case c_Reader_init => k_is)
    (case k_Reader_init => k_is)
    (case i_Reader_init => k_is)
    (case a_Reader_at_end => k_is)
    (case l_Reader_at_end => k_is)
    (case c_Reader_at_end => k_is)
    (case k_Reader_at_end => k_is)
    (case i_Reader_at_end => k_is)
    (case a_Reader_take_number => k_is)
    (case l_Reader_take_number => k_is)
    (case c_Reader_take_number => k_is)
    (case k_Reader_take_number => k_is)
    (case i_Reader_take_number => k_is)
    (case a_Reader_take_row => k_is)
    (case l_Reader_take_row => k_is)
    (case c_Reader_take_row => k_is)
    (case k_Reader_take_row => k_is)
    (case i_Reader_take_row => k_is)
    (case pg_Reader => k_is)
    (case hd_Reader => k_is)
    (case po_Reader => k_is)
    (case sa_Reader => k_is)
    (case mk_Reader => k_is)
    (case kc_Reader => k_is)
    (case n_Polygon_corners => k_is)
    (case n_Reader_numbers => k_is)
    (case n_Reader_place => k_is)
    (case g_NotPoints => k_is)
    (case x_NotPoints => k_exc)
    (case k_NotPoints => k_is)
    (case b_NotPoints => k_is)
    (case t_NotPoints => k_is)
    (case i_NotPoints => k_is)
    (case g_BeyondBounds => k_is)
    (case x_BeyondBounds => k_exc)
    (case k_BeyondBounds => k_is)
    (case b_BeyondBounds => k_is)
    (case t_BeyondBounds => k_is)
    (case i_BeyondBounds => k_is)
    (case g_InOneLine => k_is)
    (case x_InOneLine => k_exc)
    (case k_InOneLine => k_is)
    (case b_InOneLine => k_is)
    (case t_InOneLine => k_is)
    (case i_InOneLine => k_is)
    (case g_NotJustOneWithin => k_is)
    (case x_NotJustOneWithin => k_exc)
    (case k_NotJustOneWithin => k_is)
    (case b_NotJustOneWithin => k_is)
    (case t_NotJustOneWithin => k_is)
    (case i_NotJustOneWithin => k_is)
    (case s_nn => first | rfl | k_is)
    (case s_bn => k_is)
    (case s_bb => first | rfl | k_is)
    (case s_ln => k_is)
    (case s_lb => k_is)
    (case s_ll => first | rfl | k_is)
    (case s_wn => k_is)
    (case s_wb => k_is)
    (case s_wl => k_is)
    (case s_ww => first | rfl | k_is)
    (case v_BEGIN => k_is)
    (case v_CORNERS => k_is)
    (case v_SIZE => k_is)
    (case v_COUNT => k_is)
    (case v_WHERE => k_is)
    (case v_INNER => k_is)
    (case v_WIDTH => k_is)
    (case v_FORM => k_is)
    (case v_SAME => k_is)
    (case v_DUAL => k_is)
    (case v_TWELVE => k_is)
    (case v_REFUSED_LISTS => k_is)
    (case v_REFUSED_BOUNDS => k_is)
    (case v_REFUSED_LINE => k_is)
    (case v_REFUSED_WITHIN => k_is)
    (case v_FEWEST_POINTS => k_is)
    (case v_MOST_POINTS => k_is)
    (case v_GREATEST_NUMBER => k_is)
    (case v_GREATEST_TIMES => k_is)
    (case v_OUTSIDE => k_is)
    (case v_AT_EDGE => k_is)
    (case v_WITHIN => k_is)
    (case z_len => k_is)
    (case z_list => k_is)
    (case z_zip => k_is)
    (case z_reversed => k_is)
    (case z_set => k_is)
    (case z_sorted => k_is)
    (case z_sum => k_is)
    (case z_min => k_is)
    (case z_max => k_is)
    (case z_abs => k_is)
    (case z_any => k_is)
    (case z_range => k_is)
    (case z_tuple => k_is)
    (case gF => k_is)
    (case lF => k_is)
    (case lT1 => k_is)
    (case lT2 => k_is)
    (case lT3 => k_is)
  case S =>
    intro K H xs a hO hwi hask hx
    cases hx with
    | cons h1 h2 =>
      cases h2
      cases h1 with
      | lst hs ha =>
        have e := L2.ints_dw a.1 _ ha
        subst e
        exact ⟨_, a.1, rfl, hs, hask, fun H' p hp => .lst (L2.SqL.of hp) (L2.dw_ints _)⟩
#print axioms PySem.Challenge.cw_wholepolygons_s01_answers_holds

