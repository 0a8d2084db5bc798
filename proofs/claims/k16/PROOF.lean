import PyProof.Rows.All
import Wide.All
import OpenK.AllK
import Wide.FinOn
import PySem.Challenge.RW_quiltward_k16_levels_show_the_fewest
import HandS.ForSpec
import HandS.ForMost
import HandS.RevRange
import HandS.Style
import HandS.More
import HandS.TupLe
import HandS.StrMore
import HandS.IsInst
import HandS.Wide
import KE.DataEq
import KE.KRevSl
import KE.Datum
import HandS.Comp
import HandS.AnyAll
import PyProof.GenQ
import PyProof.ToksMono
import HandS.SortRule
import HandS.Dict
import HandS.DictTup
import HandS.DictComp
import HandS.TupLen
import PyProof.DictMoreH
import PyProof.DictTruth
import HandS.EndTab
import PyProof.ReprRoads
import PyProof.ReprBulk
import HandS.EndOwn
set_option Elab.async false
set_option linter.all false
set_option maxRecDepth 100000
set_option maxHeartbeats 4000000
/-! rules of my own over the hand layer: == and != of plain data, xs[::-1] -/
namespace QR
open PySem PySem.Spec PyProof.Rows L2
section
variable {X : Cx}
def rEqP (K : PySem.W.Frag) : R2 := fun x y H Q => ∃ d e, Dp K H x d ∧ Dp K H y e ∧ d.plain = true ∧ e.plain = true ∧ d.depth ≤ 60 ∧ Q (.bl (PyData.eqv d e)) H
def rNeP (K : PySem.W.Frag) : R2 := fun x y H Q => ∃ d e, Dp K H x d ∧ Dp K H y e ∧ d.plain = true ∧ e.plain = true ∧ d.depth ≤ 60 ∧ Q (.bl (!PyData.eqv d e)) H
theorem op_eqP (hu : X.A.units + 64 < cLine) : OpR X (compareOp .Eq) (rEqP X.K) := fun pins s σ H x y v u Q I rx ry ⟨d, e, hd, he, pd, pe, dd, q⟩ => by
  obtain ⟨as, r1⟩ := Dp.reads I d x v hd rx
  obtain ⟨bs, r2⟩ := Dp.reads I e y u he ry
  exact PySem.SeqAt.eq_plain r1 r2 pd pe (by omega) ⟨.bl _, H, I, rfl, q⟩
theorem op_neP (hu : X.A.units + 64 < cLine) : OpR X (compareOp .NotEq) (rNeP X.K) := fun pins s σ H x y v u Q I rx ry ⟨d, e, hd, he, pd, pe, dd, q⟩ => by
  obtain ⟨as, r1⟩ := Dp.reads I d x v hd rx
  obtain ⟨bs, r2⟩ := Dp.reads I e y u he ry
  exact PySem.SeqAt.ne_plain r1 r2 pd pe (by omega) ⟨.bl _, H, I, rfl, q⟩
/-! ### xs[::-1] of a list: a new list -/
def tRev (K : PySem.W.Frag) (te ts : TE) : TE := fun σ H Q => te σ H fun x H1 => ts σ H1 fun z H2 => z = .int (-1) ∧ ∃ a xs, x = .ref a ∧ SqL K H2 a xs ∧ ∀ p, H2 p = none → Q (.ref p) (upd H2 p (.lst xs.reverse))
theorem vals_rev {xs : List V} {us : List Value} (r : Vals xs us) : Vals xs.reverse us.reverse := by
  induction r with
  | nil => exact .nil
  | cons p q ih =>
    rw [List.reverse_cons, List.reverse_cons]
    exact ih.append (.cons p .nil)
theorem pe_rev {e st : Expr} {te ts : TE} {p2 pos : Pos} (he : PE X e te) (hs : PE X st ts) : PE X (.Subscript e (.Slice none none (some st) p2) pos) (tRev X.K te ts) := by
  refine ⟨fun pins s σ H Q I h => ?_⟩
  refine Subscript_ (thn (he.run pins s σ H _ I h) fun v s1 ⟨x, H1, I1, r1, q1⟩ => ?_)
  refine wpAny_Slice ?_
  rw [evalPart_none]
  refine wpAny_pure (wpAny_pure ?_)
  rw [evalPart_some]
  refine thn (hs.run pins s1 σ H1 _ I1 q1) fun vu s3 ⟨z, H3, I3, rz, ez, q3⟩ => ?_
  subst ez
  obtain ⟨tz, rfl⟩ := rz
  obtain ⟨a, xs, ex, hx, q⟩ := q3
  subst ex
  cases r1
  have I4 : Inv X pins σ H3 { s3 with heap := s3.heap.push { cls := .type "slice", data := .fields #[.none, .none, .int (-1) tz] } } := I3.kept (t' := s3.toks) fun b ob q => Heap.get?_push_of_some _ q
  obtain ⟨its, r, ht, hz⟩ := I4.list hx
  have hlen := r.length
  show wpAny (model X.prog X.w) X.A (subscriptTail e (.Slice none none (some st) p2) (.ref a) (.ref s3.heap.objs.size)) (EP X pins σ Q) X.xe { s3 with heap := s3.heap.push { cls := .type "slice", data := .fields #[.none, .none, .int (-1) tz] } }
  refine tail_any (ops := [.ref a, .ref s3.heap.objs.size]) ht.isList.typeIs slot_list_getitem.lookup ?_ (by with_unfolding_all rfl)
  refine wpAny_getItem_list_slice ht.isList (Heap.IsSliceOf.new ..) .none .none (.int (-1) tz) (by simp) ?_ (by rw [List.size_toArray]; omega)
  rw [PySem.W.krv_pick]
  refine ⟨.ref _, _, I4.laid (t' := s3.toks) (o := .lst xs.reverse) (fun b ob q => Heap.get?_push_of_some _ q) (Nat.le_refl _) ?_, rfl, q _ (I4.hok.fresh (Nat.le_refl _))⟩
  exact ⟨by rw [List.length_reverse]; exact hz, _, 0, vals_rev r, Heap.get?_push_size _ rfl⟩
end
/-! ### == and != of values with a Lean type -/
section
variable {α : Type} [DecidableEq α] [PySem.W.Datum α] {K : PySem.W.Frag} {H : Hp} {x y : V} {a b : α} {Q : VK}
theorem eq_dat (hx : Dp K H x (PySem.W.Datum.toD a)) (hy : Dp K H y (PySem.W.Datum.toD b)) (hd : PySem.W.Datum.depth α ≤ 60) (q : Q (.bl (decide (a = b))) H) : rEqP K x y H Q :=
  ⟨_, _, hx, hy, PySem.W.Datum.plain a, PySem.W.Datum.plain b, Nat.le_trans (PySem.W.Datum.depth_le a) hd, by rw [PySem.W.Datum.eqv]; exact q⟩
theorem ne_dat (hx : Dp K H x (PySem.W.Datum.toD a)) (hy : Dp K H y (PySem.W.Datum.toD b)) (hd : PySem.W.Datum.depth α ≤ 60) (q : Q (.bl (!decide (a = b))) H) : rNeP K x y H Q :=
  ⟨_, _, hx, hy, PySem.W.Datum.plain a, PySem.W.Datum.plain b, Nat.le_trans (PySem.W.Datum.depth_le a) hd, by rw [PySem.W.Datum.eqv]; exact q⟩
end
end QR
/-! the mathematics of scripts: no program here -/
namespace K15
open PySem
/-- how many lines can be kept -/
def lcs : List (Option Str) → List Str → Nat
  | [], _ => 0
  | _ :: _, [] => 0
  | x :: xs, y :: ys => if x = some y then lcs xs ys + 1 else max (lcs xs (y :: ys)) (lcs (x :: xs) ys)
termination_by a b => a.length + b.length
theorem lcs_nil (ys : List Str) : lcs [] ys = 0 := by rw [lcs]
theorem lcs_nil' (xs : List (Option Str)) : lcs xs [] = 0 := by
  cases xs with
  | nil => rw [lcs]
  | cons x xs => rw [lcs]
theorem lcs_cons (x : Option Str) (xs : List (Option Str)) (y : Str) (ys : List Str) :
    lcs (x :: xs) (y :: ys) = if x = some y then lcs xs ys + 1 else max (lcs xs (y :: ys)) (lcs (x :: xs) ys) := by rw [lcs]
theorem lcs_all : ∀ (n : Nat) (xs : List (Option Str)) (ys : List Str), xs.length + ys.length ≤ n →
    (∀ x, lcs (x :: xs) ys ≤ lcs xs ys + 1 ∧ lcs xs ys ≤ lcs (x :: xs) ys) ∧ (∀ y, lcs xs (y :: ys) ≤ lcs xs ys + 1 ∧ lcs xs ys ≤ lcs xs (y :: ys)) := by
  intro n
  induction n with
  | zero =>
    intro xs ys h
    have e1 : xs = [] := List.eq_nil_of_length_eq_zero (by omega)
    have e2 : ys = [] := List.eq_nil_of_length_eq_zero (by omega)
    subst e1 e2
    refine ⟨fun x => ?_, fun y => ?_⟩
    · rw [lcs_nil', lcs_nil']
      omega
    · rw [lcs_nil, lcs_nil]
      omega
  | succ n ih =>
    intro xs ys h
    refine ⟨fun x => ?_, fun y => ?_⟩
    · cases ys with
      | nil =>
        rw [lcs_nil', lcs_nil']
        omega
      | cons y ys =>
        rw [List.length_cons] at h
        have i1 := ih xs ys (by omega)
        have a1 := i1.1 x
        have b1 := i1.2 y
        rw [lcs_cons]
        split <;> omega
    · cases xs with
      | nil =>
        rw [lcs_nil, lcs_nil]
        omega
      | cons x xs =>
        rw [List.length_cons] at h
        have i1 := ih xs ys (by omega)
        have a1 := i1.1 x
        have b1 := i1.2 y
        rw [lcs_cons]
        split <;> omega
theorem lcs_l (x : Option Str) (xs : List (Option Str)) (ys : List Str) : lcs (x :: xs) ys ≤ lcs xs ys + 1 := ((lcs_all _ xs ys (Nat.le_refl _)).1 x).1
theorem lcs_r (y : Str) (xs : List (Option Str)) (ys : List Str) : lcs xs (y :: ys) ≤ lcs xs ys + 1 := ((lcs_all _ xs ys (Nat.le_refl _)).2 y).1
theorem lcs_le : ∀ (xs : List (Option Str)) (ys : List Str), lcs xs ys ≤ xs.length
  | [], ys => by rw [lcs_nil]; exact Nat.zero_le _
  | x :: xs, ys => by
    have h1 := lcs_l x xs ys
    have h2 := lcs_le xs ys
    rw [List.length_cons]
    omega
/-- how many lines can be kept of those from i and from j on -/
def L (xs : List (Option Str)) (ys : List Str) (i j : Nat) : Nat := lcs (xs.drop i) (ys.drop j)
/-- the lines at i and at j are equal -/
def eqAt (xs : List (Option Str)) (ys : List Str) (i j : Nat) : Bool := match xs[i]?, ys[j]? with
  | some x, some y => decide (x = some y)
  | _, _ => false
variable {xs : List (Option Str)} {ys : List Str}
theorem eqAt_lt {i j : Nat} (h : eqAt xs ys i j = true) : i < xs.length ∧ j < ys.length := by
  unfold eqAt at h
  split at h
  · rename_i x y h1 h2
    exact ⟨(List.getElem?_eq_some_iff.mp h1).1, (List.getElem?_eq_some_iff.mp h2).1⟩
  · cases h
theorem eqAt_of {i j : Nat} {x : Option Str} {y : Str} (h1 : xs[i]? = some x) (h2 : ys[j]? = some y) : eqAt xs ys i j = decide (x = some y) := by
  unfold eqAt
  rw [h1, h2]
theorem L_end1 {i j : Nat} (h : xs.length ≤ i) : L xs ys i j = 0 := by
  unfold L
  rw [List.drop_eq_nil_of_le h, lcs_nil]
theorem L_end2 {i j : Nat} (h : ys.length ≤ j) : L xs ys i j = 0 := by
  unfold L
  rw [List.drop_eq_nil_of_le h, lcs_nil']
theorem L_step {i j : Nat} {x : Option Str} {y : Str} (h1 : xs[i]? = some x) (h2 : ys[j]? = some y) :
    L xs ys i j = if x = some y then L xs ys (i + 1) (j + 1) + 1 else max (L xs ys (i + 1) j) (L xs ys i (j + 1)) := by
  obtain ⟨l1, e1⟩ := List.getElem?_eq_some_iff.mp h1
  obtain ⟨l2, e2⟩ := List.getElem?_eq_some_iff.mp h2
  unfold L
  rw [List.drop_eq_getElem_cons l1, List.drop_eq_getElem_cons l2, e1, e2, lcs_cons]
theorem L_l {i j : Nat} (h : i < xs.length) : L xs ys i j ≤ L xs ys (i + 1) j + 1 := by
  unfold L
  rw [List.drop_eq_getElem_cons h]
  exact lcs_l _ _ _
theorem L_r {i j : Nat} (h : j < ys.length) : L xs ys i j ≤ L xs ys i (j + 1) + 1 := by
  unfold L
  rw [List.drop_eq_getElem_cons h]
  exact lcs_r _ _ _
theorem L_le {i j : Nat} : L xs ys i j ≤ xs.length := by
  have := lcs_le (xs.drop i) (ys.drop j)
  unfold L
  rw [List.length_drop] at this
  omega
/-- the law's own way: all three -/
theorem L_law {i j : Nat} {x : Option Str} {y : Str} (h1 : xs[i]? = some x) (h2 : ys[j]? = some y) :
    L xs ys i j = if x = some y then max (max (L xs ys (i + 1) j) (L xs ys i (j + 1))) (L xs ys (i + 1) (j + 1) + 1) else max (L xs ys (i + 1) j) (L xs ys i (j + 1)) := by
  rw [L_step h1 h2]
  have l1 := (List.getElem?_eq_some_iff.mp h1).1
  have l2 := (List.getElem?_eq_some_iff.mp h2).1
  split
  · have a := @L_r xs ys (i + 1) j l2
    have b := @L_l xs ys i (j + 1) l1
    omega
  · rfl
/-! ### steps -/
inductive Step where
  | keep (i j : Nat)
  | cut (i : Nat)
  | put (j : Nat)
deriving DecidableEq
def steps (xs : List (Option Str)) (ys : List Str) (i j : Nat) : List Step :=
  if h : eqAt xs ys i j = true then .keep i j :: steps xs ys (i + 1) (j + 1)
  else if h2 : i < xs.length ∧ L xs ys (i + 1) j = L xs ys i j then .cut i :: steps xs ys (i + 1) j
  else if h3 : j < ys.length then .put j :: steps xs ys i (j + 1)
  else []
termination_by (xs.length - i) + (ys.length - j)
decreasing_by
  · have := eqAt_lt h
    omega
  · omega
  · omega
theorem steps_keep {i j : Nat} (h : eqAt xs ys i j = true) : steps xs ys i j = .keep i j :: steps xs ys (i + 1) (j + 1) := by
  rw [steps, dif_pos h]
theorem steps_cut {i j : Nat} (h : ¬ eqAt xs ys i j = true) (h2 : i < xs.length) (h3 : L xs ys (i + 1) j = L xs ys i j) : steps xs ys i j = .cut i :: steps xs ys (i + 1) j := by
  rw [steps, dif_neg h, dif_pos ⟨h2, h3⟩]
theorem steps_put {i j : Nat} (h : ¬ eqAt xs ys i j = true) (h2 : ¬ (i < xs.length ∧ L xs ys (i + 1) j = L xs ys i j)) (h3 : j < ys.length) : steps xs ys i j = .put j :: steps xs ys i (j + 1) := by
  rw [steps, dif_neg h, dif_neg h2, dif_pos h3]
theorem steps_end {i j : Nat} (h1 : xs.length ≤ i) (h2 : ys.length ≤ j) : steps xs ys i j = [] := by
  have h : ¬ eqAt xs ys i j = true := fun z => by
    have := eqAt_lt z
    omega
  rw [steps, dif_neg h, dif_neg (fun z => by omega), dif_neg (by omega)]
/-- where lines are left and nothing is kept or cut, there is a line to put -/
theorem put_lt {i j : Nat} (h0 : i < xs.length ∨ j < ys.length) (h2 : ¬ (i < xs.length ∧ L xs ys (i + 1) j = L xs ys i j)) : j < ys.length := by
  rcases h0 with h | h
  · by_cases hj : j < ys.length
    · exact hj
    · refine absurd ⟨h, ?_⟩ h2
      rw [L_end2 (by omega), L_end2 (by omega)]
  · exact h
def isKeep : Step → Bool
  | .keep _ _ => true
  | _ => false
def keeps (ss : List Step) : Nat := (ss.filter isKeep).length
theorem steps_keeps : ∀ (n i j : Nat), (xs.length - i) + (ys.length - j) ≤ n → keeps (steps xs ys i j) = L xs ys i j := by
  intro n
  induction n with
  | zero =>
    intro i j h
    rw [steps_end (by omega) (by omega), L_end1 (by omega)]
    rfl
  | succ n ih =>
    intro i j h
    by_cases h1 : eqAt xs ys i j = true
    · obtain ⟨l1, l2⟩ := eqAt_lt h1
      rw [steps_keep h1]
      have e := ih (i + 1) (j + 1) (by omega)
      have e2 := L_step (List.getElem?_eq_getElem l1) (List.getElem?_eq_getElem l2)
      rw [eqAt_of (List.getElem?_eq_getElem l1) (List.getElem?_eq_getElem l2)] at h1
      rw [if_pos (of_decide_eq_true h1)] at e2
      rw [e2, ← e]
      rfl
    · by_cases h2 : i < xs.length ∧ L xs ys (i + 1) j = L xs ys i j
      · rw [steps_cut h1 h2.1 h2.2, ← h2.2, ← ih (i + 1) j (by omega)]
        rfl
      · by_cases h3 : j < ys.length
        · rw [steps_put h1 h2 h3]
          have e := ih i (j + 1) (by omega)
          have e3 : L xs ys i j = L xs ys i (j + 1) := by
            by_cases l1 : i < xs.length
            · have e2 := L_step (List.getElem?_eq_getElem l1) (List.getElem?_eq_getElem h3)
              rw [eqAt_of (List.getElem?_eq_getElem l1) (List.getElem?_eq_getElem h3)] at h1
              rw [if_neg (fun z => h1 (decide_eq_true z))] at e2
              have ne : ¬ L xs ys (i + 1) j = L xs ys i j := fun z => h2 ⟨l1, z⟩
              omega
            · rw [L_end1 (by omega), L_end1 (by omega)]
          rw [e3, ← e]
          rfl
        · have hi : ¬ i < xs.length := fun z => h3 (put_lt (.inl z) h2)
          rw [steps_end (by omega) (by omega), L_end1 (by omega)]
          rfl
/-- whether steps from i and j on lead to the ends -/
def right (xs : List (Option Str)) (ys : List Str) : List Step → Nat → Nat → Bool
  | [], i, j => decide (i = xs.length) && decide (j = ys.length)
  | .keep a b :: r, i, j => if a = i ∧ b = j ∧ eqAt xs ys i j = true then right xs ys r (i + 1) (j + 1) else false
  | .cut a :: r, i, j => if a = i ∧ i < xs.length then right xs ys r (i + 1) j else false
  | .put b :: r, i, j => if b = j ∧ j < ys.length then right xs ys r i (j + 1) else false
theorem steps_right : ∀ (n i j : Nat), (xs.length - i) + (ys.length - j) ≤ n → i ≤ xs.length → j ≤ ys.length → right xs ys (steps xs ys i j) i j = true := by
  intro n
  induction n with
  | zero =>
    intro i j h h1 h2
    rw [steps_end (by omega) (by omega)]
    have e1 : i = xs.length := by omega
    have e2 : j = ys.length := by omega
    simp [right, e1, e2]
  | succ n ih =>
    intro i j h z1 z2
    by_cases h1 : eqAt xs ys i j = true
    · obtain ⟨l1, l2⟩ := eqAt_lt h1
      rw [steps_keep h1]
      show (if i = i ∧ j = j ∧ eqAt xs ys i j = true then right xs ys (steps xs ys (i + 1) (j + 1)) (i + 1) (j + 1) else false) = true
      rw [if_pos ⟨rfl, rfl, h1⟩]
      exact ih _ _ (by omega) (by omega) (by omega)
    · by_cases h2 : i < xs.length ∧ L xs ys (i + 1) j = L xs ys i j
      · rw [steps_cut h1 h2.1 h2.2]
        show (if i = i ∧ i < xs.length then right xs ys (steps xs ys (i + 1) j) (i + 1) j else false) = true
        rw [if_pos ⟨rfl, h2.1⟩]
        exact ih _ _ (by omega) (by omega) (by omega)
      · by_cases h3 : j < ys.length
        · rw [steps_put h1 h2 h3]
          show (if j = j ∧ j < ys.length then right xs ys (steps xs ys i (j + 1)) i (j + 1) else false) = true
          rw [if_pos ⟨rfl, h3⟩]
          exact ih _ _ (by omega) (by omega) (by omega)
        · have hi : ¬ i < xs.length := fun z => h3 (put_lt (.inl z) h2)
          rw [steps_end (by omega) (by omega)]
          have e1 : i = xs.length := by omega
          have e2 : j = ys.length := by omega
          simp [right, e1, e2]
theorem steps_len : ∀ (n i j : Nat), (xs.length - i) + (ys.length - j) ≤ n → (steps xs ys i j).length ≤ n := by
  intro n
  induction n with
  | zero =>
    intro i j h
    rw [steps_end (by omega) (by omega)]
    exact Nat.le_refl 0
  | succ n ih =>
    intro i j h
    by_cases h1 : eqAt xs ys i j = true
    · obtain ⟨l1, l2⟩ := eqAt_lt h1
      rw [steps_keep h1, List.length_cons]
      have := ih (i + 1) (j + 1) (by omega)
      omega
    · by_cases h2 : i < xs.length ∧ L xs ys (i + 1) j = L xs ys i j
      · rw [steps_cut h1 h2.1 h2.2, List.length_cons]
        have := ih (i + 1) j (by omega)
        omega
      · by_cases h3 : j < ys.length
        · rw [steps_put h1 h2 h3, List.length_cons]
          have := ih i (j + 1) (by omega)
          omega
        · have hi : ¬ i < xs.length := fun z => h3 (put_lt (.inl z) h2)
          rw [steps_end (by omega) (by omega)]
          exact Nat.zero_le _
theorem right_cons (s : Step) (r : List Step) (i j : Nat) : right xs ys (s :: r) i j =
    if s = .keep i j ∧ i < xs.length ∧ j < ys.length ∧ eqAt xs ys i j = true then right xs ys r (i + 1) (j + 1)
    else if s = .cut i ∧ i < xs.length then right xs ys r (i + 1) j
    else if s = .put j ∧ j < ys.length then right xs ys r i (j + 1) else false := by
  cases s with
  | keep a b =>
    show (if a = i ∧ b = j ∧ eqAt xs ys i j = true then _ else false) = _
    by_cases h : a = i ∧ b = j ∧ eqAt xs ys i j = true
    · obtain ⟨rfl, rfl, h⟩ := h
      rw [if_pos ⟨rfl, rfl, h⟩, if_pos ⟨rfl, (eqAt_lt h).1, (eqAt_lt h).2, h⟩]
    · rw [if_neg h, if_neg, if_neg (fun z => (nomatch z.1)), if_neg (fun z => (nomatch z.1))]
      rintro ⟨e, _, _, h2⟩
      cases e
      exact h ⟨rfl, rfl, h2⟩
  | cut a =>
    show (if a = i ∧ i < xs.length then _ else false) = _
    have n1 : ¬ (Step.cut a = .keep i j ∧ i < xs.length ∧ j < ys.length ∧ eqAt xs ys i j = true) := fun z => (nomatch z.1)
    have n2 : ¬ (Step.cut a = .put j ∧ j < ys.length) := fun z => (nomatch z.1)
    rw [if_neg n1, if_neg n2]
    by_cases h : a = i ∧ i < xs.length
    · rw [if_pos h, if_pos ⟨by rw [h.1], h.2⟩]
    · rw [if_neg h, if_neg]
      rintro ⟨e, h2⟩
      cases e
      exact h ⟨rfl, h2⟩
  | put b =>
    show (if b = j ∧ j < ys.length then _ else false) = _
    have n1 : ¬ (Step.put b = .keep i j ∧ i < xs.length ∧ j < ys.length ∧ eqAt xs ys i j = true) := fun z => (nomatch z.1)
    have n2 : ¬ (Step.put b = .cut i ∧ i < xs.length) := fun z => (nomatch z.1)
    rw [if_neg n1, if_neg n2]
    by_cases h : b = j ∧ j < ys.length
    · rw [if_pos h, if_pos ⟨by rw [h.1], h.2⟩]
    · rw [if_neg h, if_neg]
      rintro ⟨e, h2⟩
      cases e
      exact h ⟨rfl, h2⟩
/-! ### the law's own way to judge steps -/
def isKC : Step → Bool
  | .put _ => false
  | _ => true
def isKP : Step → Bool
  | .cut _ => false
  | _ => true
def n1 : Step → Nat
  | .keep i _ => i
  | .cut i => i
  | .put j => j
def nl : Step → Nat
  | .keep _ j => j
  | .cut i => i
  | .put j => j
theorem right_law (s : Step) (r : List Step) (i j : Nat) : right xs ys (s :: r) i j =
    if isKC s = true ∧ (n1 s ≠ i ∨ xs.length ≤ i) then false
    else if isKP s = true ∧ (nl s ≠ j ∨ ys.length ≤ j) then false
    else if isKeep s = true ∧ ¬ eqAt xs ys i j = true then false
    else right xs ys r (i + if isKC s = true then 1 else 0) (j + if isKP s = true then 1 else 0) := by
  cases s with
  | keep a b =>
    show (if a = i ∧ b = j ∧ eqAt xs ys i j = true then right xs ys r (i + 1) (j + 1) else false) = if true = true ∧ (a ≠ i ∨ xs.length ≤ i) then false else if true = true ∧ (b ≠ j ∨ ys.length ≤ j) then false else if true = true ∧ ¬ eqAt xs ys i j = true then false else right xs ys r (i + 1) (j + 1)
    by_cases h : a = i ∧ b = j ∧ eqAt xs ys i j = true
    · obtain ⟨rfl, rfl, h⟩ := h
      obtain ⟨l1, l2⟩ := eqAt_lt h
      rw [if_pos ⟨rfl, rfl, h⟩, if_neg (by rintro ⟨_, z | z⟩; exact z rfl; omega), if_neg (by rintro ⟨_, z | z⟩; exact z rfl; omega), if_neg (fun z => z.2 h)]
    · rw [if_neg h]
      split
      · rfl
      · rename_i h1
        split
        · rfl
        · rename_i h2
          split
          · rfl
          · rename_i h3
            refine absurd ⟨?_, ?_, ?_⟩ h
            · exact Decidable.byContradiction fun z => h1 ⟨rfl, .inl z⟩
            · exact Decidable.byContradiction fun z => h2 ⟨rfl, .inl z⟩
            · exact Decidable.byContradiction fun z => h3 ⟨rfl, z⟩
  | cut a =>
    show (if a = i ∧ i < xs.length then right xs ys r (i + 1) j else false) = if true = true ∧ (a ≠ i ∨ xs.length ≤ i) then false else if false = true ∧ (a ≠ j ∨ ys.length ≤ j) then false else if false = true ∧ ¬ eqAt xs ys i j = true then false else right xs ys r (i + 1) (j + 0)
    rw [if_neg (c := false = true ∧ (a ≠ j ∨ ys.length ≤ j)) (fun z => nomatch z.1), if_neg (c := false = true ∧ ¬ eqAt xs ys i j = true) (fun z => nomatch z.1)]
    by_cases h : a = i ∧ i < xs.length
    · rw [if_pos h, if_neg (by rintro ⟨_, z | z⟩; exact z h.1; omega)]
      rfl
    · rw [if_neg h, if_pos]
      refine ⟨rfl, ?_⟩
      omega
  | put a =>
    show (if a = j ∧ j < ys.length then right xs ys r i (j + 1) else false) = if false = true ∧ (a ≠ i ∨ xs.length ≤ i) then false else if true = true ∧ (a ≠ j ∨ ys.length ≤ j) then false else if false = true ∧ ¬ eqAt xs ys i j = true then false else right xs ys r (i + 0) (j + 1)
    rw [if_neg (c := false = true ∧ (a ≠ i ∨ xs.length ≤ i)) (fun z => nomatch z.1), if_neg (c := false = true ∧ ¬ eqAt xs ys i j = true) (fun z => nomatch z.1)]
    by_cases h : a = j ∧ j < ys.length
    · rw [if_pos h, if_neg (by rintro ⟨_, z | z⟩; exact z h.1; omega)]
      rfl
    · rw [if_neg h, if_pos]
      refine ⟨rfl, ?_⟩
      omega
/-! ### rows of a table -/
theorem range_set {α : Type} (n j : Nat) (f : Nat → α) (v : α) : ((List.range n).map f).set j v = (List.range n).map fun q => if q = j then v else f q := by
  apply List.ext_getElem
  · simp
  · intro i h1 h2
    simp only [List.getElem_set, List.getElem_map, List.getElem_range]
    by_cases e : j = i
    · subst e
      simp
    · rw [if_neg e, if_neg (fun z => e z.symm)]
theorem range_get {α : Type} {n j : Nat} (f : Nat → α) (h : j < n) : ((List.range n).map f)[j]? = some (f j) := by
  simp [List.getElem?_map, List.getElem?_range, h]
end K15
/-! the mathematics of levels: no program here -/
namespace K15
open PySem
/-! ### common parts -/
theorem lcs_up1 (x : Option Str) (xs : List (Option Str)) (ys : List Str) : lcs xs ys ≤ lcs (x :: xs) ys := ((lcs_all _ xs ys (Nat.le_refl _)).1 x).2
theorem lcs_up2 (y : Str) (xs : List (Option Str)) (ys : List Str) : lcs xs ys ≤ lcs xs (y :: ys) := ((lcs_all _ xs ys (Nat.le_refl _)).2 y).2
theorem lcs_ge : ∀ (n : Nat) (xs : List (Option Str)) (ys zs : List Str), xs.length + ys.length ≤ n → (zs.map some).Sublist xs → zs.Sublist ys → zs.length ≤ lcs xs ys := by
  intro n
  induction n with
  | zero =>
    intro xs ys zs h h1 h2
    have e2 : ys = [] := List.eq_nil_of_length_eq_zero (by omega)
    subst e2
    have := List.sublist_nil.mp h2
    subst this
    exact Nat.zero_le _
  | succ n ih =>
    intro xs ys zs h h1 h2
    cases xs with
    | nil =>
      have := List.sublist_nil.mp h1
      have e : zs = [] := by simpa using this
      subst e
      exact Nat.zero_le _
    | cons x xs =>
      cases ys with
      | nil =>
        have := List.sublist_nil.mp h2
        subst this
        exact Nat.zero_le _
      | cons y ys =>
        simp only [List.length_cons] at h
        rcases List.sublist_cons_iff.mp h1 with a | ⟨r, a, b⟩
        · exact Nat.le_trans (ih xs (y :: ys) zs (by simp only [List.length_cons]; omega) a h2) (lcs_up1 x xs (y :: ys))
        · rcases List.sublist_cons_iff.mp h2 with a' | ⟨r', a', b'⟩
          · exact Nat.le_trans (ih (x :: xs) ys zs (by simp only [List.length_cons]; omega) h1 a') (lcs_up2 y (x :: xs) ys)
          · subst a'
            rw [List.map_cons] at a
            injection a with a1 a2
            subst a2
            rw [lcs_cons, if_pos a1.symm, List.length_cons]
            exact Nat.succ_le_succ (ih xs ys r' (by omega) b b')
theorem lcs_ex : ∀ (n : Nat) (xs : List (Option Str)) (ys : List Str), xs.length + ys.length ≤ n → ∃ zs : List Str, (zs.map some).Sublist xs ∧ zs.Sublist ys ∧ zs.length = lcs xs ys := by
  intro n
  induction n with
  | zero =>
    intro xs ys h
    have e2 : ys = [] := List.eq_nil_of_length_eq_zero (by omega)
    subst e2
    exact ⟨[], List.nil_sublist _, List.nil_sublist _, by rw [lcs_nil']; rfl⟩
  | succ n ih =>
    intro xs ys h
    cases xs with
    | nil => exact ⟨[], List.nil_sublist _, List.nil_sublist _, by rw [lcs_nil]; rfl⟩
    | cons x xs =>
      cases ys with
      | nil => exact ⟨[], List.nil_sublist _, List.nil_sublist _, by rw [lcs_nil']; rfl⟩
      | cons y ys =>
        simp only [List.length_cons] at h
        by_cases e : x = some y
        · obtain ⟨zs, a, b, c⟩ := ih xs ys (by omega)
          refine ⟨y :: zs, ?_, b.cons₂ y, ?_⟩
          · rw [List.map_cons, e]
            exact a.cons₂ (some y)
          · rw [lcs_cons, if_pos e, List.length_cons, c]
        · rw [lcs_cons, if_neg e]
          by_cases hm : lcs xs (y :: ys) ≤ lcs (x :: xs) ys
          · obtain ⟨zs, a, b, c⟩ := ih (x :: xs) ys (by simp only [List.length_cons]; omega)
            exact ⟨zs, a, b.cons y, by rw [c]; omega⟩
          · obtain ⟨zs, a, b, c⟩ := ih xs (y :: ys) (by simp only [List.length_cons]; omega)
            exact ⟨zs, a.cons x, b, by rw [c]; omega⟩
theorem lcs_mono {xs xs' : List (Option Str)} {ys ys' : List Str} (h1 : xs.Sublist xs') (h2 : ys.Sublist ys') : lcs xs ys ≤ lcs xs' ys' := by
  obtain ⟨zs, a, b, c⟩ := lcs_ex _ xs ys (Nat.le_refl _)
  rw [← c]
  exact lcs_ge _ xs' ys' zs (Nat.le_refl _) (a.trans h1) (b.trans h2)
theorem lcs_rev_le (xs : List (Option Str)) (ys : List Str) : lcs xs.reverse ys.reverse ≤ lcs xs ys := by
  obtain ⟨zs, a, b, c⟩ := lcs_ex _ xs.reverse ys.reverse (Nat.le_refl _)
  have h := lcs_ge _ xs ys zs.reverse (Nat.le_refl _) (by rw [List.map_reverse]; simpa using a.reverse) (by simpa using b.reverse)
  rw [List.length_reverse, c] at h
  exact h
theorem lcs_rev (xs : List (Option Str)) (ys : List Str) : lcs xs.reverse ys.reverse = lcs xs ys := by
  have h1 := lcs_rev_le xs ys
  have h2 := lcs_rev_le xs.reverse ys.reverse
  rw [List.reverse_reverse, List.reverse_reverse] at h2
  omega
/-! ### in front of two places -/
/-- how many lines can be kept of those in front of i and of j -/
def pre (xs : List (Option Str)) (ys : List Str) (i j : Nat) : Nat := lcs (xs.take i) (ys.take j)
variable {xs : List (Option Str)} {ys : List Str}
theorem L_rev {i j : Nat} (hi : i ≤ xs.length) (hj : j ≤ ys.length) : L xs.reverse ys.reverse (xs.length - i) (ys.length - j) = pre xs ys i j := by
  have d : ∀ {α : Type} (l : List α) (k : Nat), k ≤ l.length → l.reverse.drop (l.length - k) = (l.take k).reverse := fun l k hk => by
    rw [List.drop_reverse]
    congr 2
    omega
  unfold L pre
  rw [d xs i hi, d ys j hj, lcs_rev]
theorem pre_zero1 (j : Nat) : pre xs ys 0 j = 0 := by
  unfold pre
  rw [List.take_zero, lcs_nil]
theorem pre_zero2 (i : Nat) : pre xs ys i 0 = 0 := by
  unfold pre
  rw [List.take_zero, lcs_nil']
theorem pre_end : pre xs ys xs.length ys.length = lcs xs ys := by
  unfold pre
  rw [List.take_length, List.take_length]
theorem pre_mono {i j i' j' : Nat} (hi : i ≤ i') (hj : j ≤ j') : pre xs ys i j ≤ pre xs ys i' j' :=
  lcs_mono (List.take_sublist_take_left hi) (List.take_sublist_take_left hj)
theorem rev_get {α : Type} {l : List α} {i : Nat} (h : i < l.length) : l.reverse[l.length - (i + 1)]? = l[i]? := by
  rw [List.getElem?_reverse (by omega)]
  congr 1
  omega
theorem pre_step {i j : Nat} {x : Option Str} {y : Str} (h1 : xs[i]? = some x) (h2 : ys[j]? = some y) :
    pre xs ys (i + 1) (j + 1) = if x = some y then pre xs ys i j + 1 else max (pre xs ys i (j + 1)) (pre xs ys (i + 1) j) := by
  have l1 := (List.getElem?_eq_some_iff.mp h1).1
  have l2 := (List.getElem?_eq_some_iff.mp h2).1
  have s := @L_step xs.reverse ys.reverse (xs.length - (i + 1)) (ys.length - (j + 1)) x y (by rw [rev_get l1, h1]) (by rw [rev_get l2, h2])
  rw [L_rev (by omega) (by omega), show xs.length - (i + 1) + 1 = xs.length - i by omega, show ys.length - (j + 1) + 1 = ys.length - j by omega, L_rev (by omega) (by omega), L_rev (by omega) (by omega), L_rev (by omega) (by omega)] at s
  exact s
/-- the law's own way -/
theorem pre_law {i j : Nat} {x : Option Str} {y : Str} (h1 : xs[i]? = some x) (h2 : ys[j]? = some y) :
    pre xs ys (i + 1) (j + 1) = if x = some y then max (max (pre xs ys i (j + 1)) (pre xs ys (i + 1) j)) (pre xs ys i j + 1) else max (pre xs ys i (j + 1)) (pre xs ys (i + 1) j) := by
  have l1 := (List.getElem?_eq_some_iff.mp h1).1
  have l2 := (List.getElem?_eq_some_iff.mp h2).1
  have s := @L_law xs.reverse ys.reverse (xs.length - (i + 1)) (ys.length - (j + 1)) x y (by rw [rev_get l1, h1]) (by rw [rev_get l2, h2])
  rw [L_rev (by omega) (by omega), show xs.length - (i + 1) + 1 = xs.length - i by omega, show ys.length - (j + 1) + 1 = ys.length - j by omega, L_rev (by omega) (by omega), L_rev (by omega) (by omega), L_rev (by omega) (by omega)] at s
  exact s
theorem eqAt_get {i j : Nat} (h : eqAt xs ys i j = true) : ∃ y, xs[i]? = some (some y) ∧ ys[j]? = some y := by
  unfold eqAt at h
  split at h
  · rename_i x y h1 h2
    have := of_decide_eq_true h
    subst this
    exact ⟨y, h1, h2⟩
  · cases h
theorem pre_eq {i j : Nat} (h : eqAt xs ys i j = true) : pre xs ys (i + 1) (j + 1) = pre xs ys i j + 1 := by
  obtain ⟨y, h1, h2⟩ := eqAt_get h
  rw [pre_step h1 h2, if_pos rfl]
theorem pre_lt {i j : Nat} (h : eqAt xs ys i j = true) : pre xs ys i j < lcs xs ys := by
  obtain ⟨l1, l2⟩ := eqAt_lt h
  have a := pre_eq h
  have b := @pre_mono xs ys (i + 1) (j + 1) xs.length ys.length l1 l2
  rw [pre_end] at b
  omega
/-! ### pairs, levels -/
abbrev Pr := Nat × Nat
/-- the pairs of equal lines, in order -/
def eqP (xs : List (Option Str)) (ys : List Str) : List Pr := (List.range xs.length).flatMap fun i => ((List.range ys.length).filter fun j => eqAt xs ys i j).map fun j => (i, j)
theorem mem_eqP {p : Pr} : p ∈ eqP xs ys ↔ eqAt xs ys p.1 p.2 = true := by
  obtain ⟨i, j⟩ := p
  unfold eqP
  rw [List.mem_flatMap]
  constructor
  · rintro ⟨a, ha, h⟩
    obtain ⟨b, hb, e⟩ := List.mem_map.mp h
    cases e
    exact (List.mem_filter.mp hb).2
  · intro h
    obtain ⟨l1, l2⟩ := eqAt_lt h
    exact ⟨i, List.mem_range.mpr l1, List.mem_map.mpr ⟨j, List.mem_filter.mpr ⟨List.mem_range.mpr l2, h⟩, rfl⟩⟩
theorem nodup_flat {α β : Type} {l : List α} {f : α → List β} (hl : l.Nodup) (hf : ∀ a ∈ l, (f a).Nodup) (hd : ∀ a ∈ l, ∀ b ∈ l, a ≠ b → ∀ x ∈ f a, x ∉ f b) : (l.flatMap f).Nodup := by
  induction l with
  | nil => exact List.nodup_nil
  | cons a l ih =>
    rw [List.flatMap_cons]
    obtain ⟨n1, n2⟩ := List.nodup_cons.mp hl
    refine List.nodup_append.mpr ⟨hf a List.mem_cons_self, ih n2 (fun b hb => hf b (List.mem_cons_of_mem _ hb)) (fun b hb c hc => hd b (List.mem_cons_of_mem _ hb) c (List.mem_cons_of_mem _ hc)), fun x hx y hy e => ?_⟩
    subst e
    obtain ⟨b, hb, hxb⟩ := List.mem_flatMap.mp hy
    exact hd a List.mem_cons_self b (List.mem_cons_of_mem _ hb) (fun e => n1 (e ▸ hb)) x hx hxb
theorem nodup_map_inj {α β : Type} {l : List α} {f : α → β} (hl : l.Nodup) (hf : ∀ a ∈ l, ∀ b ∈ l, f a = f b → a = b) : (l.map f).Nodup := by
  induction l with
  | nil => exact List.nodup_nil
  | cons a l ih =>
    rw [List.map_cons]
    obtain ⟨n1, n2⟩ := List.nodup_cons.mp hl
    refine List.nodup_cons.mpr ⟨fun h => ?_, ih n2 fun b hb c hc => hf b (List.mem_cons_of_mem _ hb) c (List.mem_cons_of_mem _ hc)⟩
    obtain ⟨b, hb, e⟩ := List.mem_map.mp h
    exact n1 ((hf a List.mem_cons_self b (List.mem_cons_of_mem _ hb) e.symm) ▸ hb)
theorem nodup_eqP : (eqP xs ys).Nodup := by
  refine nodup_flat List.nodup_range (fun i _ => nodup_map_inj (List.nodup_range.filter _) fun a _ b _ e => by cases e; rfl) fun a _ b _ ne x hx hy => ?_
  obtain ⟨j, _, e⟩ := List.mem_map.mp hx
  obtain ⟨j', _, e'⟩ := List.mem_map.mp hy
  rw [← e] at e'
  cases e'
  exact ne rfl
/-- members of a list without doubles, all of them in another one -/
theorem len_le {α : Type} [DecidableEq α] : ∀ {l l' : List α}, l.Nodup → (∀ x ∈ l, x ∈ l') → l.length ≤ l'.length
  | [], _, _, _ => Nat.zero_le _
  | a :: l, l', h, hs => by
    obtain ⟨n1, n2⟩ := List.nodup_cons.mp h
    have ha := hs a List.mem_cons_self
    have h1 := len_le (l := l) (l' := l'.erase a) n2 fun x hx => (List.mem_erase_of_ne (fun e => n1 (by rw [← e]; exact hx))).mpr (hs x (List.mem_cons_of_mem _ hx))
    rw [List.length_erase_of_mem ha] at h1
    have : 0 < l'.length := List.length_pos_of_mem ha
    rw [List.length_cons]
    omega
theorem all_of_len {α : Type} [DecidableEq α] {l l' : List α} (h : l.Nodup) (hs : ∀ x ∈ l, x ∈ l') (hl : l'.length ≤ l.length) : ∀ x ∈ l', x ∈ l := fun x hx => by
  rcases Decidable.em (x ∈ l) with z | z
  · exact z
  · have := len_le (l := x :: l) (l' := l') (List.nodup_cons.mpr ⟨z, h⟩) fun y hy => by
      rcases List.mem_cons.mp hy with e | e
      · exact e ▸ hx
      · exact hs y e
    rw [List.length_cons] at this
    omega
/-- no two pairs of a row are such that one has both the lesser i and the lesser j -/
def anti (row : List Pr) : Bool := row.all fun p => row.all fun q => !(decide (p.1 < q.1) && decide (p.2 < q.2))
theorem anti_iff {row : List Pr} : anti row = true ↔ ∀ p ∈ row, ∀ q ∈ row, ¬ (p.1 < q.1 ∧ p.2 < q.2) := by
  unfold anti
  simp only [List.all_eq_true, Bool.not_eq_true', Bool.and_eq_false_iff, decide_eq_false_iff_not, not_and]
  constructor
  · intro h p hp q hq h1 h2
    rcases h p hp q hq with z | z
    · exact z h1
    · exact z h2
  · intro h p hp q hq
    rcases Decidable.em (p.1 < q.1) with z | z
    · exact .inr (h p hp q hq z)
    · exact .inl z
/-- right levels -/
structure RightL (xs : List (Option Str)) (ys : List Str) (rows : List (List Pr)) : Prop where
  nd : rows.flatten.Nodup
  eq : ∀ p ∈ rows.flatten, eqAt xs ys p.1 p.2 = true
  len : rows.flatten.length = (eqP xs ys).length
  anti : ∀ row ∈ rows, anti row = true
/-- the levels -/
def rowsL (xs : List (Option Str)) (ys : List Str) : List (List Pr) := (List.range (lcs xs ys)).map fun k => (eqP xs ys).filter fun p => decide (pre xs ys p.1 p.2 = k)
theorem rowsL_right : RightL xs ys (rowsL xs ys) := by
  have fl : (rowsL xs ys).flatten = (List.range (lcs xs ys)).flatMap fun k => (eqP xs ys).filter fun p => decide (pre xs ys p.1 p.2 = k) := rfl
  have mem : ∀ p, p ∈ (rowsL xs ys).flatten ↔ p ∈ eqP xs ys := fun p => by
    rw [fl, List.mem_flatMap]
    constructor
    · rintro ⟨k, _, h⟩
      exact (List.mem_filter.mp h).1
    · intro h
      exact ⟨pre xs ys p.1 p.2, List.mem_range.mpr (pre_lt (mem_eqP.mp h)), List.mem_filter.mpr ⟨h, decide_eq_true rfl⟩⟩
  have nd : (rowsL xs ys).flatten.Nodup := by
    rw [fl]
    refine nodup_flat List.nodup_range (fun k _ => nodup_eqP.filter _) fun a _ b _ ne x hx hy => ?_
    have e1 := of_decide_eq_true (List.mem_filter.mp hx).2
    have e2 := of_decide_eq_true (List.mem_filter.mp hy).2
    exact ne (e1.symm.trans e2)
  refine ⟨nd, fun p hp => mem_eqP.mp ((mem p).mp hp), ?_, fun row hr => ?_⟩
  · exact Nat.le_antisymm (len_le nd fun p hp => (mem p).mp hp) (len_le nodup_eqP fun p hp => (mem p).mpr hp)
  · obtain ⟨k, _, e⟩ := List.mem_map.mp hr
    subst e
    refine anti_iff.mpr fun p hp q hq ⟨h1, h2⟩ => ?_
    obtain ⟨p1, p2⟩ := List.mem_filter.mp hp
    obtain ⟨q1, q2⟩ := List.mem_filter.mp hq
    have e1 := of_decide_eq_true p2
    have e2 := of_decide_eq_true q2
    have a := pre_eq (mem_eqP.mp p1)
    have b := @pre_mono xs ys (p.1 + 1) (p.2 + 1) q.1 q.2 h1 h2
    omega
/-- the pairs that steps keep -/
def keptP : List Step → List Pr
  | [] => []
  | .keep i j :: r => (i, j) :: keptP r
  | .cut _ :: r => keptP r
  | .put _ :: r => keptP r
theorem keptP_len : ∀ ss : List Step, (keptP ss).length = keeps ss
  | [] => rfl
  | .keep i j :: r => by
    have := keptP_len r
    unfold keeps at this ⊢
    rw [keptP, List.length_cons, this, List.filter_cons_of_pos rfl, List.length_cons]
  | .cut i :: r => by
    have := keptP_len r
    unfold keeps at this ⊢
    rw [keptP, this, List.filter_cons_of_neg (show ¬ false = true from Bool.false_ne_true)]
  | .put j :: r => by
    have := keptP_len r
    unfold keeps at this ⊢
    rw [keptP, this, List.filter_cons_of_neg (show ¬ false = true from Bool.false_ne_true)]
theorem kept_chain : ∀ (ss : List Step) (i j : Nat), right xs ys ss i j = true → (∀ p ∈ keptP ss, i ≤ p.1 ∧ j ≤ p.2 ∧ eqAt xs ys p.1 p.2 = true) ∧ (keptP ss).Pairwise fun p q => p.1 < q.1 ∧ p.2 < q.2
  | [], i, j, _ => ⟨fun p hp => (by cases hp), List.Pairwise.nil⟩
  | .keep a b :: r, i, j, h => by
    have h' : (if a = i ∧ b = j ∧ eqAt xs ys i j = true then right xs ys r (i + 1) (j + 1) else false) = true := h
    by_cases c : a = i ∧ b = j ∧ eqAt xs ys i j = true
    · rw [if_pos c] at h'
      obtain ⟨rfl, rfl, ce⟩ := c
      obtain ⟨h1, h2⟩ := kept_chain r _ _ h'
      refine ⟨fun p hp => ?_, List.Pairwise.cons (fun p hp => ?_) h2⟩
      · rcases List.mem_cons.mp hp with e | e
        · subst e
          exact ⟨Nat.le_refl _, Nat.le_refl _, ce⟩
        · obtain ⟨z1, z2, z3⟩ := h1 p e
          exact ⟨by omega, by omega, z3⟩
      · obtain ⟨z1, z2, z3⟩ := h1 p hp
        exact ⟨z1, z2⟩
    · rw [if_neg c] at h'
      cases h'
  | .cut a :: r, i, j, h => by
    have h' : (if a = i ∧ i < xs.length then right xs ys r (i + 1) j else false) = true := h
    by_cases c : a = i ∧ i < xs.length
    · rw [if_pos c] at h'
      obtain ⟨h1, h2⟩ := kept_chain r _ _ h'
      exact ⟨fun p hp => let ⟨z1, z2, z3⟩ := h1 p hp; ⟨by omega, z2, z3⟩, h2⟩
    · rw [if_neg c] at h'
      cases h'
  | .put b :: r, i, j, h => by
    have h' : (if b = j ∧ j < ys.length then right xs ys r i (j + 1) else false) = true := h
    by_cases c : b = j ∧ j < ys.length
    · rw [if_pos c] at h'
      obtain ⟨h1, h2⟩ := kept_chain r _ _ h'
      exact ⟨fun p hp => let ⟨z1, z2, z3⟩ := h1 p hp; ⟨z1, by omega, z3⟩, h2⟩
    · rw [if_neg c] at h'
      cases h'
/-- the row of a pair -/
def rowOf (rows : List (List Pr)) (p : Pr) : Nat := rows.findIdx fun row => decide (p ∈ row)
theorem rowOf_get {rows : List (List Pr)} {p : Pr} (h : p ∈ rows.flatten) : rowOf rows p < rows.length ∧ ∃ row, rows[rowOf rows p]? = some row ∧ p ∈ row := by
  obtain ⟨row, hr, hp⟩ := List.mem_flatten.mp h
  have lt : rowOf rows p < rows.length := List.findIdx_lt_length_of_exists ⟨row, hr, decide_eq_true hp⟩
  have g := List.findIdx_getElem (xs := rows) (p := fun row => decide (p ∈ row)) (w := lt)
  exact ⟨lt, rows[rowOf rows p], List.getElem?_eq_getElem lt, of_decide_eq_true g⟩
/-- no script keeps more lines than there are lists in right levels -/
theorem kept_le {rows : List (List Pr)} {ss : List Step} {i j : Nat} (R : RightL xs ys rows) (h : right xs ys ss i j = true) : keeps ss ≤ rows.length := by
  obtain ⟨h1, h2⟩ := kept_chain ss i j h
  have inF : ∀ p ∈ keptP ss, p ∈ rows.flatten := fun p hp => all_of_len R.nd (fun q hq => mem_eqP.mpr (R.eq q hq)) (Nat.le_of_eq R.len.symm) p (mem_eqP.mpr (h1 p hp).2.2)
  have sep : ∀ p ∈ keptP ss, ∀ q ∈ keptP ss, p.1 < q.1 ∧ p.2 < q.2 → rowOf rows p ≠ rowOf rows q := fun p hp q hq lt e => by
    obtain ⟨_, r1, e1, m1⟩ := rowOf_get (inF p hp)
    obtain ⟨_, r2, e2, m2⟩ := rowOf_get (inF q hq)
    rw [e, e2] at e1
    have er : r2 = r1 := Option.some.inj e1
    rw [er] at e2 m2
    exact anti_iff.mp (R.anti r1 (List.mem_of_getElem? e2)) p m1 q m2 lt
  have nd : ((keptP ss).map (rowOf rows)).Nodup := by
    have key : ∀ l : List Pr, (∀ p ∈ l, p ∈ keptP ss) → (l.Pairwise fun p q => p.1 < q.1 ∧ p.2 < q.2) → (l.map (rowOf rows)).Nodup := by
      intro l
      induction l with
      | nil => intro _ _; exact List.nodup_nil
      | cons a l ih =>
        intro hl hp
        obtain ⟨q1, q2⟩ := List.pairwise_cons.mp hp
        rw [List.map_cons]
        refine List.nodup_cons.mpr ⟨fun hm => ?_, ih (fun p hp => hl p (List.mem_cons_of_mem _ hp)) q2⟩
        obtain ⟨b, hb, e⟩ := List.mem_map.mp hm
        exact sep a (hl a List.mem_cons_self) b (hl b (List.mem_cons_of_mem _ hb)) (q1 b hb) e.symm
    exact key _ (fun _ z => z) h2
  have := len_le (l' := List.range rows.length) nd fun k hk => by
    obtain ⟨p, hp, e⟩ := List.mem_map.mp hk
    rw [← e]
    exact List.mem_range.mpr (rowOf_get (inF p hp)).1
  rw [List.length_map, List.length_range, keptP_len] at this
  exact this
theorem rowsL_len : (rowsL xs ys).length = lcs xs ys := by
  unfold rowsL
  rw [List.length_map, List.length_range]
/-! ### a right list of steps, and what is in front of its end -/
theorem right_short : ∀ (ss : List Step) (s : Step) (i j : Nat), right xs ys (ss ++ [s]) i j = true → right xs ys ss i j = false
  | [], s, i, j, h => by
    cases hb : right xs ys [] i j with
    | false => rfl
    | true =>
      have hb' : (decide (i = xs.length) && decide (j = ys.length)) = true := hb
      simp only [Bool.and_eq_true, decide_eq_true_eq] at hb'
      obtain ⟨e1, e2⟩ := hb'
      cases s with
      | keep a b =>
        have h' : (if a = i ∧ b = j ∧ eqAt xs ys i j = true then right xs ys [] (i + 1) (j + 1) else false) = true := h
        by_cases c : a = i ∧ b = j ∧ eqAt xs ys i j = true
        · have := (eqAt_lt c.2.2).1
          omega
        · rw [if_neg c] at h'
          cases h'
      | cut a =>
        have h' : (if a = i ∧ i < xs.length then right xs ys [] (i + 1) j else false) = true := h
        by_cases c : a = i ∧ i < xs.length
        · omega
        · rw [if_neg c] at h'
          cases h'
      | put b =>
        have h' : (if b = j ∧ j < ys.length then right xs ys [] i (j + 1) else false) = true := h
        by_cases c : b = j ∧ j < ys.length
        · omega
        · rw [if_neg c] at h'
          cases h'
  | .keep a b :: r, s, i, j, h => by
    have h' : (if a = i ∧ b = j ∧ eqAt xs ys i j = true then right xs ys (r ++ [s]) (i + 1) (j + 1) else false) = true := h
    show (if a = i ∧ b = j ∧ eqAt xs ys i j = true then right xs ys r (i + 1) (j + 1) else false) = false
    by_cases c : a = i ∧ b = j ∧ eqAt xs ys i j = true
    · rw [if_pos c] at h' ⊢
      exact right_short r s _ _ h'
    · rw [if_neg c]
  | .cut a :: r, s, i, j, h => by
    have h' : (if a = i ∧ i < xs.length then right xs ys (r ++ [s]) (i + 1) j else false) = true := h
    show (if a = i ∧ i < xs.length then right xs ys r (i + 1) j else false) = false
    by_cases c : a = i ∧ i < xs.length
    · rw [if_pos c] at h' ⊢
      exact right_short r s _ _ h'
    · rw [if_neg c]
  | .put b :: r, s, i, j, h => by
    have h' : (if b = j ∧ j < ys.length then right xs ys (r ++ [s]) i (j + 1) else false) = true := h
    show (if b = j ∧ j < ys.length then right xs ys r i (j + 1) else false) = false
    by_cases c : b = j ∧ j < ys.length
    · rw [if_pos c] at h' ⊢
      exact right_short r s _ _ h'
    · rw [if_neg c]
/-- a keep written as a cut and a put, now and then -/
def cutUp : List (Step × Bool) → List Step
  | [] => []
  | (.keep i j, true) :: r => .cut i :: .put j :: cutUp r
  | (s, _) :: r => s :: cutUp r
theorem cutUp_right : ∀ (l : List (Step × Bool)) (i j : Nat), right xs ys (l.map (·.1)) i j = true → right xs ys (cutUp l) i j = true
  | [], _, _, h => h
  | (.keep a b, c) :: r, i, j, h => by
    have h' : (if a = i ∧ b = j ∧ eqAt xs ys i j = true then right xs ys (r.map (·.1)) (i + 1) (j + 1) else false) = true := h
    by_cases q : a = i ∧ b = j ∧ eqAt xs ys i j = true
    · rw [if_pos q] at h'
      obtain ⟨rfl, rfl, ce⟩ := q
      have ih := cutUp_right r _ _ h'
      obtain ⟨l1, l2⟩ := eqAt_lt ce
      cases c with
      | true =>
        show (if a = a ∧ a < xs.length then (if b = b ∧ b < ys.length then right xs ys (cutUp r) (a + 1) (b + 1) else false) else false) = true
        rw [if_pos ⟨rfl, l1⟩, if_pos ⟨rfl, l2⟩]
        exact ih
      | false =>
        show (if a = a ∧ b = b ∧ eqAt xs ys a b = true then right xs ys (cutUp r) (a + 1) (b + 1) else false) = true
        rw [if_pos ⟨rfl, rfl, ce⟩]
        exact ih
    · rw [if_neg q] at h'
      cases h'
  | (.cut a, c) :: r, i, j, h => by
    have h' : (if a = i ∧ i < xs.length then right xs ys (r.map (·.1)) (i + 1) j else false) = true := h
    by_cases q : a = i ∧ i < xs.length
    · rw [if_pos q] at h'
      have ih := cutUp_right r _ _ h'
      cases c <;>
      · show (if a = i ∧ i < xs.length then right xs ys (cutUp r) (i + 1) j else false) = true
        rw [if_pos q]
        exact ih
    · rw [if_neg q] at h'
      cases h'
  | (.put b, c) :: r, i, j, h => by
    have h' : (if b = j ∧ j < ys.length then right xs ys (r.map (·.1)) i (j + 1) else false) = true := h
    by_cases q : b = j ∧ j < ys.length
    · rw [if_pos q] at h'
      have ih := cutUp_right r _ _ h'
      cases c <;>
      · show (if b = j ∧ j < ys.length then right xs ys (cutUp r) i (j + 1) else false) = true
        rw [if_pos q]
        exact ih
    · rw [if_neg q] at h'
      cases h'
end K15
namespace K15
open PySem PySem.Spec PyProof.Rows L2 QR
def topS (i : Nat) : Stmt := PySem.Challenge.pw_quiltward_k16_levels_show_the_fewest.main.body.getD i (.Pass ⟨0, 0, 0, 0⟩)
abbrev sState : Stmt := topS 11
abbrev sDraw : Stmt := topS 12
abbrev sPick : Stmt := topS 13
theorem scState : FnScope ["script", "seed", "cell"] ["script"] (defScope sState) := ⟨rfl, rfl, rfl, by decide +kernel, rfl, by decide +kernel, by decide +kernel⟩
theorem scDraw : FnScope ["state", "many", "cells", "value", "mixed"] ["state", "many"] (defScope sDraw) := ⟨rfl, rfl, rfl, by decide +kernel, rfl, by decide +kernel, by decide +kernel⟩
theorem scPick : FnScope ["state", "row"] ["state", "row"] (defScope sPick) := ⟨rfl, rfl, rfl, by decide +kernel, rfl, by decide +kernel, by decide +kernel⟩
/-! ### the state of the draws: a list of a list and a number -/
structure StateAt (H : Hp) (p c : Addr) : Prop where
  ex : ∃ (seed : Int) (ms : List Int), H p = some (.lst [.ref c, .int seed]) ∧ H c = some (.lst (ms.map V.int)) ∧ ms.length ≤ 63 ∧ (∀ m ∈ ms, 0 ≤ m) ∧ 0 ≤ seed ∧ seed < 4294967296
  ne : p ≠ c
/-- only the state has changed -/
def Drawn (p c : Addr) (H H' : Hp) : Prop := ∀ b, b ≠ p → b ≠ c → H' b = H b
theorem drawn_refl {p c : Addr} {H : Hp} : Drawn p c H H := fun _ _ _ => rfl
theorem drawn_trans {p c : Addr} {H H1 H2 : Hp} (a : Drawn p c H H1) (b : Drawn p c H1 H2) : Drawn p c H H2 := fun x h1 h2 => (b x h1 h2).trans (a x h1 h2)
theorem StateAt.mono {H H' : Hp} {p c : Addr} (s : StateAt H p c) (hp : ∀ o, H p = some o → H' p = some o) (hc : ∀ o, H c = some o → H' c = some o) : StateAt H' p c := by
  obtain ⟨⟨seed, ms, h1, h2, h3⟩, ne⟩ := s
  exact ⟨⟨seed, ms, hp _ h1, hc _ h2, h3⟩, ne⟩
section
variable {P : Program} {w : World} {K : PySem.W.Frag} {mg : Str → Option Value} {base : Heap}
/-! ### _law_state -/
def spState (K : PySem.W.Frag) : Sp := fun vs H Q _ => ∃ (a : Addr) (ns : List Int), vs = [.ref a] ∧ SqL K H a (ns.map V.int) ∧ ns.length ≤ 63 ∧
  ∀ H' p c, Same H H' → H p = none → H c = none → StateAt H' p c → Q (.ref p) H'
theorem abs_nn (z : Int) : 0 ≤ (if z < 0 then -z else z) := by
  split <;> omega
theorem ok_state {f : Addr} {fd : FuncData} (F : Fun K "_law_state" "_law_state" sState f fd) (ma : mg "abs" = none) (mi : mg "int" = none) : FnOk P w K mg base CX0 1 f fd ["script"] (spState K) := by
  refine F.ok scState (fun vs H Q E h => ?_) (fun cdv A outer s H vs Q E hr h => ?_)
  · obtain ⟨a, ns, rfl, _⟩ := h
    rfl
  · obtain ⟨a, ns, rfl, hS, hl, q⟩ := h
    refine ⟨_, pss_cons (ps_set (i := 1) scState.nd rfl (.inl rfl) pe_int)
      (pss_cons (ps_for PassesOwn.never rfl (pi_list (pv 0)) (pg_name (i := 2) scState.nd rfl (.inl rfl))
        (pss_one (ps_set (i := 1) scState.nd rfl (.inl rfl) (pe_op op_mod (pe_callTy call_int1 (by rfl) mi (by decide +kernel) (pa_cons (pe_op op_add (pe_op op_mul (pv 1) pe_int) (pv 2)) pa_nil)) pe_int))))
      (pss_one (ps_ret (pe_lst (pa_cons (pe_lc (own := [("cell", 2)]) (g := gName 2) (tt := tYes) rfl scState.nd (pi_list (pv 0)) (blkOk_by (N := ["script", "seed", "cell"]) (sc := defScope sState) (by decide +kernel))
          (fun _ _ _ _ _ => pg_name (i := 2) scState.nd rfl (Or.inl rfl)) (fun _ _ _ _ _ => pts_nil) (fun _ _ _ _ _ => pe_callB call_abs (by rfl) ma (by decide +kernel) (pa_cons (pv 2) pa_nil)))
        (pa_cons (pe_op op_add (pv 1) pe_int) pa_nil)))))), ?_⟩
    refine ⟨.ref a, rfl, a, rfl, ⟨_, hS⟩, for_list (xs := ns.map V.int) (fun i σ H' => ∃ (z : Int) (y : Option V), σ = [some (.ref a), some (.int z), y] ∧ 0 ≤ z ∧ z < 1000003 ∧ H' = H) ⟨7, none, rfl, by omega, by omega, rfl⟩ ?_ ?_ ?_⟩
    · rintro i σ H' _ ⟨z, y, _, _, _, rfl⟩
      exact hS
    · rintro i x σ H' hx ⟨z, y, rfl, h0, h1, rfl⟩
      obtain ⟨n, _, rfl⟩ := List.mem_map.mp (List.mem_of_getElem? hx)
      refine ⟨_, rfl, _, _, rfl, rfl, .inl ⟨by omega, by omega⟩, _, rfl, _, _, rfl, rfl, .inl ⟨_, rfl, _, _, rfl, rfl, by show (0 : Int) < 1000003; decide, ?_⟩⟩
      exact ⟨_, _, rfl, Int.emod_nonneg _ (by decide), Int.emod_lt_of_pos _ (by decide), rfl⟩
    · rintro σ H' ⟨z, y, rfl, h0, h1, rfl⟩
      refine ⟨.ref a, rfl, a, rfl, ⟨_, hS⟩, fun D nD => ?_⟩
      refine lc_list (xs := ns.map V.int) (fun i H2 => H2 = upd H' D (.lst (((ns.take i).map fun n => if n < 0 then -n else n).map V.int))) rfl ?_ ?_ ?_
      · rintro i H2 _ rfl
        exact Same.seq (fun b o e => by rw [upd_ne (ne_of_none e nD)]; exact e) hS
      · rintro i x H2 hx rfl
        have hx2 : (ns.map V.int)[i]? = some x := hx
        rw [List.getElem?_map] at hx2
        obtain ⟨n, hn, rfl⟩ := Option.map_eq_some_iff.mp hx2
        refine ⟨rfl, ?_⟩
        refine ⟨_, rfl, n, rfl, _, upd_same, ?_, ?_⟩
        · rw [List.length_map, List.length_map, List.length_take, sizeLine_eq]
          omega
        · rw [upd_upd, List.take_add_one, hn, List.map_append, List.map_append]
          rfl
      · rintro H2 rfl
        refine ⟨_, rfl, _, _, rfl, rfl, by show 2 ≤ sizeLine; rw [sizeLine_eq]; decide, fun p np => ?_⟩
        have eD : (upd H' D (.lst (((ns.take (ns.map V.int).length).map fun n => if n < 0 then -n else n).map V.int))) D = _ := upd_same
        have nDp : D ≠ p := ne_of_none eD np
        have np0 : H' p = none := by
          rw [← np, upd_ne (Ne.symm nDp)]
        refine q _ p D (fun b o e => ?_) np0 nD ⟨⟨z + 1, (ns.take (ns.map V.int).length).map fun n => if n < 0 then -n else n, upd_same, ?_, ?_, ?_, by omega, by omega⟩, Ne.symm nDp⟩
        · rw [upd_ne (ne_of_none e np0), upd_ne (ne_of_none e nD)]
          exact e
        · rw [upd_ne nDp]
          exact upd_same
        · rw [List.length_map, List.length_take]
          omega
        · intro m hm
          obtain ⟨n, _, rfl⟩ := List.mem_map.mp hm
          exact abs_nn n
end
end K15
namespace K15
open PySem PySem.Spec PyProof.Rows L2 QR
theorem seq0 {n : Nat} (h : 0 < n) : seqIndex? 0 n = some 0 := by
  unfold seqIndex?
  simp [h]
theorem ix0 {n : Nat} (h : 0 < n) : ixN n 0 = some 0 := by
  unfold ixN
  simp [h]
section
variable {P : Program} {w : World} {K : PySem.W.Frag} {mg : Str → Option Value} {base : Heap}
/-! ### _law_draw -/
def spDraw : Sp := fun vs H Q _ => ∃ (p c : Addr) (m : Nat), vs = [.ref p, .int (m : Int)] ∧ m < 1000000000 ∧ StateAt H p c ∧
  ∀ H' (r : Nat), (m = 0 → r = 0) → (0 < m → r < m) → StateAt H' p c → Drawn p c H H' → Q (.int (r : Int)) H'
theorem ok_draw {f : Addr} {fd : FuncData} (F : Fun K "_law_draw" "_law_draw" sDraw f fd) (ml : mg "len" = none) (mi : mg "int" = none) : FnOk P w K mg base CX0 1 f fd ["state", "many"] spDraw := by
  refine F.ok scDraw (fun vs H Q E h => ?_) (fun cdv A outer s H vs Q E hr h => ?_)
  · obtain ⟨p, c, m, rfl, _⟩ := h
    rfl
  · obtain ⟨p, c, m, rfl, hm, ⟨⟨seed, ms, hp, hc, hl, h0, s0, s1⟩, npc⟩, q⟩ := h
    refine ⟨_, (pss_cons (ps_if (pt_cmpR op_lt (pv 1) pe_int (nomark _)) (pss_one (ps_ret pe_int)) pss_nil)
      (pss_cons (ps_set (i := 2) scDraw.nd rfl (.inl rfl) (pe_ix ix_list (pv 0) pe_int (fun _ _ => rfl)))
      (pss_cons (ps_while PassesOwn.never (PW.pt (pw_and (pt_cmpR op_gt (pe_callB call_len_seq (by rfl) ml PySem.boot_len (pa_cons (pv 2) pa_nil)) pe_int (nomark _)) (pw_and1 (pt_cmpR op_eq (pe_ix ix_list (pv 2) pe_int (fun _ _ => rfl)) pe_int (nomark _)))))
        (pss_one (ps_expr (pe_bm PySem.F.plainAttrs_list PySem.F.slot_list_pop PySem.F.type_list_pop mt_popAt (pv 2) (pa_cons pe_int pa_nil)))))
      (pss_cons (ps_if (pt_cmpR op_gt (pe_callB call_len_seq (by rfl) ml PySem.boot_len (pa_cons (pv 2) pa_nil)) pe_int (nomark _))
        (pss_cons (ps_set (i := 3) scDraw.nd rfl (.inl rfl) (pe_ix ix_list (pv 2) pe_int (fun _ _ => rfl)))
      (pss_cons (ps_asg (pe_op op_fdiv (pv 3) (pv 1)) (pg_sub (pv 2) pe_int set_list))
      (pss_one (ps_ret (pe_op op_mod (pe_callTy call_int1 (by rfl) mi (by decide +kernel) (pa_cons (pv 3) pa_nil)) (pv 1)))))) pss_nil)
      (pss_cons (ps_set (i := 4) scDraw.nd rfl (.inl rfl) (pe_op op_mod (pe_callTy call_int1 (by rfl) mi (by decide +kernel) (pa_cons (pe_op op_add (pe_op op_mul (pe_ix ix_list (pv 0) pe_int (fun _ _ => rfl)) pe_int) pe_int) pa_nil)) pe_int))
      (pss_cons (ps_asg (pv 4) (pg_sub (pv 0) pe_int set_list))
      (pss_one (ps_ret (pe_op op_mod (pe_callTy call_int1 (by rfl) mi (by decide +kernel) (pa_cons (pe_op op_fdiv (pv 4) pe_int) pa_nil)) (pv 1)))))))))), ?_⟩
    refine ⟨_, rfl, _, _, rfl, rfl, _, rfl, ite2 (fun h1 => ?_) (fun h1 => ?_)⟩
    · have m0 : m = 0 := by
        have := of_decide_eq_true h1
        omega
      exact q H 0 (fun _ => rfl) (fun z => by omega) ⟨⟨seed, ms, hp, hc, hl, h0, s0, s1⟩, npc⟩ drawn_refl
    have mp : 0 < m := by
      have : ¬ ((m : Nat) : Int) < 1 := fun z => h1 (decide_eq_true z)
      omega
    refine ⟨_, rfl, p, _, 0, _, rfl, rfl, SqL.of hp, atI_nat (j := 0) rfl, ?_⟩
    -- while
    refine ⟨fun n σ H' => ∃ ks : List Int, σ = [some (.ref p), some (.int (m : Int)), some (.ref c), none, none] ∧ n = ks.length ∧ Drawn p c H H' ∧ H' p = some (.lst [.ref c, .int seed]) ∧ H' c = some (.lst (ks.map V.int)) ∧ ks.length ≤ 63 ∧ (∀ k ∈ ks, 0 ≤ k),
      ⟨ms.length, ms, rfl, rfl, drawn_refl, hp, hc, hl, h0⟩, ?_⟩
    rintro n σ H' ⟨ks, rfl, rfl, dr, hp', hc', hl', h0'⟩
    refine ⟨_, rfl, c, _, rfl, .inl (SqL.of hc'), _, _, rfl, rfl, _, rfl, ite2 (fun h2 => ?_) (fun h2 => ?_)⟩
    · obtain ⟨k, r, rfl⟩ : ∃ k r, ks = k :: r := by
        cases ks with
        | nil =>
          have := of_decide_eq_true h2
          exact absurd this (by decide)
        | cons k r => exact ⟨k, r, rfl⟩
      refine ⟨_, rfl, c, _, 0, .int k, rfl, rfl, SqL.of hc', atI_nat (j := 0) rfl, rfl, _, rfl, ite2 (fun h3 => ?_) (fun h3 => ?_)⟩
      · refine ⟨fun σ' H2 => ∃ n', n' < (k :: r).length ∧ ∃ ks : List Int, σ' = [some (.ref p), some (.int (m : Int)), some (.ref c), none, none] ∧ n' = ks.length ∧ Drawn p c H H2 ∧ H2 p = some (.lst [.ref c, .int seed]) ∧ H2 c = some (.lst (ks.map V.int)) ∧ ks.length ≤ 63 ∧ (∀ k ∈ ks, 0 ≤ k), fun _ _ z => z, ?_⟩
        refine ⟨_, rfl, .inl ⟨rfl, _, SqL.of hc'⟩, c, _, 0, 0, .int k, rfl, rfl, hc', by decide, by decide, ?_, rfl, ?_⟩
        · show seqIndex? 0 ((k :: r).map V.int).length = some 0
          show seqIndex? 0 (((k :: r).map V.int).length) = some 0
          exact seq0 (by rw [List.length_map, List.length_cons]; omega)
        · refine ⟨r.length, by show r.length < r.length + 1; omega, r, rfl, rfl, ?_, ?_, ?_, ?_, ?_⟩
          · intro b h1 h2
            rw [upd_ne h2]
            exact dr b h1 h2
          · rw [upd_ne npc]
            exact hp'
          · exact upd_same
          · have : r.length + 1 ≤ 63 := hl'
            omega
          · exact fun x hx => h0' x (List.mem_cons_of_mem _ hx)
      · have kne : k ≠ 0 := fun z => h3 (by rw [z]; rfl)
        have k1 := h0' k List.mem_cons_self
        refine ⟨_, rfl, c, _, rfl, .inl (SqL.of hc'), _, _, rfl, rfl, _, rfl, ite2 (fun _ => ?_) (fun z => absurd h2 z)⟩
        refine ⟨_, rfl, c, _, 0, .int k, rfl, rfl, SqL.of hc', atI_nat (j := 0) rfl, ?_⟩
        refine ⟨_, rfl, _, rfl, k, (m : Int), rfl, rfl, ⟨by omega, by omega⟩, _, rfl, c, _, 0, 0, rfl, rfl, hc', ix0 (by rw [List.length_map, List.length_cons]; omega), ?_⟩
        refine ⟨_, rfl, .inl ⟨_, rfl, _, rfl, _, _, rfl, rfl, by show (0 : Int) < (m : Int); omega, ?_⟩⟩
        have e1 : k % (m : Int) = (((k % (m : Int)).toNat : Nat) : Int) := (Int.toNat_of_nonneg (Int.emod_nonneg _ (by omega))).symm
        have e2 := Int.emod_lt_of_pos k (show (0 : Int) < (m : Int) by omega)
        show Q (V.int (k % (m : Int))) _
        rw [e1]
        refine q _ _ (fun z => by omega) (fun _ => by omega) ⟨⟨seed, (k / (m : Int)) :: r, ?_, ?_, hl', ?_, s0, s1⟩, npc⟩ ?_
        · rw [upd_ne npc]
          exact hp'
        · exact upd_same
        · intro x hx
          rcases List.mem_cons.mp hx with rfl | hx
          · exact Int.ediv_nonneg k1 (by omega)
          · exact h0' x (List.mem_cons_of_mem _ hx)
        · intro b z1 z2
          rw [upd_ne z2]
          exact dr b z1 z2
    · have e0 : ks = [] := by
        cases ks with
        | nil => rfl
        | cons k r => exact absurd (decide_eq_true (show (0 : Int) < (((k :: r).map V.int).length : Int) by rw [List.length_map, List.length_cons]; omega)) h2
      subst e0
      refine ⟨_, rfl, c, _, rfl, .inl (SqL.of hc'), _, _, rfl, rfl, _, rfl, ite2 (fun z => absurd z h2) (fun _ => ?_)⟩
      refine ⟨_, rfl, p, _, 1, _, rfl, rfl, SqL.of hp', atI_nat (j := 1) rfl, _, _, rfl, rfl, .inl ⟨by omega, by omega⟩, _, _, rfl, rfl, .inl ⟨_, rfl, _, _, rfl, rfl, by show (0 : Int) < 2147483647; decide, ?_⟩⟩
      have b0 := Int.emod_nonneg (seed * 48271 + 12345) (show (2147483647 : Int) ≠ 0 by decide)
      have b1 := Int.emod_lt_of_pos (seed * 48271 + 12345) (show (0 : Int) < 2147483647 by decide)
      refine ⟨_, rfl, _, rfl, p, _, 1, 1, rfl, rfl, hp', rfl, ?_⟩
      refine ⟨_, rfl, _, _, rfl, rfl, ⟨by show (0 : Int) < 64; decide, by show (64 : Int) < 1073741824; decide⟩, .inl ⟨_, rfl, _, rfl, _, _, rfl, rfl, by show (0 : Int) < (m : Int); omega, ?_⟩⟩
      have e1 : (seed * 48271 + 12345) % 2147483647 / 64 % (m : Int) = ((((seed * 48271 + 12345) % 2147483647 / 64 % (m : Int)).toNat : Nat) : Int) := (Int.toNat_of_nonneg (Int.emod_nonneg _ (by omega))).symm
      have e2 := Int.emod_lt_of_pos ((seed * 48271 + 12345) % 2147483647 / 64) (show (0 : Int) < (m : Int) by omega)
      show Q (V.int ((seed * 48271 + 12345) % 2147483647 / 64 % (m : Int))) _
      rw [e1]
      refine q _ _ (fun z => by omega) (fun _ => by omega) ⟨⟨(seed * 48271 + 12345) % 2147483647, [], upd_same, ?_, by decide, (fun x hx => nomatch hx), b0, by omega⟩, npc⟩ ?_
      · rw [upd_ne (Ne.symm npc)]
        exact hc'
      · intro b z1 z2
        rw [upd_ne z1]
        exact dr b z1 z2
/-! ### _law_pick -/
def spPick : Sp := fun vs H Q _ => ∃ (p c a : Addr) (xs : List V), vs = [.ref p, .ref a] ∧ H a = some (.lst xs) ∧ a ≠ p ∧ a ≠ c ∧ 0 < xs.length ∧ xs.length < 1000000 ∧ StateAt H p c ∧
  ∀ H' v, v ∈ xs → StateAt H' p c → Drawn p c H H' → Q v H'
theorem ok_pick {f fD : Addr} {fd fdD : FuncData} (F : Fun K "_law_pick" "_law_pick" sPick f fd) (GD : FnOk P w K mg base CX0 1 fD fdD ["state", "many"] spDraw) (bD : Binds K fdD ["state", "many"] []) (gD : mg "_law_draw" = some (.ref fD)) (kD : PySem.W.keepIn K (.ref fD) = true) (ml : mg "len" = none) :
    FnOk P w K mg base CX0 2 f fd ["state", "row"] spPick := by
  refine F.ok scPick (fun vs H Q E h => ?_) (fun cdv A outer s H vs Q E hr h => ?_)
  · obtain ⟨p, c, a, xs, rfl, _⟩ := h
    rfl
  · obtain ⟨p, c, a, xs, rfl, ha, np, nc, l0, l1, st, q⟩ := h
    refine ⟨_, (pss_one (ps_ret (pe_ix ix_list (pv 1) (pe_call GD hr (by rfl) gD kD bD .nil pass0 (pa_cons (pv 0) (pa_cons (pe_callB call_len_seq (by rfl) ml PySem.boot_len (pa_cons (pv 1) pa_nil)) pa_nil))) (fun _ _ => rfl)))), ?_⟩
    refine ⟨_, rfl, _, rfl, _, rfl, a, _, rfl, .inl (SqL.of ha), p, c, xs.length, rfl, by omega, st, fun H' r _ hr2 st' dr => ?_⟩
    have lt := hr2 l0
    have ha' : H' a = some (.lst xs) := (dr a np nc).trans ha
    refine ⟨a, _, _, xs[r], rfl, rfl, SqL.of ha', atI_nat (List.getElem?_eq_getElem lt), ?_⟩
    exact q H' _ (List.getElem_mem lt) st' dr
end
end K15
namespace K15
open PySem PySem.Spec PyProof.Rows L2 QR
theorem zl : 2000000 ≤ sizeLine := by
  rw [sizeLine_eq]
  decide
theorem same_new {a : Addr} {H : Hp} {o : HO} (e : H a = none) : Same H (upd H a o) := fun b o' e' => by
  rw [upd_ne (ne_of_none e' e)]
  exact e'
theorem same_upd {a : Addr} {H H1 : Hp} {o : HO} (e : H a = none) (s : Same H H1) : Same H (upd H1 a o) := fun b o' e' => by
  rw [upd_ne (ne_of_none e' e)]
  exact s b o' e'
theorem same_trans {H H1 H2 : Hp} (a : Same H H1) (b : Same H1 H2) : Same H H2 := fun x o e => b x o (a x o e)
theorem same_none {H H' : Hp} {a : Addr} (s : Same H H') (n : H' a = none) : H a = none := by
  cases e : H a with
  | none => rfl
  | some o =>
    rw [s a o e] at n
    cases n
theorem same_refl {H : Hp} : Same H H := fun _ _ e => e
theorem ixN_nat {n j : Nat} (h : j < n) : ixN n (j : Int) = some j := by
  unfold ixN
  rw [if_pos (by omega), if_pos (by omega), Int.toNat_natCast]
theorem atI_s {α : Type} {xs : List α} {j : Nat} {v : α} (h : xs[j + 1]? = some v) : atI xs ((j : Int) + 1) = some v := by
  have := atI_nat h
  rw [Int.natCast_add] at this
  exact this
theorem atI_end {α : Type} {xs : List α} {v : α} (h : xs[xs.length - 1]? = some v) : atI xs (-1) = some v := by
  have l := (List.getElem?_eq_some_iff.mp h).1
  have e : ixN xs.length (-1) = some (xs.length - 1) := by
    unfold ixN
    rw [if_neg (by decide), if_pos (by omega)]
    congr 1
    omega
  unfold atI
  rw [e]
  exact h
def lnV : Option Str → V
  | none => .non
  | some s => .str s
theorem scal_ln (x : Option Str) (y : Str) : scal (lnV x) (.str y) = true := by
  cases x <;> rfl
theorem dec_ln (x : Option Str) (y : Str) : decide (lnV x = V.str y) = decide (x = some y) := by
  cases x with
  | none => rfl
  | some s =>
    rw [Bool.eq_iff_iff]
    simp [lnV]
theorem get_map {α β : Type} {l : List α} {i : Nat} {x : α} (f : α → β) (h : l[i]? = some x) : (l.map f)[i]? = some (f x) := by
  rw [List.getElem?_map, h]
  rfl
theorem map_get {α β : Type} {l : List α} {i : Nat} {y : β} {f : α → β} (h : (l.map f)[i]? = some y) : ∃ x, l[i]? = some x ∧ f x = y := by
  rw [List.getElem?_map] at h
  exact Option.map_eq_some_iff.mp h
theorem flat_rep {α : Type} (n : Nat) (v : α) : (List.replicate n [v]).flatten = (List.range n).map fun _ => v := by
  induction n with
  | zero => rfl
  | succ n ih =>
    rw [List.replicate_succ', List.flatten_append, ih, List.range_succ, List.map_append]
    rfl
theorem upd_self {H : Hp} {a : Addr} {o : HO} (h : H a = some o) : upd H a o = H := by
  funext b
  by_cases e : b = a
  · rw [e, upd_same, h]
  · rw [upd_ne e]
theorem to_dec {R : Bool → Hp → Prop} {H : Hp} {x y : Bool} (e : x = y) (h : R y H) : R x H := e ▸ h
/-- a test of two parts; the parts may lay new objects -/
theorem and_dec {tA tB : TT} {σ : L2.St} {H : Hp} {Q : Bool → Hp → Prop} {p q : Prop} [Decidable p] [Decidable q] (hA : ∀ R : Bool → Hp → Prop, (∀ H1, Same H H1 → R (decide p) H1) → tA σ H R)
    (hB : p → ∀ H1, Same H H1 → ∀ R : Bool → Hp → Prop, (∀ H2, Same H1 H2 → R (decide q) H2) → tB σ H1 R) (h : ∀ H2, Same H H2 → Q (decide (p ∧ q)) H2) : tAnd tA tB σ H Q := by
  refine hA _ fun H1 s1 => ?_
  by_cases hp : p
  · show if decide p = true then tB σ H1 Q else Q false H1
    rw [decide_eq_true hp]
    refine hB hp H1 s1 Q fun H2 s2 => ?_
    have := h H2 (same_trans s1 s2)
    rw [show decide (p ∧ q) = decide q from decide_eq_decide.mpr ⟨fun z => z.2, fun z => ⟨hp, z⟩⟩] at this
    exact this
  · show if decide p = true then tB σ H1 Q else Q false H1
    rw [decide_eq_false hp]
    have := h H1 s1
    rw [decide_eq_false (fun z => hp z.1)] at this
    exact this
theorem or_dec {tA tB : TT} {σ : L2.St} {H : Hp} {Q : Bool → Hp → Prop} {p q : Prop} [Decidable p] [Decidable q] (hA : ∀ R : Bool → Hp → Prop, (∀ H1, Same H H1 → R (decide p) H1) → tA σ H R)
    (hB : ¬ p → ∀ H1, Same H H1 → ∀ R : Bool → Hp → Prop, (∀ H2, Same H1 H2 → R (decide q) H2) → tB σ H1 R) (h : ∀ H2, Same H H2 → Q (decide (p ∨ q)) H2) : tOr tA tB σ H Q := by
  refine hA _ fun H1 s1 => ?_
  by_cases hp : p
  · show if decide p = true then Q true H1 else tB σ H1 Q
    rw [decide_eq_true hp]
    have := h H1 s1
    rw [decide_eq_true (Or.inl hp)] at this
    exact this
  · show if decide p = true then Q true H1 else tB σ H1 Q
    rw [decide_eq_false hp]
    refine hB hp H1 s1 Q fun H2 s2 => ?_
    have := h H2 (same_trans s1 s2)
    rw [show decide (p ∨ q) = decide q from decide_eq_decide.mpr ⟨fun z => z.resolve_left hp, fun z => .inr z⟩] at this
    exact this
theorem dec_lt {α : Type} {i : Nat} {l : List α} {f : α → V} : decide ((i : Int) < ((l.map f).length : Int)) = decide (i < l.length) := by
  rw [List.length_map]
  exact decide_eq_decide.mpr Int.ofNat_lt
theorem dec_nat {i j : Nat} : decide ((V.int (i : Int)) = V.int (j : Int)) = decide (i = j) := by
  refine decide_eq_decide.mpr ⟨fun z => ?_, fun z => by rw [z]⟩
  have := V.int.inj z
  omega
end K15
namespace K15
open PySem PySem.Spec PyProof.Rows L2 QR
abbrev sKB : Stmt := topS 1
abbrev nKB : List Str := ["one", "other", "table", "i", "below", "row", "j"]
theorem scKB : FnScope nKB ["one", "other"] (defScope sKB) := ⟨rfl, rfl, rfl, by decide +kernel, rfl, by decide +kernel, by decide +kernel⟩
def rowV (xs : List (Option Str)) (ys : List Str) (i : Nat) : List V := (List.range (ys.length + 1)).map fun j => V.int (L xs ys i j : Nat)
def rowP (xs : List (Option Str)) (ys : List Str) (i k : Nat) : List V := (List.range (ys.length + 1)).map fun j => V.int ((if j + k < ys.length then 0 else L xs ys i j : Nat))
theorem rowP_zero (xs : List (Option Str)) (ys : List Str) (i : Nat) : rowP xs ys i 0 = (List.range (ys.length + 1)).map fun _ => V.int 0 := by
  refine List.map_congr_left fun j hj => ?_
  have := List.mem_range.mp hj
  by_cases h : j + 0 < ys.length
  · rw [if_pos h]
    rfl
  · rw [if_neg h, L_end2 (by omega)]
    rfl
theorem rowP_end (xs : List (Option Str)) (ys : List Str) (i : Nat) : rowP xs ys i ys.length = rowV xs ys i := by
  refine List.map_congr_left fun j hj => ?_
  rw [if_neg (by omega)]
theorem rowP_set (xs : List (Option Str)) (ys : List Str) (i k : Nat) (h : k < ys.length) : (rowP xs ys i k).set (ys.length - 1 - k) (V.int (L xs ys i (ys.length - 1 - k) : Nat)) = rowP xs ys i (k + 1) := by
  unfold rowP
  rw [range_set]
  refine List.map_congr_left fun j hj => ?_
  by_cases e : j = ys.length - 1 - k
  · rw [if_pos e, if_neg (by omega), e]
  · rw [if_neg e]
    by_cases h2 : j + k < ys.length
    · rw [if_pos h2, if_pos (by omega)]
    · rw [if_neg h2, if_neg (by omega)]
theorem rowV_get {xs : List (Option Str)} {ys : List Str} {i j : Nat} (h : j ≤ ys.length) : (rowV xs ys i)[j]? = some (.int (L xs ys i j : Nat)) := range_get _ (by omega)
theorem rowP_get {xs : List (Option Str)} {ys : List Str} {i j k : Nat} (h : j ≤ ys.length) (h2 : ys.length ≤ j + k) : (rowP xs ys i k)[j]? = some (.int (L xs ys i j : Nat)) := by
  unfold rowP
  rw [range_get _ (by omega), if_neg (by omega)]
theorem rowP_len (xs : List (Option Str)) (ys : List Str) (i k : Nat) : (rowP xs ys i k).length = ys.length + 1 := by
  unfold rowP
  rw [List.length_map, List.length_range]
theorem rowV_end {xs : List (Option Str)} {ys : List Str} {i : Nat} (h : xs.length ≤ i) : rowV xs ys i = (List.range (ys.length + 1)).map fun _ => V.int 0 := by
  refine List.map_congr_left fun j hj => ?_
  rw [L_end1 h]
  rfl
/-- at t stands the table of rows, the first one that of i -/
structure TabAt (H : Hp) (xs : List (Option Str)) (ys : List Str) (t : Addr) (rs : List Addr) : Prop where
  at_ : H t = some (.lst (rs.map V.ref))
  len : rs.length = xs.length + 1
  row : ∀ i r, rs[i]? = some r → H r = some (.lst (rowV xs ys i))
theorem TabAt.same {H H' : Hp} {xs : List (Option Str)} {ys : List Str} {t : Addr} {rs : List Addr} (h : TabAt H xs ys t rs) (s : Same H H') : TabAt H' xs ys t rs :=
  ⟨s _ _ h.at_, h.len, fun i r e => s _ _ (h.row i r e)⟩
section
variable {P : Program} {w : World} {K : PySem.W.Frag} {mg : Str → Option Value} {base : Heap}
def spKB : Sp := fun vs H Q _ => ∃ (a b : Addr) (xs : List (Option Str)) (ys : List Str), vs = [.ref a, .ref b] ∧ H a = some (.lst (xs.map lnV)) ∧ H b = some (.lst (ys.map V.str)) ∧ xs.length ≤ 1000 ∧ ys.length ≤ 1000 ∧
  ∀ H' t rs, Same H H' → H t = none → TabAt H' xs ys t rs → Q (.ref t) H'
theorem ok_KB {f : Addr} {fd : FuncData} (F : Fun K "kept_behind" "kept_behind" sKB f fd)
    (m_len : mg "len" = none) (m_range : mg "range" = none) (m_reversed : mg "reversed" = none) (m_max : mg "max" = none) : FnOk P w K mg base CX0 1 f fd ["one", "other"] spKB := by
  refine F.ok scKB (fun vs H Q E h => ?_) (fun cdv A outer s H vs Q E hr h => ?_)
  · obtain ⟨a, b, xs, ys, rfl, _⟩ := h
    rfl
  · obtain ⟨a, b, xs, ys, rfl, ha, hb, hx, hy, q⟩ := h
    have hu := hr.units
    have hu1 := hu_of hr
    have zl := zl
    refine ⟨_, (pss_cons (ps_set (i := 2) scKB.nd rfl (.inl rfl) (pe_lst (pa_cons (pe_op op_rep (pe_lst (pa_cons (pe_int) pa_nil)) (pe_op op_add (pe_callB call_len_seq (by rfl) m_len PySem.boot_len (pa_cons (pv 1) pa_nil)) (pe_int))) pa_nil)))
      (pss_cons (ps_for PassesOwn.never rfl (pi_revR (by rfl) m_reversed (prg_1 (by rfl) m_range (pe_callB call_len_seq (by rfl) m_len PySem.boot_len (pa_cons (pv 0) pa_nil)))) (pg_name (i := 3) scKB.nd rfl (.inl rfl))
      (pss_cons (ps_par (i := 4) (j := 5) (by rfl) scKB.nd rfl rfl (by decide) rfl rfl (pa_cons (pe_ix ix_list (pv 2) (pe_un un_neg (pe_int)) (fun _ _ => rfl)) (pa_cons (pe_op op_rep (pe_lst (pa_cons (pe_int) pa_nil)) (pe_op op_add (pe_callB call_len_seq (by rfl) m_len PySem.boot_len (pa_cons (pv 1) pa_nil)) (pe_int))) pa_nil)) (by rfl))
      (pss_cons (ps_for PassesOwn.never rfl (pi_revR (by rfl) m_reversed (prg_1 (by rfl) m_range (pe_callB call_len_seq (by rfl) m_len PySem.boot_len (pa_cons (pv 1) pa_nil)))) (pg_name (i := 6) scKB.nd rfl (.inl rfl))
      (pss_one (ps_asg (pe_ifExp (pt_cmpR op_eq (pe_ix ix_list (pv 0) (pv 3) (fun _ _ => rfl)) (pe_ix ix_list (pv 1) (pv 6) (fun _ _ => rfl)) (nomark _)) (pe_op op_add (pe_ix ix_list (pv 4) (pe_op op_add (pv 6) (pe_int)) (fun _ _ => rfl)) (pe_int)) (pe_callB (call_max2 rfl) (by rfl) m_max (by decide +kernel) (pa_cons (pe_ix ix_list (pv 4) (pv 6) (fun _ _ => rfl)) (pa_cons (pe_ix ix_list (pv 5) (pe_op op_add (pv 6) (pe_int)) (fun _ _ => rfl)) pa_nil)))) (pg_sub (pv 5) (pv 6) set_list))))
      (pss_one (ps_expr (pe_bm PySem.F.plainAttrs_list PySem.F.slot_list_append PySem.F.type_list_append mt_append (pv 2) (pa_cons (pv 5) pa_nil)))))))
      (pss_one (ps_ret (pe_rev (pv 2) (pe_un un_neg pe_int)))))), ?_⟩
    -- table = [[0] * (len(other) + 1)]
    have lb : (((ys.map V.str).length : Int) + 1).toNat = ys.length + 1 := by
      rw [List.length_map]
      omega
    refine ⟨by show 1 ≤ sizeLine; omega, fun z0 nz0 => ?_⟩
    have sz : Same H (upd H z0 (.lst [.int 0])) := same_new nz0
    refine ⟨_, rfl, b, _, rfl, .inl (SqL.of (sz _ _ hb)), _, _, rfl, rfl, z0, _, _, rfl, rfl, upd_same, by omega, by rw [List.length_map]; omega, by rw [lb]; show 1 * (ys.length + 1) ≤ sizeLine; omega, fun r0 nr0 => ?_⟩
    rw [lb, flat_rep]
    have sr : Same H (upd (upd H z0 (.lst [.int 0])) r0 (.lst ((List.range (ys.length + 1)).map fun _ => V.int 0))) := same_trans sz (same_new nr0)
    have er : upd (upd H z0 (.lst [.int 0])) r0 (.lst ((List.range (ys.length + 1)).map fun _ => V.int 0)) r0 = _ := upd_same
    have nr : H r0 = none := same_none sz nr0
    generalize upd (upd H z0 (.lst [.int 0])) r0 (.lst ((List.range (ys.length + 1)).map fun _ => V.int 0)) = H1 at sr er
    refine ⟨by show 1 ≤ sizeLine; omega, fun t nt => ?_⟩
    have nt0 : H t = none := same_none sr nt
    have st : Same H (upd H1 t (.lst [.ref r0])) := same_trans sr (same_new nt)
    have ert : upd H1 t (.lst [.ref r0]) r0 = _ := same_new nt _ _ er
    have ntr : r0 ≠ t := ne_of_none er nt
    clear nz0 sz nr0
    -- for i in reversed(range(len(one)))
    refine ⟨_, rfl, a, _, rfl, .inl (SqL.of (st _ _ ha)), _, rfl, by omega, by omega, by omega, by rw [List.length_map]; omega, for_rangeC (fun k σ H' => ∃ (y3 y4 y5 y6 : Option V) (rs : List Addr), σ = [some (.ref a), some (.ref b), some (.ref t), y3, y4, y5, y6] ∧ rs.length = k + 1 ∧ Same H H' ∧ H' t = some (.lst (rs.map V.ref)) ∧
      (∀ i r, rs[i]? = some r → r ≠ t ∧ H' r = some (.lst (rowV xs ys (xs.length - i))))) ⟨none, none, none, none, [r0], rfl, rfl, st, upd_same, ?_⟩ ?_ ?_⟩
    · intro i r e
      cases i with
      | zero =>
        cases e
        rw [rowV_end (by omega)]
        exact ⟨ntr, ert⟩
      | succ i => cases e
    · rintro k σ H' hk ⟨y3, y4, y5, y6, rs, rfl, lrs, sH, et, hrow⟩
      have lx : (((xs.map lnV).length : Int) - 0).toNat = xs.length := by
        rw [List.length_map]
        omega
      rw [lx] at hk
      have ei : (0 : Int) + (((((xs.map lnV).length : Int) - 0).toNat : Nat) : Int) - 1 + (k : Int) * -1 = ((xs.length - 1 - k : Nat) : Int) := by
        rw [lx]
        omega
      rw [ei]
      clear ei
      generalize hi : xs.length - 1 - k = i
      -- below, row = table[-1], [0] * (len(other) + 1)
      obtain ⟨rb, erb⟩ : ∃ rb, rs[k]? = some rb := ⟨rs[k], List.getElem?_eq_getElem (by omega)⟩
      obtain ⟨nbt, eb⟩ := hrow k rb erb
      rw [show xs.length - k = i + 1 by omega] at eb
      have elast : (rs.map V.ref)[(rs.map V.ref).length - 1]? = some (.ref rb) := by
        rw [List.length_map, lrs]
        exact get_map _ erb
      refine ⟨_, rfl, _, rfl, t, _, -1, .ref rb, rfl, rfl, SqL.of et, atI_end elast, ?_⟩
      refine ⟨by show 1 ≤ sizeLine; omega, fun z0 nz0 => ?_⟩
      have sz : Same H' (upd H' z0 (.lst [.int 0])) := same_new nz0
      refine ⟨_, rfl, b, _, rfl, .inl (SqL.of (sz _ _ (sH _ _ hb))), _, _, rfl, rfl, z0, _, _, rfl, rfl, upd_same, by omega, by rw [List.length_map]; omega, by rw [lb]; show 1 * (ys.length + 1) ≤ sizeLine; omega, fun R nR => ?_⟩
      rw [lb, flat_rep, ← rowP_zero xs ys i]
      generalize upd H' z0 (.lst [.int 0]) = H2 at sz nR
      clear nz0
      have s2 : Same H H2 := same_trans sH sz
      have nR' : H' R = none := same_none sz nR
      refine ⟨_, _, rfl, ?_⟩
      have sR : ∀ k2, Same H' (upd H2 R (.lst (rowP xs ys i k2))) := fun k2 => same_trans sz (same_new nR)
      -- for j in reversed(range(len(other)))
      refine ⟨_, rfl, b, _, rfl, .inl (SqL.of (sR 0 _ _ (sH _ _ hb))), _, rfl, by omega, by omega, by omega, by rw [List.length_map]; omega, for_rangeC (fun k2 σ H3 => ∃ (y6 : Option V), σ = [some (.ref a), some (.ref b), some (.ref t), some (.int (i : Int)), some (.ref rb), some (.ref R), y6] ∧ H3 = upd H2 R (.lst (rowP xs ys i k2)))
        ⟨y6, rfl, rfl⟩ ?_ ?_⟩
      · rintro k2 σ H3 hk2 ⟨y6, rfl, rfl⟩
        have ly : (((ys.map V.str).length : Int) - 0).toNat = ys.length := by
          rw [List.length_map]
          omega
        rw [ly] at hk2
        have ej : (0 : Int) + (((((ys.map V.str).length : Int) - 0).toNat : Nat) : Int) - 1 + (k2 : Int) * -1 = ((ys.length - 1 - k2 : Nat) : Int) := by
          rw [ly]
          omega
        rw [ej]
        clear ej
        have hP := sR k2
        have eR : upd H2 R (.lst (rowP xs ys i k2)) R = _ := upd_same
        have hset := rowP_set xs ys i k2 hk2
        generalize hj : ys.length - 1 - k2 = j at hset
        have li : i < xs.length := by omega
        have lj : j < ys.length := by omega
        have gx := List.getElem?_eq_getElem li
        have gy := List.getElem?_eq_getElem lj
        have key := L_step gx gy
        refine ⟨_, rfl, _, rfl, a, _, _, _, rfl, rfl, SqL.of (hP _ _ (sH _ _ ha)), atI_nat (get_map _ gx), ?_⟩
        refine ⟨_, rfl, _, rfl, b, _, _, _, rfl, rfl, SqL.of (hP _ _ (sH _ _ hb)), atI_nat (get_map _ gy), scal_ln _ _, _, rfl, ?_⟩
        rw [dec_ln]
        have e1 : decide (xs[i] = some ys[j]) = true → ((L xs ys (i + 1) (j + 1) : Nat) : Int) + 1 = ((L xs ys i j : Nat) : Int) := fun h => by
          rw [key, if_pos (of_decide_eq_true h)]
          omega
        have e2 : ¬ decide (xs[i] = some ys[j]) = true → (if ((L xs ys i (j + 1) : Nat) : Int) > ((L xs ys (i + 1) j : Nat) : Int) then ((L xs ys i (j + 1) : Nat) : Int) else ((L xs ys (i + 1) j : Nat) : Int)) = ((L xs ys i j : Nat) : Int) := fun h => by
          rw [key, if_neg (fun z => h (decide_eq_true z))]
          split <;> omega
        refine ite2 (fun h1 => ?_) (fun h1 => ?_)
        · refine ⟨_, rfl, _, rfl, _, _, rfl, rfl, rb, _, _, _, rfl, rfl, SqL.of (hP _ _ eb), atI_s (rowV_get (by omega)), _, _, rfl, rfl, ?_⟩
          refine ⟨_, rfl, _, rfl, R, _, _, j, rfl, rfl, eR, ixN_nat (by rw [rowP_len]; omega), _, rfl, ?_⟩
          rw [upd_upd, ← hset, ← e1 h1]
        · refine ⟨_, rfl, _, rfl, rb, _, _, _, rfl, rfl, SqL.of (hP _ _ eb), atI_nat (rowV_get (by omega)), _, rfl, _, rfl, _, _, rfl, rfl, R, _, _, _, rfl, rfl, SqL.of eR, atI_s (rowP_get (by omega) (by omega)), _, _, rfl, ?_⟩
          refine ⟨_, rfl, _, rfl, R, _, _, j, rfl, rfl, eR, ixN_nat (by rw [rowP_len]; omega), _, rfl, ?_⟩
          rw [upd_upd, ← hset, ← e2 h1]
      · rintro σ H3 ⟨y6, rfl, rfl⟩
        have ly : (((ys.map V.str).length : Int) - 0).toNat = ys.length := by
          rw [List.length_map]
          omega
        rw [ly, rowP_end]
        have hP := sR ys.length
        rw [rowP_end] at hP
        have nRt : t ≠ R := ne_of_none et nR'
        refine ⟨_, rfl, .inl ⟨rfl, _, SqL.of (hP _ _ et)⟩, _, rfl, t, _, _, rfl, rfl, hP _ _ et, by rw [List.length_map]; omega, ?_⟩
        refine ⟨_, _, _, _, rs ++ [R], rfl, by rw [List.length_append, lrs]; rfl, ?_, ?_, ?_⟩
        · intro q o e
          rw [upd_ne (ne_of_none e nt0)]
          exact hP _ _ (sH _ _ e)
        · rw [upd_same, List.map_append]
          rfl
        · intro p r e
          by_cases hp : p < rs.length
          · rw [List.getElem?_append_left hp] at e
            obtain ⟨n1, e1⟩ := hrow p r e
            exact ⟨n1, by rw [upd_ne n1]; exact hP _ _ e1⟩
          · rw [List.getElem?_append_right (by omega)] at e
            have ep : p - rs.length = 0 := by
              have := (List.getElem?_eq_some_iff.mp e).1
              rw [List.length_singleton] at this
              omega
            rw [ep] at e
            cases e
            refine ⟨Ne.symm nRt, ?_⟩
            rw [upd_ne (Ne.symm nRt), upd_same, show xs.length - p = i by omega]
    · rintro σ H' ⟨y3, y4, y5, y6, rs, rfl, lrs, sH, et, hrow⟩
      have lx : (((xs.map lnV).length : Int) - 0).toNat = xs.length := by
        rw [List.length_map]
        omega
      rw [lx] at lrs
      refine ⟨_, rfl, _, rfl, rfl, t, _, rfl, SqL.of et, fun u nu => ?_⟩
      have nu0 := same_none sH nu
      refine q _ u rs.reverse (same_trans sH (same_new nu)) nu0 ⟨by rw [upd_same, List.map_reverse], by rw [List.length_reverse]; exact lrs, ?_⟩
      intro i r e
      have li : i < rs.reverse.length := (List.getElem?_eq_some_iff.mp e).1
      rw [List.length_reverse] at li
      rw [List.getElem?_reverse li] at e
      obtain ⟨_, e1⟩ := hrow _ r e
      rw [upd_ne (ne_of_none e1 nu), e1, show xs.length - (rs.length - 1 - i) = i by omega]
end
end K15
namespace K15
open PySem PySem.Spec PyProof.Rows L2 QR
abbrev sSB : Stmt := topS 2
abbrev nSB : List Str := ["one", "other", "table", "steps", "i", "j"]
theorem scSB : FnScope nSB ["one", "other"] (defScope sSB) := ⟨rfl, rfl, rfl, by decide +kernel, rfl, by decide +kernel, by decide +kernel⟩
def stepO : Step → HO
  | .keep i j => .tup [.str "keep", .int i, .int j]
  | .cut i => .tup [.str "cut", .int i]
  | .put j => .tup [.str "put", .int j]
/-- a list of steps, each at its address -/
def StepsL (H : Hp) (ps : List (Addr × Step)) : Prop := ∀ p ∈ ps, H p.1 = some (stepO p.2)
def refs (ps : List (Addr × Step)) : List V := ps.map fun p => V.ref p.1
theorem refs_len (ps : List (Addr × Step)) : (refs ps).length = ps.length := List.length_map _
theorem step_ne {H : Hp} {a r : Addr} {s : Step} {l : List V} (h : H a = some (stepO s)) (hr : H r = some (.lst l)) : a ≠ r := fun z => by
  rw [z, hr] at h
  cases s <;> cases h
theorem stepO_tup (s : Step) : ∃ l, stepO s = .tup l := by
  cases s <;> exact ⟨_, rfl⟩
section
variable {P : Program} {w : World} {K : PySem.W.Frag} {mg : Str → Option Value} {base : Heap}
def spSB : Sp := fun vs H Q _ => ∃ (a b : Addr) (xs : List (Option Str)) (ys : List Str), vs = [.ref a, .ref b] ∧ H a = some (.lst (xs.map lnV)) ∧ H b = some (.lst (ys.map V.str)) ∧ xs.length ≤ 1000 ∧ ys.length ≤ 1000 ∧
  ∀ H' r ps, Same H H' → H r = none → H' r = some (.lst (refs ps)) → StepsL H' ps → ps.map (·.2) = steps xs ys 0 0 → Q (.ref r) H'
theorem ok_SB {f fKB : Addr} {fd fdKB : FuncData} (F : Fun K "steps_between" "steps_between" sSB f fd)
    (GKB : FnOk P w K mg base CX0 1 fKB fdKB ["one", "other"] spKB) (bKB : Binds K fdKB ["one", "other"] []) (gKB : mg "kept_behind" = some (.ref fKB)) (kKB : PySem.W.keepIn K (.ref fKB) = true)
    (m_len : mg "len" = none) : FnOk P w K mg base CX0 2 f fd ["one", "other"] spSB := by
  refine F.ok scSB (fun vs H Q E h => ?_) (fun cdv A outer s H vs Q E hr h => ?_)
  · obtain ⟨a, b, xs, ys, rfl, _⟩ := h
    rfl
  · obtain ⟨a, b, xs, ys, rfl, ha, hb, hx, hy, q⟩ := h
    have hu := hr.units
    have hu1 := hu_of hr
    have hr1 : Room 1 _ := hr.mono (by decide)
    have zl := zl
    refine ⟨_, (pss_cons (ps_set (i := 2) scSB.nd rfl (.inl rfl) (pe_call GKB hr1 (by rfl) gKB kKB bKB .nil pass0 (pa_cons (pv 0) (pa_cons (pv 1) pa_nil))))
      (pss_cons (ps_par3 (i := 3) (j := 4) (l := 5) (by rfl) scSB.nd rfl rfl rfl (by decide) (by decide) (by decide) rfl rfl rfl (pa_cons (pe_lst (pa_nil)) (pa_cons (pe_int) (pa_cons (pe_int) pa_nil))) (by rfl))
      (pss_cons (ps_while PassesOwn.never (PW.pt (pw_or (pt_cmpR op_lt (pv 4) (pe_callB call_len_seq (by rfl) m_len PySem.boot_len (pa_cons (pv 0) pa_nil)) (nomark _)) (pw_or1 (pt_cmpR op_lt (pv 5) (pe_callB call_len_seq (by rfl) m_len PySem.boot_len (pa_cons (pv 1) pa_nil)) (nomark _)))))
      (pss_one (ps_if (PW.pt (pw_and (pt_cmpR op_lt (pv 4) (pe_callB call_len_seq (by rfl) m_len PySem.boot_len (pa_cons (pv 0) pa_nil)) (nomark _)) (pw_and (pt_cmpR op_lt (pv 5) (pe_callB call_len_seq (by rfl) m_len PySem.boot_len (pa_cons (pv 1) pa_nil)) (nomark _)) (pw_and1 (pt_cmpR op_eq (pe_ix ix_list (pv 0) (pv 4) (fun _ _ => rfl)) (pe_ix ix_list (pv 1) (pv 5) (fun _ _ => rfl)) (nomark _))))))
      (pss_cons (ps_expr (pe_bm PySem.F.plainAttrs_list PySem.F.slot_list_append PySem.F.type_list_append mt_append (pv 3) (pa_cons (pe_tup (pa_cons (pe_str) (pa_cons (pv 4) (pa_cons (pv 5) pa_nil)))) pa_nil)))
      (pss_one (ps_par (i := 4) (j := 5) (by rfl) scSB.nd rfl rfl (by decide) rfl rfl (pa_cons (pe_op op_add (pv 4) (pe_int)) (pa_cons (pe_op op_add (pv 5) (pe_int)) pa_nil)) (by rfl)))) (pss_one (ps_if (PW.pt (pw_and (pt_cmpR op_lt (pv 4) (pe_callB call_len_seq (by rfl) m_len PySem.boot_len (pa_cons (pv 0) pa_nil)) (nomark _)) (pw_and1 (pt_cmpR op_eq (pe_ix ix_list (pe_ix ix_list (pv 2) (pe_op op_add (pv 4) (pe_int)) (fun _ _ => rfl)) (pv 5) (fun _ _ => rfl)) (pe_ix ix_list (pe_ix ix_list (pv 2) (pv 4) (fun _ _ => rfl)) (pv 5) (fun _ _ => rfl)) (nomark _)))))
      (pss_cons (ps_expr (pe_bm PySem.F.plainAttrs_list PySem.F.slot_list_append PySem.F.type_list_append mt_append (pv 3) (pa_cons (pe_tup (pa_cons (pe_str) (pa_cons (pv 4) pa_nil))) pa_nil)))
      (pss_one (ps_aug (i := 4) scSB.nd rfl (.inl rfl) (pe_int) ip_add))) (pss_cons (ps_expr (pe_bm PySem.F.plainAttrs_list PySem.F.slot_list_append PySem.F.type_list_append mt_append (pv 3) (pa_cons (pe_tup (pa_cons (pe_str) (pa_cons (pv 5) pa_nil))) pa_nil)))
      (pss_one (ps_aug (i := 5) scSB.nd rfl (.inl rfl) (pe_int) ip_add))))))))
      (pss_one (ps_ret (pv 3)))))), ?_⟩
    refine ⟨_, rfl, _, rfl, a, b, xs, ys, rfl, ha, hb, hx, hy, fun H1 t rs s1 nt tab => ?_⟩
    refine ⟨by show 0 ≤ sizeLine; omega, fun r nr => ?_⟩
    have nr0 : H r = none := same_none s1 nr
    refine ⟨_, _, _, rfl, ?_⟩
    -- while
    refine ⟨fun n σ H' => ∃ (i j : Nat) (ps : List (Addr × Step)), σ = [some (.ref a), some (.ref b), some (.ref t), some (.ref r), some (.int (i : Int)), some (.int (j : Int))] ∧ n = (xs.length - i) + (ys.length - j) ∧ i ≤ xs.length ∧ j ≤ ys.length ∧
      (∀ b o, b ≠ r → H1 b = some o → H' b = some o) ∧ H' r = some (.lst (refs ps)) ∧ StepsL H' ps ∧ ps.map (·.2) ++ steps xs ys i j = steps xs ys 0 0,
      ⟨_, 0, 0, [], rfl, rfl, Nat.zero_le _, Nat.zero_le _, fun b o n e => same_new nr _ _ e, upd_same, fun p hp => (nomatch hp), rfl⟩, ?_⟩
    rintro n σ H' ⟨i, j, ps, rfl, rfl, li, lj, fr, er, hst, hps⟩
    have old : ∀ {b o}, H1 b = some o → H' b = some o := fun {b o} e => fr b o (ne_of_none e nr) e
    have fa : ∀ {H2 : Hp}, Same H' H2 → H2 a = some (.lst (xs.map lnV)) := fun s => s _ _ (old (s1 _ _ ha))
    have fb : ∀ {H2 : Hp}, Same H' H2 → H2 b = some (.lst (ys.map V.str)) := fun s => s _ _ (old (s1 _ _ hb))
    have pl : ps.length ≤ xs.length + ys.length := by
      have h1 := congrArg List.length hps
      have h2 := steps_len (xs := xs) (ys := ys) (xs.length + ys.length) 0 0 (by omega)
      rw [List.length_append, List.length_map] at h1
      omega
    refine or_dec (p := i < xs.length) (q := j < ys.length) (fun R k => ⟨_, rfl, _, rfl, a, _, rfl, .inl (SqL.of (fa same_refl)), _, _, rfl, rfl, _, rfl, to_dec dec_lt (k _ same_refl)⟩)
      (fun _ H2 s2 R k => ⟨_, rfl, _, rfl, b, _, rfl, .inl (SqL.of (fb s2)), _, _, rfl, rfl, _, rfl, to_dec dec_lt (k _ same_refl)⟩) fun H2 s2 => ?_
    refine ite2 (fun h0 => ?_) (fun h0 => ?_)
    · have h0 := of_decide_eq_true h0
      have er2 : H2 r = some (.lst (refs ps)) := s2 _ _ er
      refine ⟨fun σ' H3 => ∃ n', n' < (xs.length - i) + (ys.length - j) ∧ ∃ (i j : Nat) (ps : List (Addr × Step)), σ' = [some (.ref a), some (.ref b), some (.ref t), some (.ref r), some (.int (i : Int)), some (.int (j : Int))] ∧ n' = (xs.length - i) + (ys.length - j) ∧ i ≤ xs.length ∧ j ≤ ys.length ∧
        (∀ b o, b ≠ r → H1 b = some o → H3 b = some o) ∧ H3 r = some (.lst (refs ps)) ∧ StepsL H3 ps ∧ ps.map (·.2) ++ steps xs ys i j = steps xs ys 0 0, fun _ _ z => z, ?_⟩
      -- what each way leaves
      have next : ∀ (H3 : Hp) (u : Addr) (s : Step) (i' j' : Nat), Same H' H3 → H3 u = none → (xs.length - i') + (ys.length - j') < (xs.length - i) + (ys.length - j) → i' ≤ xs.length → j' ≤ ys.length → steps xs ys i j = s :: steps xs ys i' j' →
          ∃ n', n' < (xs.length - i) + (ys.length - j) ∧ ∃ (i j : Nat) (ps_1 : List (Addr × Step)), ([some (.ref a), some (.ref b), some (.ref t), some (.ref r), some (.int (i' : Int)), some (.int (j' : Int))] : List (Option V)) = [some (.ref a), some (.ref b), some (.ref t), some (.ref r), some (.int (i : Int)), some (.int (j : Int))] ∧ n' = (xs.length - i) + (ys.length - j) ∧ i ≤ xs.length ∧ j ≤ ys.length ∧
        (∀ b o, b ≠ r → H1 b = some o → (upd (upd H3 u (stepO s)) r (.lst (refs ps ++ [.ref u]))) b = some o) ∧ (upd (upd H3 u (stepO s)) r (.lst (refs ps ++ [.ref u]))) r = some (.lst (refs ps_1)) ∧ StepsL (upd (upd H3 u (stepO s)) r (.lst (refs ps ++ [.ref u]))) ps_1 ∧ ps_1.map (·.2) ++ steps xs ys i j = steps xs ys 0 0 := by
        intro H3 u s i' j' s3 nu hlt l1 l2 e
        have er3 : H3 r = some (.lst (refs ps)) := s3 _ _ er
        have nur : u ≠ r := fun z => by
          rw [z, er3] at nu
          cases nu
        refine ⟨_, hlt, i', j', ps ++ [(u, s)], rfl, rfl, l1, l2, ?_, ?_, ?_, ?_⟩
        · intro b o n e
          rw [upd_ne n, upd_ne (ne_of_none (s3 _ _ (fr b o n e)) nu)]
          exact s3 _ _ (fr b o n e)
        · rw [upd_same]
          unfold refs
          rw [List.map_append]
          rfl
        · intro p hp
          rcases List.mem_append.mp hp with hp | hp
          · have h1 := s3 _ _ (hst p hp)
            rw [upd_ne (step_ne h1 er3), upd_ne (ne_of_none h1 nu)]
            exact h1
          · cases List.mem_singleton.mp hp
            rw [upd_ne nur]
            exact upd_same
        · rw [List.map_append, List.append_assoc, ← hps, e]
          rfl
      -- if i < len(one) and j < len(other) and one[i] == other[j]
      refine and_dec (p := i < xs.length) (q := j < ys.length ∧ eqAt xs ys i j = true) (fun R k => ⟨_, rfl, _, rfl, a, _, rfl, .inl (SqL.of (fa s2)), _, _, rfl, rfl, _, rfl, to_dec dec_lt (k _ same_refl)⟩)
        (fun h1 H3 s3 R k => and_dec (p := j < ys.length) (q := eqAt xs ys i j = true) (fun R k => ⟨_, rfl, _, rfl, b, _, rfl, .inl (SqL.of (fb (same_trans s2 s3))), _, _, rfl, rfl, _, rfl, to_dec dec_lt (k _ same_refl)⟩)
          (fun h2 H4 s4 R k => ?_) k) fun H3 s3 => ite2 (fun h1 => ?_) (fun h1 => ?_)
      · have gx := List.getElem?_eq_getElem h1
        have gy := List.getElem?_eq_getElem h2
        have s5 := same_trans s2 (same_trans s3 s4)
        refine ⟨_, rfl, _, rfl, a, _, _, _, rfl, rfl, SqL.of (fa s5), atI_nat (get_map _ gx), ?_⟩
        refine ⟨_, rfl, _, rfl, b, _, _, _, rfl, rfl, SqL.of (fb s5), atI_nat (get_map _ gy), scal_ln _ _, _, rfl, ?_⟩
        refine to_dec (y := decide (eqAt xs ys i j = true)) ?_ (k _ same_refl)
        rw [dec_ln, eqAt_of gx gy]
        simp
      · obtain ⟨h1, h2, h3⟩ := of_decide_eq_true h1
        have s5 := same_trans s2 s3
        refine ⟨_, rfl, .inl ⟨rfl, _, SqL.of (s5 _ _ er)⟩, _, rfl, _, rfl, by show 3 ≤ sizeLine; omega, fun u nu => ?_⟩
        refine ⟨r, refs ps, _, rfl, rfl, ?_, by rw [refs_len]; omega, ?_⟩
        · rw [upd_ne (ne_of_none (s5 _ _ er) nu)]
          exact s5 _ _ er
        · refine ⟨_, rfl, _, _, rfl, rfl, _, rfl, _, _, rfl, rfl, _, _, rfl, ?_⟩
          have e1 : ((i : Int) + 1) = ((i + 1 : Nat) : Int) := rfl
          exact next H3 u (.keep i j) (i + 1) (j + 1) s5 nu (by omega) (by omega) (by omega) (steps_keep h3)
      · have ne1 : ¬ eqAt xs ys i j = true := fun z => h1 (decide_eq_true ⟨(eqAt_lt z).1, (eqAt_lt z).2, z⟩)
        have s5 := same_trans s2 s3
        refine and_dec (p := i < xs.length) (q := L xs ys (i + 1) j = L xs ys i j) (fun R k => ⟨_, rfl, _, rfl, a, _, rfl, .inl (SqL.of (fa s5)), _, _, rfl, rfl, _, rfl, to_dec dec_lt (k _ same_refl)⟩)
          (fun h2 H4 s4 R k => ?_) fun H4 s4 => ite2 (fun h2 => ?_) (fun h2 => ?_)
        · have s6 : Same H' H4 := same_trans s5 s4
          have tt : ∀ {b o}, b ≠ r → H1 b = some o → H4 b = some o := fun n e => s6 _ _ (fr _ _ n e)
          have et : H4 t = some (.lst (rs.map V.ref)) := s6 _ _ (old tab.at_)
          obtain ⟨r1, g1⟩ : ∃ r1, rs[i + 1]? = some r1 := ⟨rs[i + 1]'(by have := tab.len; omega), List.getElem?_eq_getElem (by have := tab.len; omega)⟩
          obtain ⟨r0, g0⟩ : ∃ r0, rs[i]? = some r0 := ⟨rs[i]'(by have := tab.len; omega), List.getElem?_eq_getElem (by have := tab.len; omega)⟩
          have e1 : H4 r1 = _ := s6 _ _ (old (tab.row _ _ g1))
          have e0 : H4 r0 = _ := s6 _ _ (old (tab.row _ _ g0))
          refine ⟨_, rfl, _, rfl, _, _, rfl, rfl, t, _, _, _, rfl, rfl, SqL.of et, atI_s (get_map _ g1), _, rfl, r1, _, _, _, rfl, rfl, SqL.of e1, atI_nat (rowV_get lj), ?_⟩
          refine ⟨_, rfl, _, rfl, t, _, _, _, rfl, rfl, SqL.of et, atI_nat (get_map _ g0), _, rfl, r0, _, _, _, rfl, rfl, SqL.of e0, atI_nat (rowV_get lj), rfl, _, rfl, ?_⟩
          exact to_dec dec_nat (k _ same_refl)
        · obtain ⟨h2, h3⟩ := of_decide_eq_true h2
          have s6 := same_trans s5 s4
          refine ⟨_, rfl, .inl ⟨rfl, _, SqL.of (s6 _ _ er)⟩, _, rfl, by show 2 ≤ sizeLine; omega, fun u nu => ?_⟩
          refine ⟨r, refs ps, _, rfl, rfl, ?_, by rw [refs_len]; omega, ?_⟩
          · rw [upd_ne (ne_of_none (s6 _ _ er) nu)]
            exact s6 _ _ er
          · refine ⟨_, rfl, _, _, rfl, rfl, ?_⟩
            exact next H4 u (.cut i) (i + 1) j s6 nu (by omega) (by omega) (by omega) (steps_cut ne1 h2 h3)
        · have ne2 : ¬ (i < xs.length ∧ L xs ys (i + 1) j = L xs ys i j) := fun z => h2 (decide_eq_true z)
          have h3 := put_lt h0 ne2
          have s6 := same_trans s5 s4
          refine ⟨_, rfl, .inl ⟨rfl, _, SqL.of (s6 _ _ er)⟩, _, rfl, by show 2 ≤ sizeLine; omega, fun u nu => ?_⟩
          refine ⟨r, refs ps, _, rfl, rfl, ?_, by rw [refs_len]; omega, ?_⟩
          · rw [upd_ne (ne_of_none (s6 _ _ er) nu)]
            exact s6 _ _ er
          · refine ⟨_, rfl, _, _, rfl, rfl, ?_⟩
            exact next H4 u (.put j) i (j + 1) s6 nu (by omega) (by omega) (by omega) (steps_put ne1 ne2 h3)
    · have h0 : ¬ (i < xs.length ∨ j < ys.length) := fun z => h0 (decide_eq_true z)
      refine ⟨_, rfl, ?_⟩
      have e : steps xs ys i j = [] := steps_end (by omega) (by omega)
      rw [e, List.append_nil] at hps
      exact q H2 r ps (fun b o e => s2 _ _ (old (s1 _ _ e))) nr0 (s2 _ _ er) (fun p hp => s2 _ _ (hst p hp)) hps
end
end K15
namespace K15
open PySem PySem.Spec PyProof.Rows L2 QR
open PySem.W (Datum)
abbrev sSR : Stmt := topS 3
abbrev nSR : List Str := ["one", "other", "steps", "i", "j", "step"]
theorem scSR : FnScope nSR ["one", "other", "steps"] (defScope sSR) := ⟨rfl, rfl, rfl, by decide +kernel, rfl, by decide +kernel, by decide +kernel⟩
abbrev sKP : Stmt := topS 4
abbrev nKP : List Str := ["steps", "step"]
theorem scKP : FnScope nKP ["steps"] (defScope sKP) := ⟨rfl, rfl, rfl, by decide +kernel, rfl, by decide +kernel, by decide +kernel⟩
def stepD : Step → PyData
  | .keep i j => .tuple [.str "keep", .int i, .int j]
  | .cut i => .tuple [.str "cut", .int i]
  | .put j => .tuple [.str "put", .int j]
theorem sne {a b : String} (h : (Str.ofString a == Str.ofString b) = false) (x y : List PyData) : PyData.eqv (.tuple (.str a :: x)) (.tuple (.str b :: y)) = false := by
  rw [PyData.eqv, PyData.eqvAll, PyData.eqv]
  show ((Str.ofString a == Str.ofString b) && PyData.eqvAll x y) = false
  rw [h]
  rfl
theorem seq_ {a : String} (x y : List PyData) : PyData.eqv (.tuple (.str a :: x)) (.tuple (.str a :: y)) = PyData.eqvAll x y := by
  rw [PyData.eqv, PyData.eqvAll, PyData.eqv]
  show ((Str.ofString a == Str.ofString a) && PyData.eqvAll x y) = _
  rw [beq_self_eq_true, Bool.true_and]
theorem one_ (i j : Nat) (x y : List PyData) : PyData.eqvAll (.int (i : Int) :: x) (.int (j : Int) :: y) = (decide (i = j) && PyData.eqvAll x y) := by
  rw [PyData.eqvAll, PyData.eqv]
  congr 1
  rw [Bool.eq_iff_iff, beq_iff_eq, decide_eq_true_eq]
  exact Int.ofNat_inj
theorem stepD_eqv : ∀ s t : Step, PyData.eqv (stepD s) (stepD t) = decide (s = t) := by
  intro s t
  cases s <;> cases t
  case keep.keep a b c d =>
    show PyData.eqv (.tuple _) (.tuple _) = _
    rw [seq_, one_, one_, show PyData.eqvAll [] [] = true by rw [PyData.eqvAll], Bool.and_true, ← Bool.decide_and]
    exact decide_eq_decide.mpr (by rw [Step.keep.injEq])
  case cut.cut a c =>
    show PyData.eqv (.tuple _) (.tuple _) = _
    rw [seq_, one_, show PyData.eqvAll [] [] = true by rw [PyData.eqvAll], Bool.and_true]
    exact decide_eq_decide.mpr (by rw [Step.cut.injEq])
  case put.put a c =>
    show PyData.eqv (.tuple _) (.tuple _) = _
    rw [seq_, one_, show PyData.eqvAll [] [] = true by rw [PyData.eqvAll], Bool.and_true]
    exact decide_eq_decide.mpr (by rw [Step.put.injEq])
  all_goals
    rw [decide_eq_false (fun z => nomatch z)]
    exact sne (by decide +kernel) _ _
instance : Datum Step where
  toD := stepD
  plain s := by cases s <;> rfl
  eqv := stepD_eqv
  depth := 1
  depth_le s := by cases s <;> simp [stepD, PyData.depth, PyData.depthAll]
section
variable {P : Program} {w : World} {K : PySem.W.Frag} {mg : Str → Option Value} {base : Heap}
theorem dp_step {H : Hp} {a : Addr} {s : Step} (h : H a = some (stepO s)) : Dp K H (.ref a) (Datum.toD s) := by
  cases s with
  | keep i j => exact .tup (SqT.of h) (.cons (.str _) (.cons (.int _) (.cons (.int _) .nil)))
  | cut i => exact .tup (SqT.of h) (.cons (.str _) (.cons (.int _) .nil))
  | put j => exact .tup (SqT.of h) (.cons (.str _) (.cons (.int _) .nil))
theorem dp_all {H : Hp} : ∀ {ps : List (Addr × Step)}, StepsL H ps → DpAll K H (refs ps) ((ps.map (·.2)).map Datum.toD)
  | [], _ => .nil
  | p :: ps, h => .cons (dp_step (h p List.mem_cons_self)) (dp_all fun q hq => h q (List.mem_cons_of_mem _ hq))
theorem dp_steps {H : Hp} {r : Addr} {ps : List (Addr × Step)} (h : H r = some (.lst (refs ps))) (hp : StepsL H ps) : Dp K H (.ref r) (Datum.toD (ps.map (·.2))) := .lst (SqL.of h) (dp_all hp)
def spSR : Sp := fun vs H Q _ => ∃ (a b r : Addr) (xs : List (Option Str)) (ys : List Str) (ps : List (Addr × Step)), vs = [.ref a, .ref b, .ref r] ∧ H a = some (.lst (xs.map lnV)) ∧ H b = some (.lst (ys.map V.str)) ∧ H r = some (.lst (refs ps)) ∧ StepsL H ps ∧
  ∀ H', Same H H' → Q (.bl (right xs ys (ps.map (·.2)) 0 0)) H'
theorem ok_SR {f : Addr} {fd : FuncData} (F : Fun K "script_right" "script_right" sSR f fd)
    (m_len : mg "len" = none) : FnOk P w K mg base CX0 1 f fd ["one", "other", "steps"] spSR := by
  refine F.ok scSR (fun vs H Q E h => ?_) (fun cdv A outer s H vs Q E hr h => ?_)
  · obtain ⟨a, b, r, xs, ys, ps, rfl, _⟩ := h
    rfl
  · obtain ⟨a, b, r, xs, ys, ps, rfl, ha, hb, hr0, hst, q⟩ := h
    have hu := hr.units
    have hu1 := hu_of hr
    have zl := zl
    refine ⟨_, (pss_cons (ps_asg (pe_tup (pa_cons (pe_int) (pa_cons (pe_int) pa_nil))) (pg_tup (by rfl) (pgs_cons (pg_name (i := 3) scSR.nd rfl (.inl rfl)) (pgs_cons (pg_name (i := 4) scSR.nd rfl (.inl rfl)) pgs_nil))))
      (pss_cons (ps_for PassesOwn.never rfl (pi_list (pv 2)) (pg_name (i := 5) scSR.nd rfl (.inl rfl))
      (pss_one (ps_if (PW.pt (pw_and (pt_cmpR (op_eqP hu) (pv 5) (pe_tup (pa_cons (pe_str) (pa_cons (pv 3) (pa_cons (pv 4) pa_nil)))) (nomark _)) (pw_and (pt_cmpR op_lt (pv 3) (pe_callB call_len_seq (by rfl) m_len PySem.boot_len (pa_cons (pv 0) pa_nil)) (nomark _)) (pw_and (pt_cmpR op_lt (pv 4) (pe_callB call_len_seq (by rfl) m_len PySem.boot_len (pa_cons (pv 1) pa_nil)) (nomark _)) (pw_and1 (pt_cmpR op_eq (pe_ix ix_list (pv 0) (pv 3) (fun _ _ => rfl)) (pe_ix ix_list (pv 1) (pv 4) (fun _ _ => rfl)) (nomark _)))))))
      (pss_one (ps_par (i := 3) (j := 4) (by rfl) scSR.nd rfl rfl (by decide) rfl rfl (pa_cons (pe_op op_add (pv 3) (pe_int)) (pa_cons (pe_op op_add (pv 4) (pe_int)) pa_nil)) (by rfl))) (pss_one (ps_if (PW.pt (pw_and (pt_cmpR (op_eqP hu) (pv 5) (pe_tup (pa_cons (pe_str) (pa_cons (pv 3) pa_nil))) (nomark _)) (pw_and1 (pt_cmpR op_lt (pv 3) (pe_callB call_len_seq (by rfl) m_len PySem.boot_len (pa_cons (pv 0) pa_nil)) (nomark _)))))
      (pss_one (ps_aug (i := 3) scSR.nd rfl (.inl rfl) (pe_int) ip_add)) (pss_one (ps_if (PW.pt (pw_and (pt_cmpR (op_eqP hu) (pv 5) (pe_tup (pa_cons (pe_str) (pa_cons (pv 4) pa_nil))) (nomark _)) (pw_and1 (pt_cmpR op_lt (pv 4) (pe_callB call_len_seq (by rfl) m_len PySem.boot_len (pa_cons (pv 1) pa_nil)) (nomark _)))))
      (pss_one (ps_aug (i := 4) scSR.nd rfl (.inl rfl) (pe_int) ip_add)) (pss_one (ps_ret (pe_bl))))))))))
      (pss_one (ps_ret (pe_and (pe_cmpR op_eq (pv 3) (pe_callB call_len_seq (by rfl) m_len PySem.boot_len (pa_cons (pv 0) pa_nil)) (nomark _)) (pe_one (pe_cmpR op_eq (pv 4) (pe_callB call_len_seq (by rfl) m_len PySem.boot_len (pa_cons (pv 1) pa_nil)) (nomark _)))))))), ?_⟩
    refine ⟨by show 2 ≤ sizeLine; omega, fun z nz => ⟨z, _, rfl, SqT.of upd_same, rfl, _, _, rfl, _, _, rfl, rfl, ?_⟩⟩
    have sz : Same H (upd H z (.tup [.int 0, .int 0])) := same_new nz
    generalize upd H z (.tup [.int 0, .int 0]) = H0 at sz
    refine ⟨_, rfl, r, rfl, ⟨_, SqL.of (sz _ _ hr0)⟩, for_list (xs := refs ps) (fun k σ H' => ∃ (i j : Nat) (y5 : Option V), σ = [some (.ref a), some (.ref b), some (.ref r), some (.int (i : Int)), some (.int (j : Int)), y5] ∧ Same H H' ∧
      right xs ys (ps.map (·.2)) 0 0 = right xs ys ((ps.drop k).map (·.2)) i j) ⟨0, 0, none, rfl, sz, rfl⟩ ?_ ?_ ?_⟩
    · rintro k σ H' _ ⟨i, j, y5, rfl, s1, _⟩
      exact SqL.of (s1 _ _ hr0)
    · rintro k x σ H' hx ⟨i, j, y5, rfl, s1, e⟩
      obtain ⟨⟨c, s⟩, hp, rfl⟩ := map_get hx
      have hc : H c = some (stepO s) := hst _ (List.mem_of_getElem? hp)
      have fa : ∀ {H2 : Hp}, Same H' H2 → H2 a = some (.lst (xs.map lnV)) := fun s => s _ _ (s1 _ _ ha)
      have fb : ∀ {H2 : Hp}, Same H' H2 → H2 b = some (.lst (ys.map V.str)) := fun s => s _ _ (s1 _ _ hb)
      have fc : ∀ {H2 : Hp}, Same H' H2 → H2 c = some (stepO s) := fun s => s _ _ (s1 _ _ hc)
      have hd : (ps.drop k).map (·.2) = s :: (ps.drop (k + 1)).map (·.2) := by
        obtain ⟨l1, l2⟩ := List.getElem?_eq_some_iff.mp hp
        rw [List.drop_eq_getElem_cons l1, l2]
        rfl
      rw [hd, right_cons] at e
      -- step == ("keep", i, j) and ..
      refine and_dec (p := s = .keep i j) (q := i < xs.length ∧ j < ys.length ∧ eqAt xs ys i j = true)
        (fun R k => ⟨_, rfl, _, rfl, _, rfl, by show 3 ≤ sizeLine; omega, fun u nu => eq_dat (a := s) (b := Step.keep i j) (dp_step (same_new nu _ _ (fc same_refl))) (dp_step upd_same) (by decide) ⟨_, rfl, k _ (same_new nu)⟩⟩)
        (fun _ H2 s2 R k => and_dec (p := i < xs.length) (q := j < ys.length ∧ eqAt xs ys i j = true) (fun R k => ⟨_, rfl, _, rfl, a, _, rfl, .inl (SqL.of (fa s2)), _, _, rfl, rfl, _, rfl, to_dec dec_lt (k _ same_refl)⟩)
          (fun h1 H3 s3 R k => and_dec (p := j < ys.length) (q := eqAt xs ys i j = true) (fun R k => ⟨_, rfl, _, rfl, b, _, rfl, .inl (SqL.of (fb (same_trans s2 s3))), _, _, rfl, rfl, _, rfl, to_dec dec_lt (k _ same_refl)⟩)
          (fun h2 H4 s4 R k => ?_) k) k) fun H2 s2 => ite2 (fun h1 => ?_) (fun h1 => ?_)
      · have gx := List.getElem?_eq_getElem h1
        have gy := List.getElem?_eq_getElem h2
        have s5 := same_trans s2 (same_trans s3 s4)
        refine ⟨_, rfl, _, rfl, a, _, _, _, rfl, rfl, SqL.of (fa s5), atI_nat (get_map _ gx), ?_⟩
        refine ⟨_, rfl, _, rfl, b, _, _, _, rfl, rfl, SqL.of (fb s5), atI_nat (get_map _ gy), scal_ln _ _, _, rfl, ?_⟩
        refine to_dec (y := decide (eqAt xs ys i j = true)) ?_ (k _ same_refl)
        rw [dec_ln, eqAt_of gx gy]
        simp
      · rw [if_pos (of_decide_eq_true h1)] at e
        exact ⟨_, rfl, _, _, rfl, rfl, _, rfl, _, _, rfl, rfl, _, _, rfl, i + 1, j + 1, _, rfl, same_trans s1 s2, e⟩
      · rw [if_neg (fun z => h1 (decide_eq_true z))] at e
        refine and_dec (p := s = .cut i) (q := i < xs.length)
          (fun R k => ⟨_, rfl, _, rfl, by show 2 ≤ sizeLine; omega, fun u nu => eq_dat (a := s) (b := Step.cut i) (dp_step (same_new nu _ _ (fc s2))) (dp_step upd_same) (by decide) ⟨_, rfl, k _ (same_new nu)⟩⟩)
          (fun _ H3 s3 R k => ⟨_, rfl, _, rfl, a, _, rfl, .inl (SqL.of (fa (same_trans s2 s3))), _, _, rfl, rfl, _, rfl, to_dec dec_lt (k _ same_refl)⟩) fun H3 s3 => ite2 (fun h2 => ?_) (fun h2 => ?_)
        · rw [if_pos (of_decide_eq_true h2)] at e
          exact ⟨_, rfl, _, _, rfl, rfl, i + 1, j, _, rfl, same_trans s1 (same_trans s2 s3), e⟩
        · rw [if_neg (fun z => h2 (decide_eq_true z))] at e
          have s4 := same_trans s2 s3
          refine and_dec (p := s = .put j) (q := j < ys.length)
            (fun R k => ⟨_, rfl, _, rfl, by show 2 ≤ sizeLine; omega, fun u nu => eq_dat (a := s) (b := Step.put j) (dp_step (same_new nu _ _ (fc s4))) (dp_step upd_same) (by decide) ⟨_, rfl, k _ (same_new nu)⟩⟩)
            (fun _ H4 s5 R k => ⟨_, rfl, _, rfl, b, _, rfl, .inl (SqL.of (fb (same_trans s4 s5))), _, _, rfl, rfl, _, rfl, to_dec dec_lt (k _ same_refl)⟩) fun H4 s5 => ite2 (fun h3 => ?_) (fun h3 => ?_)
          · rw [if_pos (of_decide_eq_true h3)] at e
            exact ⟨_, rfl, _, _, rfl, rfl, i, j + 1, _, rfl, same_trans s1 (same_trans s4 s5), e⟩
          · rw [if_neg (fun z => h3 (decide_eq_true z))] at e
            have := q H4 (same_trans s1 (same_trans s4 s5))
            rw [e] at this
            exact this
    · rintro σ H' ⟨i, j, y5, rfl, s1, e⟩
      have q1 := q H' s1
      rw [List.drop_eq_nil_of_le (by rw [refs_len]; exact Nat.le_refl _)] at e
      have e2 : right xs ys (ps.map (·.2)) 0 0 = (decide (i = xs.length) && decide (j = ys.length)) := e
      rw [e2] at q1
      have d1 : decide (V.int (i : Int) = V.int (((xs.map lnV).length : Nat) : Int)) = decide (i = xs.length) := by rw [dec_nat, List.length_map]
      have d2 : decide (V.int (j : Int) = V.int (((ys.map V.str).length : Nat) : Int)) = decide (j = ys.length) := by rw [dec_nat, List.length_map]
      refine ⟨_, rfl, _, rfl, a, _, rfl, .inl (SqL.of (s1 _ _ ha)), rfl, _, rfl, ?_⟩
      rw [d1]
      refine ite2 (fun h1 => ?_) (fun h1 => ?_)
      · refine ⟨_, rfl, _, rfl, b, _, rfl, .inl (SqL.of (s1 _ _ hb)), rfl, ?_⟩
        rw [d2]
        rw [h1] at q1
        exact q1
      · rw [Bool.eq_false_iff.mpr h1] at q1
        exact q1
/-! ### kept -/
def spKP : Sp := fun vs H Q _ => ∃ (r : Addr) (ps : List (Addr × Step)), vs = [.ref r] ∧ H r = some (.lst (refs ps)) ∧ StepsL H ps ∧ ps.length ≤ 1000000 ∧ ∀ H', Same H H' → Q (.int (keeps (ps.map (·.2)) : Nat)) H'
/-- the kept ones of the first k steps -/
def keptR (ps : List (Addr × Step)) : List V := refs (ps.filter fun p => isKeep p.2)
theorem keptR_len (ps : List (Addr × Step)) : (keptR ps).length = keeps (ps.map (·.2)) := by
  unfold keptR keeps
  rw [refs_len, List.filter_map, List.length_map]
  rfl
theorem first_step {H : Hp} {a : Addr} {s : Step} (h : H a = some (stepO s)) : ∃ l, SqT K H a (V.str (match s with | .keep _ _ => "keep" | .cut _ => "cut" | .put _ => "put") :: l) := by
  cases s with
  | keep i j => exact ⟨[.int i, .int j], SqT.of h⟩
  | cut i => exact ⟨[.int i], SqT.of h⟩
  | put j => exact ⟨[.int j], SqT.of h⟩
def wordS (s : Step) : Str := match s with
  | .keep _ _ => "keep"
  | .cut _ => "cut"
  | .put _ => "put"
theorem word_keep (s : Step) : decide (V.str (wordS s) = V.str (Str.ofString "keep")) = isKeep s := by
  cases s with
  | keep i j => exact (by decide +kernel : decide (V.str (Str.ofString "keep") = V.str (Str.ofString "keep")) = true)
  | cut i => exact (by decide +kernel : decide (V.str (Str.ofString "cut") = V.str (Str.ofString "keep")) = false)
  | put i => exact (by decide +kernel : decide (V.str (Str.ofString "put") = V.str (Str.ofString "keep")) = false)
theorem ok_KP {f : Addr} {fd : FuncData} (F : Fun K "kept" "kept" sKP f fd)
    (m_len : mg "len" = none) : FnOk P w K mg base CX0 1 f fd ["steps"] spKP := by
  refine F.ok scKP (fun vs H Q E h => ?_) (fun cdv A outer s H vs Q E hr h => ?_)
  · obtain ⟨r, ps, rfl, _⟩ := h
    rfl
  · obtain ⟨r, ps, rfl, hr0, hst, hl, q⟩ := h
    have hu := hr.units
    have hu1 := hu_of hr
    have zl := zl
    refine ⟨_, (pss_one (ps_ret (pe_callB call_len_seq (by rfl) m_len PySem.boot_len (pa_cons (pe_lc (own := [("step", 1)]) (g := gName 1) (tt := tTest (tOp rEq (tOp (rIxT K) (tVar 1) (tC (.int 0))) (tC (.str "keep")))) (te := tVar 1) rfl scKP.nd (pi_list (pv 0)) (blkOk_by (N := nKP) (sc := defScope sKP) (by decide +kernel)) (fun _ _ _ _ _ => by exact pg_name (i := 1) scKP.nd rfl (.inl rfl)) (fun _ _ _ _ _ => by exact pts_one (pt_cmpR op_eq (pe_ix ix_tup (pv 1) (pe_int) (fun _ _ => rfl)) (pe_str) (nomark _))) (fun _ _ _ _ _ => by exact pv 1)) pa_nil)))), ?_⟩
    refine ⟨_, rfl, r, rfl, ⟨_, SqL.of hr0⟩, fun D nD => ?_⟩
    refine lc_list (xs := refs ps) (fun k H2 => H2 = upd H D (.lst (keptR (ps.take k)))) rfl ?_ ?_ ?_
    · rintro k H2 _ rfl
      exact SqL.of (same_new nD _ _ hr0)
    · rintro k x H2 hx rfl
      obtain ⟨⟨c, s⟩, hp, rfl⟩ := map_get hx
      have hc : H c = some (stepO s) := hst _ (List.mem_of_getElem? hp)
      have et : ps.take (k + 1) = ps.take k ++ [(c, s)] := by rw [List.take_add_one, hp]; rfl
      obtain ⟨l, hs⟩ : ∃ l, SqT K (upd H D (.lst (keptR (ps.take k)))) c (V.str (wordS s) :: l) := first_step (same_new nD _ _ hc)
      refine ⟨rfl, ?_⟩
      refine ⟨_, rfl, c, _, 0, _, rfl, rfl, hs, atI_nat (j := 0) rfl, rfl, _, rfl, ?_⟩
      rw [word_keep]
      refine ite2 (fun h1 => ?_) (fun h1 => ?_)
      · refine ⟨_, rfl, _, upd_same, ?_, ?_⟩
        · rw [keptR_len]
          have := List.length_filter_le isKeep ((ps.take k).map (·.2))
          rw [List.length_map, List.length_take] at this
          unfold keeps
          omega
        · rw [upd_upd, et]
          unfold keptR
          rw [List.filter_append, show List.filter (fun p => isKeep p.2) [(c, s)] = [(c, s)] by simp [h1]]
          unfold refs
          rw [List.map_append]
          rfl
      · show upd H D _ = upd H D _
        rw [et]
        unfold keptR
        rw [List.filter_append, show List.filter (fun p => isKeep p.2) [(c, s)] = [] by simp [h1], List.append_nil]
    · rintro H2 rfl
      rw [refs_len, List.take_length]
      refine ⟨D, _, rfl, .inl (SqL.of upd_same), ?_⟩
      rw [keptR_len]
      exact q _ (same_new nD)
end
end K15
namespace K15
open PySem PySem.Spec PyProof.Rows L2 QR
open PySem.W (Datum)
abbrev sMO : Stmt := topS 15
abbrev nMO : List Str := ["one", "other", "found", "i", "j", "best"]
theorem scMO : FnScope nMO ["one", "other"] (defScope sMO) := ⟨rfl, rfl, rfl, by decide +kernel, rfl, by decide +kernel, by decide +kernel⟩
theorem dget2 {H : Hp} {d u : Addr} {kvs : List (List Key × V)} {p q : Int} {v : V} (e : H d = some (.dT kvs)) (eu : H u = some (.tup [.int p, .int q])) (hv : valV kvs [.inl p, .inl q] = some v) : DGet H d (.ref u) (some v) := by
  have := DGet.t (k := [.inl p, .inl q]) e eu
  rw [hv] at this
  exact this
/-- what the law's table holds: the places behind (i, j) -/
def Holds (xs : List (Option Str)) (ys : List Str) (kvs : List (List Key × V)) (S : Nat → Nat → Prop) : Prop := ∀ i j : Nat, S i j → i ≤ xs.length → j ≤ ys.length → valV kvs [.inl (i : Int), .inl (j : Int)] = some (.int (L xs ys i j : Nat))
section
variable {P : Program} {w : World} {K : PySem.W.Frag} {mg : Str → Option Value} {base : Heap}
def spMO : Sp := fun vs H Q _ => ∃ (a b : Addr) (xs : List (Option Str)) (ys : List Str), vs = [.ref a, .ref b] ∧ H a = some (.lst (xs.map lnV)) ∧ H b = some (.lst (ys.map V.str)) ∧ xs.length ≤ 1000 ∧ ys.length ≤ 1000 ∧
  ∀ H' d kvs, Same H H' → H d = none → H' d = some (.dT kvs) → Holds xs ys kvs (fun _ _ => True) → Q (.ref d) H'
theorem ok_MO {f : Addr} {fd : FuncData} (F : Fun K "_law_most" "_law_most" sMO f fd)
    (m_len : mg "len" = none) (m_range : mg "range" = none) (m_max : mg "max" = none) : FnOk P w K mg base CX0 1 f fd ["one", "other"] spMO := by
  refine F.ok scMO (fun vs H Q E h => ?_) (fun cdv A outer s H vs Q E hr h => ?_)
  · obtain ⟨a, b, xs, ys, rfl, _⟩ := h
    rfl
  · obtain ⟨a, b, xs, ys, rfl, ha, hb, hx, hy, q⟩ := h
    have hu := hr.units
    have hu1 := hu_of hr
    have zl := zl
    refine ⟨_, (pss_cons (ps_set (i := 2) scMO.nd rfl (.inl rfl) (pe_dnewT))
      (pss_cons (ps_for PassesOwn.never rfl (pi_range3 (by rfl) m_range (pa_cons (pe_callB call_len_seq (by rfl) m_len PySem.boot_len (pa_cons (pv 0) pa_nil)) (pa_cons (pe_un un_neg (pe_int)) (pa_cons (pe_un un_neg (pe_int)) pa_nil)))) (pg_name (i := 3) scMO.nd rfl (.inl rfl))
      (pss_one (ps_for PassesOwn.never rfl (pi_range3 (by rfl) m_range (pa_cons (pe_callB call_len_seq (by rfl) m_len PySem.boot_len (pa_cons (pv 1) pa_nil)) (pa_cons (pe_un un_neg (pe_int)) (pa_cons (pe_un un_neg (pe_int)) pa_nil)))) (pg_name (i := 4) scMO.nd rfl (.inl rfl))
      (pss_cons (ps_set (i := 5) scMO.nd rfl (.inl rfl) (pe_int))
      (pss_cons (ps_if (PW.pt (pw_and (pt_cmpR op_lt (pv 3) (pe_callB call_len_seq (by rfl) m_len PySem.boot_len (pa_cons (pv 0) pa_nil)) (nomark _)) (pw_and1 (pt_cmpR op_lt (pv 4) (pe_callB call_len_seq (by rfl) m_len PySem.boot_len (pa_cons (pv 1) pa_nil)) (nomark _)))))
      (pss_cons (ps_set (i := 5) scMO.nd rfl (.inl rfl) (pe_callB (call_max2 rfl) (by rfl) m_max (by decide +kernel) (pa_cons (pe_dget hu1 (pv 2) (pe_tup (pa_cons (pe_op op_add (pv 3) (pe_int)) (pa_cons (pv 4) pa_nil))) (fun _ _ => rfl)) (pa_cons (pe_dget hu1 (pv 2) (pe_tup (pa_cons (pv 3) (pa_cons (pe_op op_add (pv 4) (pe_int)) pa_nil))) (fun _ _ => rfl)) pa_nil))))
      (pss_one (ps_if (PW.pt (pw_and (pt_cmpR op_notN (pe_ix ix_list (pv 0) (pv 3) (fun _ _ => rfl)) (pe_non) (nomark _)) (pw_and1 (pt_cmpR op_eq (pe_ix ix_list (pv 0) (pv 3) (fun _ _ => rfl)) (pe_ix ix_list (pv 1) (pv 4) (fun _ _ => rfl)) (nomark _)))))
      (pss_one (ps_set (i := 5) scMO.nd rfl (.inl rfl) (pe_callB (call_max2 rfl) (by rfl) m_max (by decide +kernel) (pa_cons (pv 5) (pa_cons (pe_op op_add (pe_dget hu1 (pv 2) (pe_tup (pa_cons (pe_op op_add (pv 3) (pe_int)) (pa_cons (pe_op op_add (pv 4) (pe_int)) pa_nil))) (fun _ _ => rfl)) (pe_int)) pa_nil))))) pss_nil))) pss_nil)
      (pss_one (ps_dput hu1 (pv 2) (pe_tup (pa_cons (pv 3) (pa_cons (pv 4) pa_nil))) (pv 5) rfl)))))))
      (pss_one (ps_ret (pv 2))))), ?_⟩
    intro d nd
    have few : ∀ k, k ≤ xs.length + 1 → k * (ys.length + 1) ≤ 1001 * 1001 := fun k hk => Nat.mul_le_mul (by omega) (by omega)
    refine ⟨_, rfl, a, _, rfl, .inl (SqL.of (same_new nd _ _ ha)), _, rfl, _, rfl, _, _, -1, _, rfl, RgC.neg (by omega) (by rw [List.length_map]; omega) (by omega) (by omega), for_rangeC (fun k σ H' => ∃ (y3 y4 y5 : Option V) (kvs : List (List Key × V)), σ = [some (.ref a), some (.ref b), some (.ref d), y3, y4, y5] ∧ Same H H' ∧ H' d = some (.dT kvs) ∧ kvs.length ≤ k * (ys.length + 1) ∧
      Holds xs ys kvs (fun i _ => xs.length < i + k)) ⟨none, none, none, [], rfl, same_new nd, upd_same, by show 0 ≤ _; omega, fun i j h1 h2 _ => by omega⟩ ?_ ?_⟩
    · rintro k σ H' hk ⟨y3, y4, y5, kvs, rfl, s1, ed, lk, hh⟩
      have lx : (((xs.map lnV).length : Int) - (-1)).toNat = xs.length + 1 := by
        rw [List.length_map]
        omega
      rw [lx] at hk
      have ei : ((xs.map lnV).length : Int) + (k : Int) * -1 = ((xs.length - k : Nat) : Int) := by
        rw [List.length_map]
        omega
      rw [ei]
      clear ei
      generalize hi : xs.length - k = i
      refine ⟨_, rfl, b, _, rfl, .inl (SqL.of (s1 _ _ hb)), _, rfl, _, rfl, _, _, -1, _, rfl, RgC.neg (by omega) (by rw [List.length_map]; omega) (by omega) (by omega), for_rangeC (fun k2 σ H' => ∃ (y4 y5 : Option V) (kvs : List (List Key × V)), σ = [some (.ref a), some (.ref b), some (.ref d), some (.int (i : Int)), y4, y5] ∧ Same H H' ∧ H' d = some (.dT kvs) ∧ kvs.length ≤ k * (ys.length + 1) + k2 ∧
        Holds xs ys kvs (fun i' j => xs.length < i' + k ∨ (i' = i ∧ ys.length < j + k2))) ⟨y4, y5, kvs, rfl, s1, ed, by omega, fun i' j' h1 h2 h3 => ?_⟩ ?_ ?_⟩
      · rcases h1 with h1 | h1
        · exact hh i' j' h1 h2 h3
        · omega
      · rintro k2 σ H' hk2 ⟨y4, y5, kvs, rfl, s1, ed, lk, hh⟩
        have ly : (((ys.map V.str).length : Int) - (-1)).toNat = ys.length + 1 := by
          rw [List.length_map]
          omega
        rw [ly] at hk2
        have ej : ((ys.map V.str).length : Int) + (k2 : Int) * -1 = ((ys.length - k2 : Nat) : Int) := by
          rw [List.length_map]
          omega
        rw [ej]
        clear ej
        generalize hj : ys.length - k2 = j
        have fw := few k (by omega)
        have fa : ∀ {H2 : Hp}, Same H' H2 → H2 a = some (.lst (xs.map lnV)) := fun s => s _ _ (s1 _ _ ha)
        have fb : ∀ {H2 : Hp}, Same H' H2 → H2 b = some (.lst (ys.map V.str)) := fun s => s _ _ (s1 _ _ hb)
        have fd : ∀ {H2 : Hp}, Same H' H2 → H2 d = some (.dT kvs) := fun s => s _ _ ed
        -- found[i, j] = best
        have next : ∀ (H2 : Hp) (u : Addr) (n : Int), Same H' H2 → H2 u = none → n = (L xs ys i j : Nat) → ∃ (y4 y5 : Option V) (kvs_1 : List (List Key × V)), ([some (.ref a), some (.ref b), some (.ref d), some (.int (i : Int)), some (.int (j : Int)), some (.int n)] : List (Option V)) = [some (.ref a), some (.ref b), some (.ref d), some (.int (i : Int)), y4, y5] ∧
            Same H (upd (upd H2 u (.tup [.int (i : Int), .int (j : Int)])) d (.dT (putK kvs [.inl (i : Int), .inl (j : Int)] (.int n)))) ∧ (upd (upd H2 u (.tup [.int (i : Int), .int (j : Int)])) d (.dT (putK kvs [.inl (i : Int), .inl (j : Int)] (.int n)))) d = some (.dT kvs_1) ∧ kvs_1.length ≤ k * (ys.length + 1) + (k2 + 1) ∧
            Holds xs ys kvs_1 (fun i' j => xs.length < i' + k ∨ (i' = i ∧ ys.length < j + (k2 + 1))) := by
          rintro H2 u n s2 nu rfl
          refine ⟨_, _, _, rfl, ?_, upd_same, ?_, ?_⟩
          · intro x o e
            rw [upd_ne (ne_of_none e nd)]
            exact same_new nu _ _ (s2 _ _ (s1 _ _ e))
          · have := length_putK kvs [.inl (i : Int), .inl (j : Int)] (V.int (L xs ys i j : Nat))
            omega
          · intro i' j' h1 h2 h3
            rw [valV_put]
            split
            · rename_i e
              have e1 : (i' : Int) = i := by
                injection e with e1 e2
                exact Sum.inl.inj e1
              have e2 : (j' : Int) = j := by
                injection e with e1 e2
                injection e2 with e2 e3
                exact Sum.inl.inj e2
              rw [show i' = i by omega, show j' = j by omega]
            · rename_i e
              refine hh i' j' ?_ h2 h3
              rcases h1 with h1 | ⟨h1, h4⟩
              · exact .inl h1
              · refine .inr ⟨h1, ?_⟩
                by_cases e2 : j' = j
                · exact absurd (by rw [h1, e2]) e
                · omega
        -- best
        dsimp only [tNext, tSeq, tIfS, tAsg, gName, tC]
        refine and_dec (p := i < xs.length) (q := j < ys.length) (fun R k => ⟨_, rfl, _, rfl, a, _, rfl, .inl (SqL.of (fa same_refl)), _, _, rfl, rfl, _, rfl, to_dec dec_lt (k _ same_refl)⟩)
          (fun _ H2 s2 R k => ⟨_, rfl, _, rfl, b, _, rfl, .inl (SqL.of (fb s2)), _, _, rfl, rfl, _, rfl, to_dec dec_lt (k _ same_refl)⟩) fun H2 s2 => ite2 (fun h1 => ?_) (fun h1 => ?_)
        · obtain ⟨li, lj⟩ := of_decide_eq_true h1
          have gx := List.getElem?_eq_getElem li
          have gy := List.getElem?_eq_getElem lj
          generalize xs[i] = x at gx
          generalize ys[j] = y at gy
          have key := L_law gx gy
          have v1 := hh (i + 1) j (.inl (by omega)) (by omega) (by omega)
          have v2 := hh i (j + 1) (.inr ⟨rfl, by omega⟩) (by omega) (by omega)
          have v3 := hh (i + 1) (j + 1) (.inl (by omega)) (by omega) (by omega)
          refine ⟨_, rfl, _, rfl, _, _, rfl, rfl, _, rfl, by show 2 ≤ sizeLine; omega, fun u1 n1 => ⟨d, _, rfl, dget2 (same_new n1 _ _ (fd s2)) upd_same v1, ?_⟩⟩
          have s3 := same_trans s2 (same_new (o := .tup [.int ((i : Int) + 1), .int (j : Int)]) n1)
          refine ⟨_, rfl, _, rfl, _, rfl, _, _, rfl, rfl, by show 2 ≤ sizeLine; omega, fun u2 n2 => ⟨d, _, rfl, dget2 (same_new n2 _ _ (fd s3)) upd_same v2, ?_⟩⟩
          have s4 := same_trans s3 (same_new (o := .tup [.int (i : Int), .int ((j : Int) + 1)]) n2)
          refine ⟨_, _, rfl, ?_⟩
          refine and_dec (p := x ≠ none) (q := x = some y) (fun R k => ⟨_, rfl, _, rfl, a, _, _, _, rfl, rfl, SqL.of (fa s4), atI_nat (get_map _ gx), rfl, _, rfl, to_dec ?_ (k _ same_refl)⟩)
            (fun _ H5 s5 R k => ⟨_, rfl, _, rfl, a, _, _, _, rfl, rfl, SqL.of (fa (same_trans s4 s5)), atI_nat (get_map _ gx), _, rfl, _, rfl, b, _, _, _, rfl, rfl, SqL.of (fb (same_trans s4 s5)), atI_nat (get_map _ gy), scal_ln _ _, _, rfl, to_dec (dec_ln _ _) (k _ same_refl)⟩) fun H5 s5 => ite2 (fun h2 => ?_) (fun h2 => ?_)
          · cases x <;> rfl
          · have h2 := (of_decide_eq_true h2).2
            have s6 := same_trans s4 s5
            refine ⟨_, rfl, _, rfl, _, rfl, _, _, rfl, rfl, _, rfl, _, _, rfl, rfl, by show 2 ≤ sizeLine; omega, fun u3 n3 => ⟨d, _, rfl, dget2 (same_new n3 _ _ (fd s6)) upd_same v3, _, _, rfl, rfl, _, _, rfl, ?_⟩⟩
            have s7 := same_trans s6 (same_new (o := .tup [.int ((i : Int) + 1), .int ((j : Int) + 1)]) n3)
            refine ⟨_, rfl, _, rfl, _, rfl, _, rfl, by show 2 ≤ sizeLine; omega, fun u nu => ⟨d, _, rfl, DPut.t (k := [.inl (i : Int), .inl (j : Int)]) (same_new nu _ _ (fd s7)) upd_same (by omega), next _ u _ s7 nu ?_⟩⟩
            rw [if_pos h2] at key
            rw [key]
            split <;> split <;> omega
          · have h2 : ¬ x = some y := fun z => h2 (decide_eq_true ⟨by rw [z]; exact (fun z => nomatch z), z⟩)
            have s7 := same_trans s4 s5
            refine ⟨_, rfl, _, rfl, _, rfl, _, rfl, by show 2 ≤ sizeLine; omega, fun u nu => ⟨d, _, rfl, DPut.t (k := [.inl (i : Int), .inl (j : Int)]) (same_new nu _ _ (fd s7)) upd_same (by omega), next _ u _ s7 nu ?_⟩⟩
            rw [if_neg h2] at key
            rw [key]
            split <;> omega
        · have h1 : ¬ (i < xs.length ∧ j < ys.length) := fun z => h1 (decide_eq_true z)
          refine ⟨_, rfl, _, rfl, _, rfl, _, rfl, by show 2 ≤ sizeLine; omega, fun u nu => ⟨d, _, rfl, DPut.t (k := [.inl (i : Int), .inl (j : Int)]) (same_new nu _ _ (fd s2)) upd_same (by omega), next _ u _ s2 nu ?_⟩⟩
          by_cases li : i < xs.length
          · rw [L_end2 (by omega)]
            rfl
          · rw [L_end1 (by omega)]
            rfl
      · rintro σ H' ⟨y4, y5, kvs, rfl, s1, ed, lk, hh⟩
        have ly : (((ys.map V.str).length : Int) - (-1)).toNat = ys.length + 1 := by
          rw [List.length_map]
          omega
        rw [ly] at lk hh
        refine ⟨_, _, _, kvs, rfl, s1, ed, ?_, ?_⟩
        · rw [Nat.add_mul, Nat.one_mul]
          exact lk
        · intro i' j' h1 h2 h3
          refine hh i' j' ?_ h2 h3
          by_cases e : i' = i
          · exact .inr ⟨e, by omega⟩
          · exact .inl (by omega)
    · rintro σ H' ⟨y3, y4, y5, kvs, rfl, s1, ed, lk, hh⟩
      have lx : (((xs.map lnV).length : Int) - (-1)).toNat = xs.length + 1 := by
        rw [List.length_map]
        omega
      rw [lx] at hh
      exact ⟨_, rfl, q H' d kvs s1 nd ed fun i j _ h2 h3 => hh i j (by omega) h2 h3⟩
end
end K15
namespace K15
open PySem PySem.Spec PyProof.Rows L2 QR
open PySem.W (Datum)
abbrev sLL : Stmt := topS 14
abbrev nLL : List Str := ["state", "most", "one", "other", "line", "kind", "k"]
theorem scLL : FnScope nLL ["state"] (defScope sLL) := ⟨rfl, rfl, rfl, by decide +kernel, rfl, by decide +kernel, by decide +kernel⟩
/-- draws were made, objects laid: the state stands, the others stand as before -/
structure Dr (p c : Addr) (H H' : Hp) : Prop where
  st : StateAt H' p c
  ou : ∀ b o, b ≠ p → b ≠ c → H b = some o → H' b = some o
theorem StateAt.some {H : Hp} {p c : Addr} (s : StateAt H p c) : (∃ o, H p = Option.some (.lst o)) ∧ ∃ o, H c = Option.some (.lst o) := by
  obtain ⟨⟨seed, ms, h1, h2, _⟩, _⟩ := s
  exact ⟨⟨_, h1⟩, ⟨_, h2⟩⟩
theorem StateAt.same {H H' : Hp} {p c : Addr} (s : StateAt H p c) (k : Same H H') : StateAt H' p c := s.mono (fun o e => k _ _ e) (fun o e => k _ _ e)
theorem Dr.refl {p c : Addr} {H : Hp} (s : StateAt H p c) : Dr p c H H := ⟨s, fun _ _ _ _ e => e⟩
theorem Dr.trans {p c : Addr} {H H1 H2 : Hp} (a : Dr p c H H1) (b : Dr p c H1 H2) : Dr p c H H2 := ⟨b.st, fun x o n1 n2 e => b.ou x o n1 n2 (a.ou x o n1 n2 e)⟩
theorem Dr.same {p c : Addr} {H H1 H2 : Hp} (a : Dr p c H H1) (b : Same H1 H2) : Dr p c H H2 := ⟨a.st.same b, fun x o n1 n2 e => b _ _ (a.ou x o n1 n2 e)⟩
theorem Dr.drawn {p c : Addr} {H H1 H2 : Hp} (a : Dr p c H H1) (s : StateAt H2 p c) (b : Drawn p c H1 H2) : Dr p c H H2 := ⟨s, fun x o n1 n2 e => (b x n1 n2).trans (a.ou x o n1 n2 e)⟩
theorem Dr.none {p c : Addr} {H H1 : Hp} {x : Addr} (a : Dr p c H H1) (n : H1 x = none) : H x = none := by
  obtain ⟨⟨_, e1⟩, ⟨_, e2⟩⟩ := a.st.some
  cases e : H x with
  | none => rfl
  | some o =>
    have n1 : x ≠ p := fun z => by rw [z, e1] at n; cases n
    have n2 : x ≠ c := fun z => by rw [z, e2] at n; cases n
    rw [a.ou x o n1 n2 e] at n
    cases n
theorem StateAt.new {H : Hp} {p c x : Addr} (s : StateAt H p c) (n : H x = none) : x ≠ p ∧ x ≠ c := by
  obtain ⟨⟨_, e1⟩, ⟨_, e2⟩⟩ := s.some
  exact ⟨fun z => (by rw [z, e1] at n; cases n), fun z => (by rw [z, e2] at n; cases n)⟩
theorem StateAt.upd {H : Hp} {p c x : Addr} {o : HO} (s : StateAt H p c) (n : x ≠ p ∧ x ≠ c) : StateAt (L2.upd H x o) p c :=
  s.mono (fun q e => by rw [upd_ne (Ne.symm n.1)]; exact e) (fun q e => by rw [upd_ne (Ne.symm n.2)]; exact e)
theorem ite_name {b : Prop} [Decidable b] {x y : V} {i : Nat} {σ : L2.St} {H : Hp} {R : L2.St → Hp → Prop} (h : gName i (if b then x else y) σ H R) : if b then gName i x σ H R else gName i y σ H R := by
  split at h
  · rename_i z
    rw [if_pos z]
    exact h
  · rename_i z
    rw [if_neg z]
    exact h
section
variable {P : Program} {w : World} {K : PySem.W.Frag} {mg : Str → Option Value} {base : Heap}
def spLL : Sp := fun vs H Q _ => ∃ (p c : Addr), vs = [.ref p] ∧ StateAt H p c ∧
  ∀ (H' : Hp) (t a b : Addr) (xs : List (Option Str)) (ys : List Str), Dr p c H H' → H' t = some (.tup [.ref a, .ref b]) → H' a = some (.lst (xs.map lnV)) → H' b = some (.lst (ys.map V.str)) → H t = none → H a = none → H b = none → xs.length ≤ 100 → ys.length ≤ 100 → Q (.ref t) H'
/-- a list of drawn texts at D, that was not there in H -/
def LcI (H : Hp) (p c D : Addr) (k : Nat) (H2 : Hp) : Prop := StateAt H2 p c ∧ (∀ b o, b ≠ p → b ≠ c → H b = some o → H2 b = some o) ∧ ∃ l : List Str, l.length ≤ k ∧ H2 D = some (.lst (l.map V.str))
theorem LcI.start {H : Hp} {p c D : Addr} (s : StateAt H p c) (n : H D = none) : LcI H p c D 0 (upd H D (.lst [])) :=
  ⟨s.upd (s.new n), fun b o _ _ e => by rw [upd_ne (ne_of_none e n)]; exact e, [], Nat.le_refl _, upd_same⟩
theorem LcI.mono {H H2 : Hp} {p c D : Addr} {k k' : Nat} (h : LcI H p c D k H2) (l : k ≤ k') : LcI H p c D k' H2 := by
  obtain ⟨s, ou, l1, hl, e⟩ := h
  exact ⟨s, ou, l1, Nat.le_trans hl l, e⟩
theorem LcI.lay {H H2 : Hp} {p c D a : Addr} {k : Nat} {o : HO} (h : LcI H p c D k H2) (na : H2 a = none) : LcI H p c D k (upd H2 a o) := by
  obtain ⟨s, ou, l, hl, e⟩ := h
  refine ⟨s.upd (s.new na), fun b o n1 n2 e => ?_, l, hl, ?_⟩
  · rw [upd_ne (ne_of_none (ou b o n1 n2 e) na)]
    exact ou b o n1 n2 e
  · rw [upd_ne (ne_of_none e na)]
    exact e
theorem LcI.draw {H H2 H3 : Hp} {p c D : Addr} {k : Nat} (s0 : StateAt H p c) (n : H D = none) (h : LcI H p c D k H2) (s3 : StateAt H3 p c) (d : Drawn p c H2 H3) : LcI H p c D k H3 := by
  obtain ⟨s, ou, l, hl, e⟩ := h
  have nD := s0.new n
  exact ⟨s3, fun b o n1 n2 e => (d b n1 n2).trans (ou b o n1 n2 e), l, hl, (d D nD.1 nD.2).trans e⟩
theorem LcI.app {H H2 : Hp} {p c D : Addr} {k : Nat} (s0 : StateAt H p c) (n : H D = none) (h : LcI H p c D k H2) (z : Str) (hk : k ≤ 1000) :
    ∃ l : List Str, H2 D = some (.lst (l.map V.str)) ∧ (l.map V.str).length < sizeLine ∧ LcI H p c D (k + 1) (upd H2 D (.lst (l.map V.str ++ [.str z]))) := by
  obtain ⟨s, ou, l, hl, e⟩ := h
  have zl := zl
  refine ⟨l, e, by rw [List.length_map]; omega, s.upd (s0.new n), fun b o n1 n2 e => ?_, l ++ [z], ?_, ?_⟩
  · rw [upd_ne (ne_of_none e n)]
    exact ou b o n1 n2 e
  · rw [List.length_append, List.length_singleton]
    omega
  · rw [upd_same, List.map_append]
    rfl
theorem LcI.turn {H H2 H3 : Hp} {p c D a : Addr} {k : Nat} {xs : List V} {v : V} (s0 : StateAt H p c) (n : H D = none) (h : LcI H p c D k H2) (na : H2 a = none) (hs : ∀ v ∈ xs, ∃ s, v = V.str s) (hv : v ∈ xs) (s3 : StateAt H3 p c) (d : Drawn p c (upd H2 a (.lst xs)) H3) (hk : k ≤ 1000) :
    ∃ acc, H3 D = some (.lst acc) ∧ acc.length < sizeLine ∧ LcI H p c D (k + 1) (upd H3 D (.lst (acc ++ [v]))) := by
  obtain ⟨z, rfl⟩ := hs v hv
  obtain ⟨l, e1, e2, e3⟩ := ((h.lay na).draw s0 n s3 d).app s0 n z hk
  exact ⟨_, e1, e2, e3⟩
theorem LcI.done {H H0 H2 : Hp} {p c D : Addr} {k : Nat} (d : Dr p c H0 H) (h : LcI H p c D k H2) : Dr p c H0 H2 :=
  ⟨h.1, fun b o n1 n2 e => h.2.1 b o n1 n2 (d.ou b o n1 n2 e)⟩
theorem zS5 {a b c d e : String} : ∀ v ∈ ([.str a, .str b, .str c, .str d, .str e] : List V), ∃ s, v = V.str s := by
  intro v hv
  simp only [List.mem_cons, List.not_mem_nil, or_false] at hv
  rcases hv with rfl | rfl | rfl | rfl | rfl <;> exact ⟨_, rfl⟩
theorem zS4 {a b c d : String} : ∀ v ∈ ([.str a, .str b, .str c, .str d] : List V), ∃ s, v = V.str s := by
  intro v hv
  simp only [List.mem_cons, List.not_mem_nil, or_false] at hv
  rcases hv with rfl | rfl | rfl | rfl <;> exact ⟨_, rfl⟩
theorem zS3 {a b c : String} : ∀ v ∈ ([.str a, .str b, .str c] : List V), ∃ s, v = V.str s := by
  intro v hv
  simp only [List.mem_cons, List.not_mem_nil, or_false] at hv
  rcases hv with rfl | rfl | rfl <;> exact ⟨_, rfl⟩
theorem ok_LL {f fP fD : Addr} {fd fdP fdD : FuncData} (F : Fun K "_law_lists" "_law_lists" sLL f fd)
    (GP : FnOk P w K mg base CX0 2 fP fdP ["state", "row"] spPick) (bP : Binds K fdP ["state", "row"] []) (gP : mg "_law_pick" = some (.ref fP)) (kP : PySem.W.keepIn K (.ref fP) = true)
    (GD : FnOk P w K mg base CX0 1 fD fdD ["state", "many"] spDraw) (bD : Binds K fdD ["state", "many"] []) (gD : mg "_law_draw" = some (.ref fD)) (kD : PySem.W.keepIn K (.ref fD) = true)
    (m_range : mg "range" = none) : FnOk P w K mg base CX0 3 f fd ["state"] spLL := by
  refine F.ok scLL (fun vs H Q E h => ?_) (fun cdv A outer s H vs Q E hr h => ?_)
  · obtain ⟨p, c, rfl, _⟩ := h
    rfl
  · obtain ⟨p, c, rfl, st, q⟩ := h
    have hu := hr.units
    have hu1 := hu_of hr
    have hr1 : Room 1 _ := hr.mono (by decide)
    have hr2 : Room 2 _ := hr.mono (by decide)
    have zl := zl
    refine ⟨_, (pss_cons (ps_set (i := 1) scLL.nd rfl (.inl rfl) (pe_ifExp (pt_cmpR op_gt (pe_call GD hr1 (by rfl) gD kD bD .nil pass0 (pa_cons (pv 0) (pa_cons (pe_int) pa_nil))) (pe_int) (nomark _)) (pe_int) (pe_int)))
      (pss_cons (ps_setLc (i := 2) (own := [("k", 6)]) (g := gName 6) (tt := tYes) (te := tCall spPick [] E0 (tCons (tVar 0) (tCons (tLst (tCons (tC (.str "a")) (tCons (tC (.str "b")) (tCons (tC (.str "c")) (tCons (tC (.str "")) (tCons (tC (.str "d")) tNil)))))) tNil))) rfl scLL.nd rfl rfl (sw_true rfl rfl rfl (by decide +kernel)) (pi_range1 (by rfl) m_range (pa_cons (pe_call GD hr1 (by rfl) gD kD bD .nil pass0 (pa_cons (pv 0) (pa_cons (pv 1) pa_nil))) pa_nil)) (blkOk_by (N := nLL) (sc := defScope sLL) (by decide +kernel)) (fun _ _ _ _ _ => by exact pg_name (i := 6) scLL.nd rfl (.inl rfl)) (fun _ _ _ _ _ => pts_nil) (fun _ _ _ _ _ => by exact pe_call GP hr2 (by rfl) gP kP bP .nil pass0 (pa_cons (pv 0) (pa_cons (pe_lst (pa_cons (pe_str) (pa_cons (pe_str) (pa_cons (pe_str) (pa_cons (pe_str) (pa_cons (pe_str) pa_nil)))))) pa_nil))))
      (pss_cons (ps_set (i := 3) scLL.nd rfl (.inl rfl) (pe_lst (pa_nil)))
      (pss_cons (ps_for PassesOwn.never rfl (pi_list (pv 2)) (pg_name (i := 4) scLL.nd rfl (.inl rfl))
      (pss_cons (ps_set (i := 5) scLL.nd rfl (.inl rfl) (pe_call GD hr1 (by rfl) gD kD bD .nil pass0 (pa_cons (pv 0) (pa_cons (pe_int) pa_nil))))
      (pss_cons (ps_if (pt_cmpR op_gt (pv 5) (pe_int) (nomark _))
      (pss_one (ps_expr (pe_bm PySem.F.plainAttrs_list PySem.F.slot_list_append PySem.F.type_list_append mt_append (pv 3) (pa_cons (pv 4) pa_nil)))) pss_nil)
      (pss_one (ps_if (pt_cmpR op_gt (pv 5) (pe_int) (nomark _))
      (pss_one (ps_expr (pe_bm PySem.F.plainAttrs_list PySem.F.slot_list_append PySem.F.type_list_append mt_append (pv 3) (pa_cons (pe_call GP hr2 (by rfl) gP kP bP .nil pass0 (pa_cons (pv 0) (pa_cons (pe_lst (pa_cons (pe_str) (pa_cons (pe_str) (pa_cons (pe_str) pa_nil)))) pa_nil))) pa_nil)))) pss_nil)))))
      (pss_cons (ps_if (pt_cmpR op_eq (pe_call GD hr1 (by rfl) gD kD bD .nil pass0 (pa_cons (pv 0) (pa_cons (pe_int) pa_nil))) (pe_int) (nomark _))
      (pss_one (ps_setLc (i := 3) (own := [("k", 6)]) (g := gName 6) (tt := tYes) (te := tCall spPick [] E0 (tCons (tVar 0) (tCons (tLst (tCons (tC (.str "a")) (tCons (tC (.str "b")) (tCons (tC (.str "c")) (tCons (tC (.str "x")) tNil))))) tNil))) rfl scLL.nd rfl rfl (sw_true rfl rfl rfl (by decide +kernel)) (pi_range1 (by rfl) m_range (pa_cons (pe_call GD hr1 (by rfl) gD kD bD .nil pass0 (pa_cons (pv 0) (pa_cons (pv 1) pa_nil))) pa_nil)) (blkOk_by (N := nLL) (sc := defScope sLL) (by decide +kernel)) (fun _ _ _ _ _ => by exact pg_name (i := 6) scLL.nd rfl (.inl rfl)) (fun _ _ _ _ _ => pts_nil) (fun _ _ _ _ _ => by exact pe_call GP hr2 (by rfl) gP kP bP .nil pass0 (pa_cons (pv 0) (pa_cons (pe_lst (pa_cons (pe_str) (pa_cons (pe_str) (pa_cons (pe_str) (pa_cons (pe_str) pa_nil))))) pa_nil))))) pss_nil)
      (pss_cons (ps_setLc (i := 2) (own := [("line", 4)]) (g := gName 4) (tt := tYes) (te := tIf (tTest (tOp _ (tCall spDraw [] E0 (tCons (tVar 0) (tCons (tC (.int 8)) tNil))) (tC (.int 0)))) (tVar 4) (tC .non)) rfl scLL.nd rfl rfl (sw_true rfl rfl rfl (by decide +kernel)) (pi_list (pv 2)) (blkOk_by (N := nLL) (sc := defScope sLL) (by decide +kernel)) (fun _ _ _ _ _ => by exact pg_name (i := 4) scLL.nd rfl (.inl rfl)) (fun _ _ _ _ _ => pts_nil) (fun _ _ _ _ _ => by exact pe_ifExp (pt_cmpR op_gt (pe_call GD hr1 (by rfl) gD kD bD .nil pass0 (pa_cons (pv 0) (pa_cons (pe_int) pa_nil))) (pe_int) (nomark _)) (pv 4) (pe_non)))
      (pss_one (ps_ret (pe_tup (pa_cons (pv 2) (pa_cons (pv 3) pa_nil))))))))))), ?_⟩
    dsimp only [tSeq, tAsg, tIf, tTest, tOp, tC]
    -- most
    refine ⟨_, rfl, p, c, 12, rfl, by decide, st, fun H1 k1 _ _ st1 d1 => ⟨_, _, rfl, rfl, _, rfl, ?_⟩⟩
    have dr1 : Dr p c H H1 := (Dr.refl st).drawn st1 d1
    obtain ⟨m, m0, m1, em⟩ : ∃ m : Nat, 0 < m ∧ m ≤ 41 ∧ (if decide ((k1 : Int) > 0) = true then V.int 13 else V.int 41) = V.int (m : Int) := by
      split
      · exact ⟨13, by omega, by omega, rfl⟩
      · exact ⟨41, by omega, by omega, rfl⟩
    refine ite_name ?_
    rw [show (if decide (0 < (k1 : Int)) = true then V.int 13 else V.int 41) = V.int (m : Int) from em]
    -- one
    refine ⟨_, rfl, _, rfl, p, c, m, rfl, by omega, st1, fun H2 n1 _ ln1 st2 d2 => ⟨_, rfl, by omega, by omega, fun D nD => ?_⟩⟩
    have dr2 : Dr p c H H2 := dr1.drawn st2 d2
    have ln1 := ln1 m0
    refine lc_range (lo := 0) (n := ((n1 : Int)).toNat) (fun k H3 => LcI H2 p c D k H3) (LcI.start st2 nD) ?_ ?_
    · rintro k H3 hk hI
      refine ⟨rfl, ?_⟩
      refine ⟨_, rfl, by show 5 ≤ sizeLine; omega, fun a na => ⟨p, c, a, _, rfl, upd_same, (hI.1.new na).1, (hI.1.new na).2, by show 0 < 5; decide, by show 5 < 1000000; decide, hI.1.upd (hI.1.new na), fun H4 v hv st4 d4 => ?_⟩⟩
      exact LcI.turn st2 nD hI na zS5 hv st4 d4 (by omega)
    · intro H3 hI
      have dr3 : Dr p c H H3 := hI.done dr2
      obtain ⟨st3, _, l1, ll1, eD⟩ := hI
      have nD0 : H D = none := dr2.none nD
      have nDp := st2.new nD
      clear nD dr1 dr2 d1 d2 st1 st2
      -- other = []
      refine ⟨by show 0 ≤ sizeLine; omega, fun r nr => ?_⟩
      have nr0 : H r = none := dr3.none nr
      have nrp := st3.new nr
      have nrD : r ≠ D := fun z => by rw [z, eD] at nr; cases nr
      have l41 : l1.length ≤ 41 := by omega
      -- for line in one
      refine ⟨_, rfl, D, rfl, ⟨_, SqL.of (same_new nr _ _ eD)⟩, for_list (xs := l1.map V.str) (fun k σ H' => ∃ y4 y5 : Option V, σ = [some (.ref p), some (.int (m : Int)), some (.ref D), some (.ref r), y4, y5, none] ∧ LcI H3 p c r (2 * k) H') ⟨none, none, rfl, LcI.start st3 nr⟩ ?_ ?_ ?_⟩
      · rintro k σ H' _ ⟨y4, y5, rfl, hI⟩
        exact SqL.of (hI.2.1 D _ nDp.1 nDp.2 eD)
      · rintro k x σ H4 hx ⟨y4, y5, rfl, hI⟩
        obtain ⟨z, hz, rfl⟩ := map_get hx
        have lk : k < l1.length := (List.getElem?_eq_some_iff.mp hz).1
        refine ⟨_, rfl, p, c, 6, rfl, by decide, hI.1, fun H5 k5 _ _ st5 d5 => ?_⟩
        have hI5 := hI.draw st3 nr st5 d5
        -- the second if
        refine ⟨_, rfl, _, _, rfl, rfl, _, rfl, ite2 (fun h1 => ?a) (fun h1 => ?b)⟩
        case' a =>
          obtain ⟨l2, e2, le2, hI6⟩ := hI5.app st3 nr z (by omega)
          refine ⟨_, rfl, .inl ⟨rfl, _, SqL.of e2⟩, _, rfl, r, l2.map V.str, _, rfl, rfl, e2, le2, ?_⟩
          have hJ := hI6
        case' b =>
          have hJ := hI5.mono (Nat.le_succ _)
        all_goals
          refine ⟨_, rfl, _, _, rfl, rfl, _, rfl, ite2 (fun h2 => ?_) (fun h2 => ?_)⟩
          · obtain ⟨_, _, l3, _, e3⟩ := id hJ
            refine ⟨_, rfl, .inl ⟨rfl, _, SqL.of e3⟩, _, rfl, by show 3 ≤ sizeLine; omega, fun a na => ⟨p, c, a, _, rfl, upd_same, (hJ.1.new na).1, (hJ.1.new na).2, by show 0 < 3; decide, by show 3 < 1000000; decide, hJ.1.upd (hJ.1.new na), fun H7 v hv st7 d7 => ?_⟩⟩
            obtain ⟨w, rfl⟩ := zS3 v hv
            obtain ⟨l4, e4, le4, hI8⟩ := ((hJ.lay na).draw st3 nr st7 d7).app st3 nr w (by omega)
            exact ⟨r, l4.map V.str, _, rfl, rfl, e4, le4, _, _, rfl, hI8.mono (by omega)⟩
          · exact ⟨_, _, rfl, hJ.mono (by omega)⟩
      · rintro σ H4 ⟨y4, y5, rfl, hI⟩
        have dr4 := hI.done dr3
        have eD4 : H4 D = some (.lst (l1.map V.str)) := hI.2.1 D _ nDp.1 nDp.2 eD
        rw [List.length_map] at hI
        -- if _law_draw(state, 4) == 0
        refine ⟨_, rfl, p, c, 4, rfl, by decide, hI.1, fun H5 k5 _ _ st5 d5 => ⟨rfl, _, rfl, ite2 (fun h1 => ?aa) (fun h1 => ?bb)⟩⟩
        case' aa =>
          have hI5 := hI.draw st3 nr st5 d5
          have dr5 := dr4.drawn st5 d5
          refine ⟨_, rfl, _, rfl, p, c, m, rfl, by omega, st5, fun H6 n2 _ ln2 st6 d6 => ⟨_, rfl, by omega, by omega, fun E nE => ?_⟩⟩
          have dr6 := dr5.drawn st6 d6
          have ln2 := ln2 m0
          refine lc_range (lo := 0) (n := ((n2 : Int)).toNat) (fun k H7 => LcI H6 p c E k H7) (LcI.start st6 nE) ?_ ?_
          · rintro k H7 hk hI
            refine ⟨rfl, ?_⟩
            refine ⟨_, rfl, by show 4 ≤ sizeLine; omega, fun a na => ⟨p, c, a, _, rfl, upd_same, (hI.1.new na).1, (hI.1.new na).2, by show 0 < 4; decide, by show 4 < 1000000; decide, hI.1.upd (hI.1.new na), fun H8 v hv st8 d8 => ?_⟩⟩
            exact LcI.turn st6 nE hI na zS4 hv st8 d8 (by omega)
          intro H9 hI9
          have nb := dr6.none nE
          have drF : Dr p c H H9 := hI9.done dr6
          have eD9 : H9 D = some (.lst (l1.map V.str)) := hI9.2.1 D _ nDp.1 nDp.2 ((d6 D nDp.1 nDp.2).trans ((d5 D nDp.1 nDp.2).trans eD4))
          have nbp := st6.new nE
          obtain ⟨st9, _, ys, lys, eb⟩ := hI9
          have lys : ys.length ≤ 100 := by omega
          clear d5 d6 hI hI5 st5 st6 nE dr5 dr6 dr4 eD4 ln2
          generalize E = bO at nb nbp eb
        case' bb =>
          have hI5 := hI.draw st3 nr st5 d5
          have drF : Dr p c H H5 := dr4.drawn st5 d5
          have eD9 : H5 D = some (.lst (l1.map V.str)) := (d5 D nDp.1 nDp.2).trans eD4
          obtain ⟨st9, _, ys, lys, eb⟩ := hI5
          have lys : ys.length ≤ 100 := by omega
          have nb := nr0
          have nbp := nrp
          clear d5 hI st5 dr4 eD4
          generalize H5 = H9 at drF eD9 st9 eb
          generalize hb0 : r = bO at nb nbp eb
        all_goals
          refine ⟨_, rfl, D, rfl, ⟨_, SqL.of eD9⟩, fun F nF => ?_⟩
          have nF0 := drF.none nF
          have nFp := st9.new nF
          refine lc_list (xs := l1.map V.str) (fun k H2 => StateAt H2 p c ∧ (∀ b o, b ≠ p → b ≠ c → H9 b = some o → H2 b = some o) ∧ ∃ xs : List (Option Str), xs.length = k ∧ H2 F = some (.lst (xs.map lnV)))
            ⟨st9.upd nFp, fun b o _ _ e => (by rw [upd_ne (ne_of_none e nF)]; exact e), [], rfl, upd_same⟩ ?_ ?_ ?_
          · rintro k H2 _ ⟨_, ou, _⟩
            exact SqL.of (ou D _ nDp.1 nDp.2 eD9)
          · rintro k x H2 hx ⟨st2, ou, xs, lxs, eF⟩
            obtain ⟨z, hz, rfl⟩ := map_get hx
            have lk : k < l1.length := (List.getElem?_eq_some_iff.mp hz).1
            refine ⟨rfl, ?_⟩
            refine ⟨_, rfl, p, c, 8, rfl, by decide, st2, fun H4 k4 _ _ st4 d4 => ⟨_, _, rfl, rfl, _, rfl, ?_⟩⟩
            have eF4 : H4 F = some (.lst (xs.map lnV)) := (d4 F nFp.1 nFp.2).trans eF
            have fin : ∀ y : Option Str, ∃ acc, H4 F = some (.lst acc) ∧ acc.length < sizeLine ∧ StateAt (upd H4 F (.lst (acc ++ [lnV y]))) p c ∧ (∀ b o, b ≠ p → b ≠ c → H9 b = some o → upd H4 F (.lst (acc ++ [lnV y])) b = some o) ∧ ∃ xs : List (Option Str), xs.length = k + 1 ∧ upd H4 F (.lst (acc ++ [lnV y])) F = some (.lst (xs.map lnV)) := by
              intro y
              refine ⟨_, eF4, by rw [List.length_map]; omega, st4.upd nFp, fun b o n1 n2 e => ?_, xs ++ [y], by rw [List.length_append, lxs]; rfl, ?_⟩
              · rw [upd_ne (ne_of_none e nF), d4 b n1 n2]
                exact ou b o n1 n2 e
              · rw [upd_same, List.map_append]
                rfl
            refine ite2 (fun h1 => ?_) (fun h1 => ?_)
            · exact ⟨_, rfl, fin (some z)⟩
            · exact fin none
          · rintro H2 ⟨st2, ou, xs, lxs, eF⟩
            rw [List.length_map] at lxs
            refine ⟨_, rfl, _, rfl, by show 2 ≤ sizeLine; omega, fun t nt => ?_⟩
            have dr2 : Dr p c H H2 := ⟨st2, fun b o n1 n2 e => ou b o n1 n2 (drF.ou b o n1 n2 e)⟩
            have st := same_new (o := .tup [.ref F, .ref bO]) nt
            exact q _ t F bO xs ys (dr2.same st) upd_same (st _ _ eF) (st _ _ (ou bO _ nbp.1 nbp.2 eb)) (dr2.none nt) nF0 nb (by omega) lys
end
end K15
namespace K15
open PySem PySem.Spec PyProof.Rows L2 QR
open PySem.W (Datum)
abbrev sEP : Stmt := topS 5
abbrev nEP : List Str := ["one", "other", "i", "line", "j", "text"]
theorem scEP : FnScope nEP ["one", "other"] (defScope sEP) := ⟨rfl, rfl, rfl, by decide +kernel, rfl, by decide +kernel, by decide +kernel⟩
def prO (p : Pr) : HO := .tup [.int (p.1 : Int), .int (p.2 : Int)]
def PairsL (H : Hp) (ps : List (Addr × Pr)) : Prop := ∀ p ∈ ps, H p.1 = some (prO p.2)
def prs (ps : List (Addr × Pr)) : List V := ps.map fun p => V.ref p.1
theorem prs_len (ps : List (Addr × Pr)) : (prs ps).length = ps.length := by
  unfold prs
  rw [List.length_map]
theorem PairsL.same {H H' : Hp} {ps : List (Addr × Pr)} (h : PairsL H ps) (s : Same H H') : PairsL H' ps := fun p hp => s _ _ (h p hp)
theorem PairsL.sub {H : Hp} {ps qs : List (Addr × Pr)} (h : PairsL H ps) (s : ∀ p ∈ qs, p ∈ ps) : PairsL H qs := fun p hp => h p (s p hp)
theorem PairsL.append {H : Hp} {ps qs : List (Addr × Pr)} (h : PairsL H ps) (k : PairsL H qs) : PairsL H (ps ++ qs) := fun p hp => (List.mem_append.mp hp).elim (h p) (k p)
/-- a walk over enumerate(list), an invariant for each turn -/
theorem en_walk {K : PySem.W.Frag} {a : Addr} {xs : List V} {Qd : Hp → Prop} {B : (Hp → Prop) → V → Hp → Prop} {H0 : Hp} (Pv : Nat → Hp → Prop) (h0 : Pv 0 H0) (hl : ∀ i H, i ≤ xs.length → Pv i H → SqL K H a xs)
    (hs : ∀ i x H T, xs[i]? = some x → Pv i H → H T = none → B (Pv (i + 1)) (.ref T) (upd H T (.tup [.int (i : Nat), x]))) (hd : ∀ H, Pv xs.length H → Qd H) :
    ∃ W : Nat → Nat → Hp → Prop, (∃ m, W 0 m H0) ∧ ∀ i m H, W i m H →
      ((Ite K a).stop i H ∧ Qd H) ∨ ((Ite K a).go i H ∧ ∃ Nx : Hp → Prop, (∀ H', Nx H' → ∃ m', m' < m ∧ W (i + 1) m' H') ∧ ∀ x H', (Ite K a).yld i H x H' → B Nx x H') := by
  refine ⟨fun i m H => m = xs.length - i ∧ i ≤ xs.length ∧ Pv i H, ⟨xs.length, by simp, Nat.zero_le _, h0⟩, ?_⟩
  rintro i m H ⟨rfl, hi, p⟩
  have q := hl i H hi p
  by_cases hlt : i < xs.length
  · refine .inr ⟨⟨xs, xs[i], q, by simp [hlt]⟩, Pv (i + 1), fun H' p' => ⟨xs.length - (i + 1), by omega, rfl, hlt, p'⟩, fun x H' y => ?_⟩
    obtain ⟨T, z, rfl, nT, rfl, e⟩ := y
    exact hs i z H T (e xs q) p nT
  · have e : i = xs.length := by omega
    subst e
    exact .inl ⟨⟨xs, q, Nat.le_refl _⟩, hd H p⟩
/-- the pairs of the line i with the first k of the others; those of the first k lines -/
def rowTo (xs : List (Option Str)) (ys : List Str) (i k : Nat) : List Pr := ((List.range k).filter fun j => eqAt xs ys i j).map fun j => (i, j)
def eqTo (xs : List (Option Str)) (ys : List Str) (k : Nat) : List Pr := (List.range k).flatMap fun i => rowTo xs ys i ys.length
theorem eqTo_all (xs : List (Option Str)) (ys : List Str) : eqTo xs ys xs.length = eqP xs ys := rfl
theorem eqTo_succ (xs : List (Option Str)) (ys : List Str) (k : Nat) : eqTo xs ys (k + 1) = eqTo xs ys k ++ rowTo xs ys k ys.length := by
  unfold eqTo
  rw [List.range_succ, List.flatMap_append]
  simp
theorem rowTo_succ (xs : List (Option Str)) (ys : List Str) (i k : Nat) : rowTo xs ys i (k + 1) = rowTo xs ys i k ++ if eqAt xs ys i k = true then [(i, k)] else [] := by
  unfold rowTo
  rw [List.range_succ, List.filter_append, List.map_append]
  congr 1
  by_cases h : eqAt xs ys i k = true
  · rw [if_pos h, List.filter_cons_of_pos h]
    rfl
  · rw [if_neg h, List.filter_cons_of_neg h]
    rfl
theorem rowTo_len (xs : List (Option Str)) (ys : List Str) (i k : Nat) : (rowTo xs ys i k).length ≤ k := by
  unfold rowTo
  rw [List.length_map]
  exact Nat.le_trans (List.length_filter_le _ _) (by rw [List.length_range]; exact Nat.le_refl _)
theorem eqTo_len (xs : List (Option Str)) (ys : List Str) : ∀ k : Nat, (eqTo xs ys k).length ≤ k * ys.length
  | 0 => Nat.zero_le _
  | k + 1 => by
    rw [eqTo_succ, List.length_append, Nat.add_mul, Nat.one_mul]
    have h1 := eqTo_len xs ys k
    have h2 := rowTo_len xs ys k ys.length
    omega
section
variable {P : Program} {w : World} {K : PySem.W.Frag} {mg : Str → Option Value} {base : Heap}
def spEP : Sp := fun vs H Q _ => ∃ (a b : Addr) (xs : List (Option Str)) (ys : List Str), vs = [.ref a, .ref b] ∧ H a = some (.lst (xs.map lnV)) ∧ H b = some (.lst (ys.map V.str)) ∧ xs.length ≤ 1000 ∧ ys.length ≤ 1000 ∧
  ∀ H' r ps, Same H H' → H r = none → H' r = some (.lst (prs ps)) → PairsL H' ps → ps.map (·.2) = eqP xs ys → Q (.ref r) H'
/-- what is made so far -/
structure EI (H : Hp) (D : Addr) (l : List Pr) (H' : Hp) : Prop where
  sm : Same H H'
  ex : ∃ ps : List (Addr × Pr), H' D = some (.lst (prs ps)) ∧ PairsL H' ps ∧ ps.map (·.2) = l
theorem EI.lay {H H' : Hp} {D T : Addr} {l : List Pr} {o : HO} (h : EI H D l H') (n : H' T = none) : EI H D l (upd H' T o) := by
  obtain ⟨ps, e1, e2, e3⟩ := h.ex
  have s := same_new (o := o) n
  exact ⟨same_trans h.sm s, ps, s _ _ e1, e2.same s, e3⟩
theorem EI.app {H H' : Hp} {D T : Addr} {l : List Pr} {p : Pr} (nD : H D = none) (h : EI H D l H') (n : H' T = none) (hl : l.length ≤ 1000000) :
    ∃ acc, (upd H' T (prO p)) D = some (.lst acc) ∧ acc.length < sizeLine ∧ EI H D (l ++ [p]) (upd (upd H' T (prO p)) D (.lst (acc ++ [.ref T]))) := by
  have zl := zl
  obtain ⟨ps, e1, e2, e3⟩ := (h.lay (o := prO p) n).ex
  have lp : ps.length = l.length := by rw [← e3, List.length_map]
  refine ⟨_, e1, by rw [prs_len]; omega, same_upd nD (h.lay (o := prO p) n).sm, ps ++ [(T, p)], ?_, fun q hq => ?_, ?_⟩
  · rw [upd_same]
    unfold prs
    rw [List.map_append]
    rfl
  · have ne : ∀ {x : Addr} {y : Pr}, (upd H' T (prO p)) x = some (prO y) → upd (upd H' T (prO p)) D (.lst (prs ps ++ [.ref T])) x = some (prO y) := fun {x y} e => by
      rw [upd_ne fun z => by rw [z, e1] at e; exact nomatch e]
      exact e
    rcases List.mem_append.mp hq with z | z
    · exact ne (e2 q z)
    · cases List.mem_singleton.mp z
      exact ne upd_same
  · rw [List.map_append, e3]
    rfl
theorem ok_EP {f : Addr} {fd : FuncData} (F : Fun K "equal_pairs" "equal_pairs" sEP f fd)
    (m_enumerate : mg "enumerate" = none) : FnOk P w K mg base CX0 1 f fd ["one", "other"] spEP := by
  refine F.ok scEP (fun vs H Q E h => ?_) (fun cdv A outer s H vs Q E hr h => ?_)
  · obtain ⟨a, b, xs, ys, rfl, _⟩ := h
    rfl
  · obtain ⟨a, b, xs, ys, rfl, ha, hb, hx, hy, q⟩ := h
    have hu := hr.units
    have hu1 := hu_of hr
    have zl := zl
    refine ⟨_, (pss_one (ps_ret (pe_lc2 (own := [("i", 2), ("line", 3), ("j", 4), ("text", 5)]) (vs1 := [4, 5]) (g := gTup K 2 (gCons (gName 2) (gCons (gName 3) gNil))) (g1 := gTup K 2 (gCons (gName 4) (gCons (gName 5) gNil))) (tt := tYes) (tt1 := tTest (tOp rEq (tVar 3) (tVar 5))) (wi1 := iEnum K (tCons (tVar 1) tNil)) (te := tTup (tCons (tVar 2) (tCons (tVar 4) tNil))) rfl scEP.nd (pi_enum (by rfl) m_enumerate (pa_cons (pv 0) pa_nil)) (blkOk_by (N := nEP) (sc := defScope sEP) (by decide +kernel)) (by decide) (fun _ _ _ _ _ => by exact pg_tup (by rfl) (pgs_cons (pg_name (i := 2) scEP.nd rfl (.inl rfl)) (pgs_cons (pg_name (i := 3) scEP.nd rfl (.inl rfl)) pgs_nil))) (fun _ _ _ _ _ => pts_nil) (fun _ _ _ _ _ => by exact pi_enum (by rfl) m_enumerate (pa_cons (pv 1) pa_nil)) (fun _ _ _ _ _ => by exact pg_tup (by rfl) (pgs_cons (pg_name (i := 4) scEP.nd rfl (.inl rfl)) (pgs_cons (pg_name (i := 5) scEP.nd rfl (.inl rfl)) pgs_nil))) (fun _ _ _ _ _ => by exact pts_one (pt_cmpR op_eq (pv 3) (pv 5) (nomark _))) (fun _ _ _ _ _ => by exact pe_tup (pa_cons (pv 2) (pa_cons (pv 4) pa_nil)))))), ?_⟩
    refine ⟨_, rfl, a, _, rfl, SqL.of ha, fun D nD => ?_⟩
    have few : ∀ i k : Nat, i < xs.length → k ≤ ys.length → i * ys.length + k ≤ 1000000 := fun i k h1 h2 => by
      have : (i + 1) * ys.length ≤ 1000 * 1000 := Nat.mul_le_mul (by omega) (by omega)
      rw [Nat.add_mul, Nat.one_mul] at this
      omega
    refine en_walk (xs := xs.map lnV) (fun i H' => EI H D (eqTo xs ys i) H') ⟨same_new nD, [], upd_same, (fun p hp => by cases hp), rfl⟩ ?_ ?_ ?_
    · rintro i H' _ e
      exact SqL.of (e.sm _ _ ha)
    · rintro i x H' T hx1 e nT
      obtain ⟨x, gx, rfl⟩ := map_get hx1
      have li := (List.getElem?_eq_some_iff.mp gx).1
      have e1 := e.lay (o := .tup [.int (i : Nat), lnV x]) nT
      have eT : (upd H' T (.tup [.int (i : Nat), lnV x])) T = _ := upd_same
      generalize upd H' T (.tup [.int (i : Nat), lnV x]) = H1 at e1 eT
      refine ⟨T, _, rfl, SqT.of eT, rfl, _, _, rfl, _, _, rfl, rfl, rfl, ?_⟩
      refine ⟨_, rfl, b, _, rfl, SqL.of (e1.sm _ _ hb), ?_⟩
      refine en_walk (xs := ys.map V.str) (fun j H' => EI H D (eqTo xs ys i ++ rowTo xs ys i j) H') ?_ ?_ ?_ ?_
      · show EI H D (eqTo xs ys i ++ []) H1
        rw [List.append_nil]
        exact e1
      · rintro j H' _ e
        exact SqL.of (e.sm _ _ hb)
      · rintro j y H2 T2 hy1 e nT2
        obtain ⟨y, gy, rfl⟩ := map_get hy1
        have lj := (List.getElem?_eq_some_iff.mp gy).1
        have e2 := e.lay (o := .tup [.int (j : Nat), .str y]) nT2
        have eT2 : (upd H2 T2 (.tup [.int (j : Nat), .str y])) T2 = _ := upd_same
        generalize upd H2 T2 (.tup [.int (j : Nat), .str y]) = H3 at e2 eT2
        refine ⟨T2, _, rfl, SqT.of eT2, rfl, _, _, rfl, _, _, rfl, rfl, rfl, ?_⟩
        refine ⟨_, rfl, _, rfl, scal_ln _ _, _, rfl, ?_⟩
        rw [dec_ln, ← eqAt_of gx gy, rowTo_succ]
        refine ite2 (fun h1 => ?_) (fun h1 => ?_)
        · rw [if_pos h1, ← List.append_assoc]
          refine ⟨_, rfl, _, rfl, by show 2 ≤ sizeLine; omega, fun u nu => ?_⟩
          exact e2.app (p := (i, j)) nD nu (by
            rw [List.length_append]
            have h1 := eqTo_len xs ys i
            have h2 := rowTo_len xs ys i j
            have := few i j li (by omega)
            omega)
        · rw [if_neg h1, List.append_nil]
          exact e2
      · rintro H2 e
        rw [List.length_map] at e
        rw [eqTo_succ]
        exact e
    · rintro H2 e
      rw [List.length_map, eqTo_all] at e
      obtain ⟨ps, e1, e2, e3⟩ := e.ex
      exact q H2 D ps e.sm nD e1 e2 e3
end
end K15
namespace K15
open PySem PySem.Spec PyProof.Rows L2 QR
open PySem.W (Datum)
abbrev sLV : Stmt := topS 6
abbrev nLV : List Str := ["one", "other", "table", "rows", "i", "j", "_"]
theorem scLV : FnScope nLV ["one", "other"] (defScope sLV) := ⟨rfl, rfl, rfl, by decide +kernel, rfl, by decide +kernel, by decide +kernel⟩
/-- rows at r, the m-th one has the pairs of c m; what stood in H stands -/
structure RI (H : Hp) (r : Addr) (rs : List Addr) (c : Nat → List (Addr × Pr)) (H' : Hp) : Prop where
  sm : Same H H'
  nr : H r = none
  at_ : H' r = some (.lst (rs.map V.ref))
  row : ∀ m a, rs[m]? = some a → H' a = some (.lst (prs (c m))) ∧ PairsL H' (c m) ∧ H a = none
  nd : rs.Nodup
  out : r ∉ rs
theorem RI.lay {H H' : Hp} {r T : Addr} {rs : List Addr} {c : Nat → List (Addr × Pr)} {o : HO} (h : RI H r rs c H') (n : H' T = none) : RI H r rs c (upd H' T o) := by
  have s := same_new (o := o) n
  exact ⟨same_trans h.sm s, h.nr, s _ _ h.at_, fun m a e => let ⟨z1, z2, z3⟩ := h.row m a e; ⟨s _ _ z1, z2.same s, z3⟩, h.nd, h.out⟩
theorem RI.same {H H' H2 : Hp} {r : Addr} {rs : List Addr} {c : Nat → List (Addr × Pr)} (h : RI H r rs c H') (s : Same H' H2) : RI H r rs c H2 :=
  ⟨same_trans h.sm s, h.nr, s _ _ h.at_, fun m a e => let ⟨z1, z2, z3⟩ := h.row m a e; ⟨s _ _ z1, z2.same s, z3⟩, h.nd, h.out⟩
/-- the row m gets other contents -/
theorem RI.put {H H' : Hp} {r a : Addr} {rs : List Addr} {c : Nat → List (Addr × Pr)} {m : Nat} (h : RI H r rs c H') (e : rs[m]? = some a) (l : List (Addr × Pr)) (hl : PairsL H' l) :
    RI H r rs (fun q => if q = m then l else c q) (upd H' a (.lst (prs l))) := by
  obtain ⟨z1, z2, z3⟩ := h.row m a e
  have keepP : ∀ {qs : List (Addr × Pr)}, PairsL H' qs → PairsL (upd H' a (.lst (prs l))) qs := fun k p hp => by
    rw [upd_ne fun z => by have := k p hp; rw [z, z1] at this; exact nomatch this]
    exact k p hp
  refine ⟨same_upd z3 h.sm, h.nr, ?_, fun q b eb => ?_, h.nd, h.out⟩
  · rw [upd_ne fun z => h.out (by rw [z]; exact List.mem_of_getElem? e)]
    exact h.at_
  · by_cases hq : q = m
    · subst hq
      rw [e] at eb
      cases eb
      rw [if_pos rfl]
      exact ⟨upd_same, keepP hl, z3⟩
    · rw [if_neg hq]
      obtain ⟨y1, y2, y3⟩ := h.row q b eb
      refine ⟨?_, keepP y2, y3⟩
      rw [upd_ne fun z => ?_]
      · exact y1
      · subst z
        obtain ⟨l1, q1⟩ := List.getElem?_eq_some_iff.mp e
        obtain ⟨l2, q2⟩ := List.getElem?_eq_some_iff.mp eb
        exact hq ((List.getElem_inj h.nd).mp (q2.trans q1.symm))
theorem RI.grow {H H' : Hp} {r a : Addr} {rs : List Addr} {c : Nat → List (Addr × Pr)} (h : RI H r rs c H') (n : H' a = none) (hl : PairsL H' (c rs.length)) :
    RI H r (rs ++ [a]) c (upd (upd H' a (.lst (prs (c rs.length)))) r (.lst (rs.map V.ref ++ [.ref a]))) := by
  have s := same_new (o := .lst (prs (c rs.length))) n
  have ar : a ≠ r := fun z => by rw [z, h.at_] at n; cases n
  have na : ∀ {b : Addr} {o : HO}, H' b = some o → b ≠ r → upd (upd H' a (.lst (prs (c rs.length)))) r (.lst (rs.map V.ref ++ [.ref a])) b = some o := fun e z => by
    rw [upd_ne z]
    exact s _ _ e
  have np : ∀ {qs : List (Addr × Pr)}, PairsL H' qs → PairsL (upd (upd H' a (.lst (prs (c rs.length)))) r (.lst (rs.map V.ref ++ [.ref a]))) qs := fun k p hp => na (k p hp) fun z => by
    have := k p hp
    rw [z, h.at_] at this
    exact nomatch this
  refine ⟨same_upd h.nr (same_trans h.sm s), h.nr, ?_, fun m b e => ?_, ?_, ?_⟩
  · rw [upd_same, List.map_append]
    rfl
  · rcases Nat.lt_or_ge m rs.length with hm | hm
    · rw [List.getElem?_append_left hm] at e
      obtain ⟨z1, z2, z3⟩ := h.row m b e
      exact ⟨na z1 fun z => h.out (by rw [← z]; exact List.mem_of_getElem? e), np z2, z3⟩
    · rw [List.getElem?_append_right hm] at e
      have hm2 : m - rs.length = 0 := by
        have := (List.getElem?_eq_some_iff.mp e).1
        simp at this
        omega
      rw [hm2] at e
      have eb : a = b := Option.some.inj e
      subst eb
      have em : m = rs.length := by omega
      subst em
      refine ⟨by rw [upd_ne ar, upd_same], np hl, same_none h.sm n⟩
  · refine List.nodup_append.mpr ⟨h.nd, List.nodup_cons.mpr ⟨fun z => (by cases z), List.nodup_nil⟩, fun x hx y hy e => ?_⟩
    subst e
    have e1 := List.mem_singleton.mp hy
    subst e1
    obtain ⟨m, hm⟩ := List.mem_iff_getElem?.mp hx
    have := (h.row m _ hm).1
    rw [n] at this
    cases this
  · intro hx
    rcases List.mem_append.mp hx with z | z
    · exact h.out z
    · exact ar (List.mem_singleton.mp z).symm
section
variable {P : Program} {w : World} {K : PySem.W.Frag} {mg : Str → Option Value} {base : Heap}
/-- rows of pairs, from the values' side -/
def RowsV (H : Hp) (r : Addr) (rows : List (List Pr)) : Prop := ∃ (rs : List Addr) (c : Nat → List (Addr × Pr)), H r = some (.lst (rs.map V.ref)) ∧ rs.length = rows.length ∧ ∀ m a, rs[m]? = some a → H a = some (.lst (prs (c m))) ∧ PairsL H (c m) ∧ some ((c m).map (·.2)) = rows[m]?
/-- the rows at r were not there in H0 -/
def NewRows (H0 H : Hp) (r : Addr) : Prop := ∀ xs, H r = some (.lst xs) → ∀ v ∈ xs, ∃ a, v = V.ref a ∧ H0 a = none
theorem RI.new {H H' : Hp} {r : Addr} {rs : List Addr} {c : Nat → List (Addr × Pr)} (h : RI H r rs c H') : NewRows H H' r := fun xs e v hv => by
  rw [h.at_] at e
  have e : rs.map V.ref = xs := by
    injection e with e
    injection e
  rw [← e] at hv
  obtain ⟨a, ha, rfl⟩ := List.mem_map.mp hv
  obtain ⟨m, hm⟩ := List.mem_iff_getElem?.mp ha
  exact ⟨a, rfl, (h.row m a hm).2.2⟩
theorem NewRows.of {H0 H1 H : Hp} {r : Addr} (h : NewRows H1 H r) (s : Same H0 H1) : NewRows H0 H r := fun xs e v hv => let ⟨a, z1, z2⟩ := h xs e v hv; ⟨a, z1, same_none s z2⟩
def spLV : Sp := fun vs H Q _ => ∃ (a b : Addr) (xs : List (Option Str)) (ys : List Str), vs = [.ref a, .ref b] ∧ H a = some (.lst (xs.map lnV)) ∧ H b = some (.lst (ys.map V.str)) ∧ xs.length ≤ 1000 ∧ ys.length ≤ 1000 ∧
  ∀ H' r, Same H H' → H r = none → NewRows H H' r → RowsV H' r (rowsL xs ys) → Q (.ref r) H'
theorem ok_LV {f fKB fEP : Addr} {fd fdKB fdEP : FuncData} (F : Fun K "levels" "levels" sLV f fd)
    (GKB : FnOk P w K mg base CX0 1 fKB fdKB ["one", "other"] spKB) (bKB : Binds K fdKB ["one", "other"] []) (gKB : mg "kept_behind" = some (.ref fKB)) (kKB : PySem.W.keepIn K (.ref fKB) = true)
    (GEP : FnOk P w K mg base CX0 1 fEP fdEP ["one", "other"] spEP) (bEP : Binds K fdEP ["one", "other"] []) (gEP : mg "equal_pairs" = some (.ref fEP)) (kEP : PySem.W.keepIn K (.ref fEP) = true)
    (m_len : mg "len" = none) (m_range : mg "range" = none) : FnOk P w K mg base CX0 2 f fd ["one", "other"] spLV := by
  refine F.ok scLV (fun vs H Q E h => ?_) (fun cdv A outer s H vs Q E hr h => ?_)
  · obtain ⟨a, b, xs, ys, rfl, _⟩ := h
    rfl
  · obtain ⟨a, b, xs, ys, rfl, ha, hb, hx, hy, q⟩ := h
    have hu := hr.units
    have hu1 := hu_of hr
    have hr1 : Room 1 _ := hr.mono (by decide)
    have zl := zl
    refine ⟨_, (pss_cons (ps_set (i := 2) scLV.nd rfl (.inl rfl) (pe_call GKB hr1 (by rfl) gKB kKB bKB .nil pass0 (pa_cons (pe_rev (pv 0) (pe_un un_neg pe_int)) (pa_cons (pe_rev (pv 1) (pe_un un_neg pe_int)) pa_nil))))
      (pss_cons (ps_setLc (i := 3) (own := [("_", 6)]) (g := gName 6) (tt := tYes) (te := tLst (tNil)) rfl scLV.nd rfl rfl (sw_true rfl rfl rfl (by decide +kernel)) (pi_range1 (by rfl) m_range (pa_cons (pe_ix ix_list (pe_ix ix_list (pv 2) (pe_int) (fun _ _ => rfl)) (pe_int) (fun _ _ => rfl)) pa_nil)) (blkOk_by (N := nLV) (sc := defScope sLV) (by decide +kernel)) (fun _ _ _ _ _ => by exact pg_name (i := 6) scLV.nd rfl (.inl rfl)) (fun _ _ _ _ _ => pts_nil) (fun _ _ _ _ _ => by exact pe_lst (pa_nil)))
      (pss_cons (ps_for PassesOwn.never rfl (pi_list (pe_call GEP hr1 (by rfl) gEP kEP bEP .nil pass0 (pa_cons (pv 0) (pa_cons (pv 1) pa_nil)))) (pg_tup (by rfl) (pgs_cons (pg_name (i := 4) scLV.nd rfl (.inl rfl)) (pgs_cons (pg_name (i := 5) scLV.nd rfl (.inl rfl)) pgs_nil)))
      (pss_one (ps_expr (pe_bm PySem.F.plainAttrs_list PySem.F.slot_list_append PySem.F.type_list_append mt_append (pe_ix ix_list (pv 3) (pe_ix ix_list (pe_ix ix_list (pv 2) (pe_op op_sub (pe_callB call_len_seq (by rfl) m_len PySem.boot_len (pa_cons (pv 0) pa_nil)) (pv 4)) (fun _ _ => rfl)) (pe_op op_sub (pe_callB call_len_seq (by rfl) m_len PySem.boot_len (pa_cons (pv 1) pa_nil)) (pv 5)) (fun _ _ => rfl)) (fun _ _ => rfl)) (pa_cons (pe_tup (pa_cons (pv 4) (pa_cons (pv 5) pa_nil))) pa_nil)))))
      (pss_one (ps_ret (pv 3)))))), ?_⟩
    refine ⟨_, rfl, _, rfl, rfl, a, _, rfl, SqL.of ha, fun a1 n1 => ?_⟩
    have s1 := same_new (o := .lst (xs.map lnV).reverse) n1
    refine ⟨_, rfl, _, rfl, rfl, b, _, rfl, SqL.of (s1 _ _ hb), fun b1 n2 => ?_⟩
    have s2 := same_new (o := .lst (ys.map V.str).reverse) n2
    have s12 := same_trans s1 s2
    have ea : (upd (upd H a1 (.lst (xs.map lnV).reverse)) b1 (.lst (ys.map V.str).reverse)) a1 = some (.lst (xs.reverse.map lnV)) := by
      rw [List.map_reverse]
      exact s2 _ _ upd_same
    have eb : (upd (upd H a1 (.lst (xs.map lnV).reverse)) b1 (.lst (ys.map V.str).reverse)) b1 = some (.lst (ys.reverse.map V.str)) := by
      rw [List.map_reverse]
      exact upd_same
    refine ⟨a1, b1, xs.reverse, ys.reverse, rfl, ea, eb, by rw [List.length_reverse]; exact hx, by rw [List.length_reverse]; exact hy, fun H2 t rs s3 nt TA => ?_⟩
    have s13 := same_trans s12 s3
    have nt0 := same_none s12 nt
    obtain ⟨r0, er0⟩ : ∃ r0, rs[0]? = some r0 := ⟨rs[0]'(by rw [TA.len]; omega), List.getElem?_eq_getElem _⟩
    have lc0 : L xs.reverse ys.reverse 0 0 = lcs xs ys := by
      unfold L
      rw [List.drop_zero, List.drop_zero, lcs_rev]
    have hL : lcs xs ys ≤ 1000 := Nat.le_trans (lcs_le xs ys) hx
    have g0 : (rowV xs.reverse ys.reverse 0)[0]? = some (.int (lcs xs ys : Nat)) := by
      rw [← lc0]
      exact rowV_get (Nat.zero_le _)
    -- rows
    refine ⟨_, rfl, t, _, 0, _, rfl, rfl, SqL.of TA.at_, atI_nat (j := 0) (get_map _ er0), r0, _, 0, _, rfl, rfl, SqL.of (TA.row 0 r0 er0), atI_nat (j := 0) g0, _, rfl, by omega, by omega, fun D nD => ?_⟩
    refine lc_range (lo := 0) (n := ((lcs xs ys : Nat) : Int).toNat) (fun k H' => ∃ rs' : List Addr, rs'.length = k ∧ RI H2 D rs' (fun _ => []) H') ⟨[], rfl, same_new nD, nD, upd_same, fun m a e => (by cases e), List.nodup_nil, fun z => (by cases z)⟩ ?_ ?_
    · rintro k H' hk ⟨rs', hl, R⟩
      refine ⟨rfl, by show 0 ≤ sizeLine; omega, fun z nz => ?_⟩
      have s5 := same_new (o := .lst []) nz
      refine ⟨rs'.map V.ref, s5 _ _ R.at_, by rw [List.length_map]; omega, rs' ++ [z], by rw [List.length_append, hl]; rfl, by subst hl; exact R.grow nz (fun p hp => by cases hp)⟩
    · rintro H3 ⟨rs', hl, R⟩
      rw [Int.toNat_natCast] at hl
      -- for i, j in equal_pairs(one, other)
      have s14 := same_trans s13 R.sm
      refine ⟨_, rfl, _, rfl, a, b, xs, ys, rfl, s14 _ _ ha, s14 _ _ hb, hx, hy, fun H4 r4 ps s4 nr4 er4 pl4 ep4 => ⟨r4, rfl, ⟨_, SqL.of er4⟩, ?_⟩⟩
      have R4 := R.same s4
      have out4 : r4 ∉ rs' := fun z => by
        obtain ⟨m, hm⟩ := List.mem_iff_getElem?.mp z
        have := (R.row m _ hm).1
        rw [nr4] at this
        cases this
      have lps : ps.length ≤ 1000000 := by
        have h1 := eqTo_len xs ys xs.length
        rw [eqTo_all, ← ep4, List.length_map] at h1
        have := Nat.mul_le_mul hx hy
        omega
      refine for_list (xs := prs ps) (fun k σ H' => ∃ (c : Nat → List (Addr × Pr)) (y4 y5 : Option V), σ = [some (.ref a), some (.ref b), some (.ref t), some (.ref D), y4, y5, none] ∧ RI H2 D rs' c H' ∧ H' r4 = some (.lst (prs ps)) ∧ PairsL H' ps ∧
        (∀ m, (c m).map (·.2) = ((ps.take k).map (·.2)).filter fun p => decide (pre xs ys p.1 p.2 = m))) ⟨fun _ => [], none, none, rfl, R4, er4, pl4, fun m => rfl⟩ ?_ ?_ ?_
      · rintro k σ H' _ ⟨c, y4, y5, rfl, R', e1, e2, e3⟩
        exact SqL.of e1
      · rintro k x σ H' hx1 ⟨c, y4, y5, rfl, R', e1, e2, e3⟩
        obtain ⟨⟨T, p⟩, gp, rfl⟩ := map_get hx1
        have eT : H' T = some (prO p) := e2 _ (List.mem_of_getElem? gp)
        have eqp : eqAt xs ys p.1 p.2 = true := mem_eqP.mp (by rw [← ep4]; exact List.mem_map.mpr ⟨_, List.mem_of_getElem? gp, rfl⟩)
        obtain ⟨li, lj⟩ := eqAt_lt eqp
        have lm := pre_lt eqp
        have hT2 : ∀ {b : Addr} {o : HO}, H2 b = some o → H' b = some o := fun e => R'.sm _ _ e
        refine ⟨T, _, rfl, SqT.of eT, rfl, _, _, rfl, _, _, rfl, rfl, ?_⟩
        -- rows[table[len(one) - i][len(other) - j]].append((i, j))
        obtain ⟨r1, gr1⟩ : ∃ r1, rs[xs.length - p.1]? = some r1 := ⟨rs[xs.length - p.1]'(by rw [TA.len, List.length_reverse]; omega), List.getElem?_eq_getElem _⟩
        obtain ⟨am, gam⟩ : ∃ am, rs'[pre xs ys p.1 p.2]? = some am := ⟨rs'[pre xs ys p.1 p.2]'(by rw [hl]; exact lm), List.getElem?_eq_getElem _⟩
        have gv : (rowV xs.reverse ys.reverse (xs.length - p.1))[ys.length - p.2]? = some (.int (pre xs ys p.1 p.2 : Nat)) := by
          rw [← L_rev (by omega) (by omega)]
          exact rowV_get (by rw [List.length_reverse]; omega)
        have ei : (((xs.map lnV).length : Nat) : Int) - (p.1 : Int) = ((xs.length - p.1 : Nat) : Int) := by
          rw [List.length_map]
          omega
        have ej : (((ys.map V.str).length : Nat) : Int) - (p.2 : Int) = ((ys.length - p.2 : Nat) : Int) := by
          rw [List.length_map]
          omega
        obtain ⟨z1, z2, z3⟩ := R'.row _ am gam
        refine ⟨_, rfl, _, rfl, _, rfl, a, _, rfl, .inl (SqL.of (hT2 (s13 _ _ ha))), _, rfl, _, _, rfl, rfl, t, _, _, _, rfl, rfl, SqL.of (hT2 TA.at_), (by rw [ei]; exact atI_nat (get_map _ gr1)),
          _, rfl, b, _, rfl, .inl (SqL.of (hT2 (s13 _ _ hb))), _, rfl, _, _, rfl, rfl, r1, _, _, _, rfl, rfl, SqL.of (hT2 (TA.row _ r1 gr1)), (by rw [ej]; exact atI_nat gv),
          D, _, _, _, rfl, rfl, SqL.of R'.at_, atI_nat (get_map _ gam), .inl ⟨rfl, _, SqL.of z1⟩, _, rfl, _, rfl, by show 2 ≤ sizeLine; omega, fun u nu => ?_⟩
        have su := same_new (o := prO p) nu
        have R5 := R'.lay (o := prO p) nu
        obtain ⟨w1, w2, w3⟩ := R5.row _ am gam
        have R6 := R5.put gam (c (pre xs ys p.1 p.2) ++ [(u, p)]) (w2.append fun q hq => by
          cases List.mem_singleton.mp hq
          exact upd_same)
        have lc : (c (pre xs ys p.1 p.2)).length ≤ ps.length := by
          have h1 := congrArg List.length (e3 (pre xs ys p.1 p.2))
          rw [List.length_map] at h1
          have h2 := List.length_filter_le (fun q : Pr => decide (pre xs ys q.1 q.2 = pre xs ys p.1 p.2)) ((ps.take k).map (·.2))
          rw [List.length_map, List.length_take] at h2
          omega
        have ep : prs (c (pre xs ys p.1 p.2) ++ [(u, p)]) = prs (c (pre xs ys p.1 p.2)) ++ [.ref u] := by
          unfold prs
          rw [List.map_append]
          rfl
        rw [ep] at R6
        refine ⟨am, prs (c (pre xs ys p.1 p.2)), _, rfl, rfl, w1, by rw [prs_len]; omega, _, _, _, rfl, R6, ?_, fun q hq => ?_, fun m => ?_⟩
        · rw [upd_ne fun z => out4 (by rw [z]; exact List.mem_of_getElem? gam)]
          exact su _ _ e1
        · have z := su _ _ (e2 q hq)
          rw [upd_ne fun y => by rw [y, w1] at z; exact nomatch z]
          exact z
        · have et : ps.take (k + 1) = ps.take k ++ [(T, p)] := by rw [List.take_add_one, gp]; rfl
          rw [et, List.map_append, List.filter_append, ← e3 m]
          by_cases hm : m = pre xs ys p.1 p.2
          · rw [if_pos hm, List.map_append, hm]
            congr 1
            show [p] = List.filter (fun q : Pr => decide (pre xs ys q.1 q.2 = pre xs ys p.1 p.2)) [p]
            simp
          · rw [if_neg hm]
            show _ = _ ++ List.filter _ [p]
            rw [List.filter_cons_of_neg (by rw [decide_eq_true_eq]; exact fun z => hm z.symm)]
            exact (List.append_nil _).symm
      · rintro σ H' ⟨c, y4, y5, rfl, R', e1, e2, e3⟩
        rw [prs_len] at e3
        refine ⟨_, rfl, q H' D (same_trans s13 R'.sm) (same_none s13 nD) (R'.new.of s13) ⟨rs', c, R'.at_, by rw [hl, rowsL_len], fun m am e => ?_⟩⟩
        obtain ⟨z1, z2, _⟩ := R'.row m am e
        refine ⟨z1, z2, ?_⟩
        have lm := (List.getElem?_eq_some_iff.mp e).1
        rw [hl] at lm
        rw [e3 m, List.take_length, ep4]
        unfold rowsL
        rw [List.getElem?_map, List.getElem?_range lm]
        rfl
end
end K15
/-! the array of generators never shrinks -/
namespace GX
open PySem PySem.Spec PyProof.Rows L2 GxR

theorem runs_gens_le {M : Model} {Γ : PySem.Ctx} {p : Pos} {t : Sem Fin} {fs : List Frame} {s s' : Shared} {e : End} (h : Runs M Γ p t fs s e s') : s.gens.size ≤ s'.gens.size := by
  induction h <;> (try simp only [Shared.setGen, Array.size_push, Array.size_setIfInBounds] at *) <;> omega

theorem wakes_gens_le {M : Model} {Γ : PySem.Ctx} {p : Pos} {g : Nat} {r : Resume} {s s' : Shared} {res : GenResult} (h : Wakes M Γ p g r s res s') : s.gens.size ≤ s'.gens.size := by
  have sz : ∀ (z : Shared) x, (z.setGen g x).gens.size = z.gens.size := fun z x => by simp [Shared.setGen]
  unfold Wakes at h
  split at h
  · exact h.elim
  · split at h
    · obtain ⟨e₁, s₁, hr, _, _, rfl⟩ := h
      rw [sz]; exact (sz s .running) ▸ runs_gens_le hr
    · obtain ⟨_, rfl⟩ := h; first | exact Nat.le_refl _ | (rw [sz]; exact Nat.le_refl _)
    · obtain ⟨_, rfl⟩ := h; first | exact Nat.le_refl _ | (rw [sz]; exact Nat.le_refl _)
  · obtain ⟨e₁, s₁, hr, _, _, rfl⟩ := h
    rw [sz]; exact (sz s .running) ▸ runs_gens_le hr
  · obtain ⟨_, rfl⟩ := h; exact Nat.le_refl _
  · obtain ⟨_, rfl⟩ := h; exact Nat.le_refl _

theorem wp_gens {α : Type} (M : Model) (Γ : PySem.Ctx) (n : Nat) (t : Sem α) : ∀ (Q : α → Pos → Shared → Prop) (E : Value → Pos → Shared → Prop) (p : Pos) (s : Shared), n ≤ s.gens.size → Sem.wp M Γ t Q E p s →
    Sem.wp M Γ t (fun a p' s' => n ≤ s'.gens.size ∧ Q a p' s') (fun e p' s' => n ≤ s'.gens.size ∧ E e p' s') p s := by
  induction t with
  | pure a => intro Q E p s hn h; exact ⟨hn, h⟩
  | raise e => intro Q E p s hn h; exact ⟨hn, h⟩
  | unsupported _ => intro Q E p s _ h; exact h
  | finish _ => intro Q E p s _ h; exact h
  | rule _ k ih => intro Q E p s hn h; exact ih () Q E p s hn h
  | «at» p' k ih => intro Q E p s hn h; exact ih () Q E p' s hn h
  | load a _ k ih => intro Q E p s hn h; obtain ⟨o, ho, h⟩ := h; exact ⟨o, ho, ih o Q E p s hn h⟩
  | update a _ f k ih => intro Q E p s hn h; exact ⟨h.1, ih () Q E p _ hn h.2⟩
  | loadIfAlive a k ih => intro Q E p s hn h; exact ih _ Q E p s hn h
  | point _ k ih => intro Q E p s hn h; exact ih () Q E p s hn h
  | register _ _ => intro Q E p s _ h; exact h
  | alloc o k ih => intro Q E p s hn h; exact ih _ Q E p _ hn h
  | fresh k ih => intro Q E p s hn h; exact ih _ Q E p _ hn h
  | ask k ih => intro Q E p s hn h; exact ih _ Q E p s hn h
  | choose src m k ih => intro Q E p s hn h; exact ⟨h.1, ih _ Q E p _ hn h.2⟩
  | os q _ k ih => intro Q E p s hn h; exact ih _ Q E p _ hn h
  | call c hd _ _ k ih => intro Q E p s hn h; obtain ⟨r, s', hr, h⟩ := h; exact ⟨r, s', hr, ih r Q E p s' (Nat.le_trans hn (runs_gens_le hr)) h⟩
  | handled own k ih => intro Q E p s hn h; exact ih _ Q E p s hn h
  | genState g k ih => intro Q E p s hn h; obtain ⟨st, hs, h⟩ := h; exact ⟨st, hs, ih _ Q E p s hn h⟩
  | newGen c k ih => intro Q E p s hn h; exact ih _ Q E p _ (by show n ≤ (s.gens.push _).size; rw [Array.size_push]; exact Nat.le_succ_of_le hn) h
  | resume g r _ k ih => intro Q E p s hn h; obtain ⟨res, s', hw, h⟩ := h; exact ⟨res, s', hw, ih res Q E p s' (Nat.le_trans hn (wakes_gens_le hw)) h⟩
  | yield _ _ _ _ => intro Q E p s _ h; exact h
  | stack k ih => intro Q E p s hn h; exact ih _ Q E p s hn h
  | fork _ _ => intro Q E p s _ h; exact h
  | thread k ih => intro Q E p s hn h; exact ih _ Q E p s hn h
  | await _ _ _ _ _ => intro Q E p s _ h; exact h

theorem wpAny_with_gens {α : Type} {M : Model} {A : Around} {s : Shared} {t : Sem α} {Q : α → Shared → Prop} {E : Value → Shared → Prop} {n : Nat} (hn : n ≤ s.gens.size)
    (h : wpAny M A t (fun a s' => n ≤ s'.gens.size → Q a s') (fun e s' => n ≤ s'.gens.size → E e s') s) : wpAny M A t Q E s :=
  wpAny_mono (Q := fun a s' => n ≤ s'.gens.size ∧ (n ≤ s'.gens.size → Q a s')) (E := fun e s' => n ≤ s'.gens.size ∧ (n ≤ s'.gens.size → E e s')) (fun Γ p hΓ => wp_gens M Γ n t _ _ p s hn (h Γ p hΓ)) (fun _ _ x => x.2 x.1) (fun _ _ x => x.2 x.1)

/-- the invariant speaks of the heap; the generators' array is bare -/
theorem inv_heap {X : Cx} {pins : List (Addr × Obj)} {σ : L2.St} {H : Hp} {s s' : Shared} (I : Inv X pins σ H s) (h : s'.heap = s.heap) (ho : s'.os = s.os) (hb : AllBare s'.gens) : Inv X pins σ H s' := by
  obtain ⟨h1, g1, d1, t1, o1⟩ := s
  obtain ⟨h2, g2, d2, t2, o2⟩ := s'
  obtain rfl : h2 = h1 := h
  obtain rfl : o2 = o1 := ho
  exact ⟨I.ok, I.os, hb, I.base, I.loc, I.cell, I.free, I.freeC, I.pin, I.hok, I.len⟩
theorem bare_set {s : Shared} {g : Nat} {x : GenState} (h : AllBare s.gens) (hx : x.bare = true) : AllBare (s.setGen g x).gens := by
  intro y hy
  have hy : y ∈ s.gens.setIfInBounds g x := hy
  obtain ⟨i, hi, e⟩ := Array.mem_iff_getElem.mp hy
  have hi2 : i < s.gens.size := by simpa using hi
  rw [Array.getElem_setIfInBounds hi2] at e
  split at e
  · rw [← e]; exact hx
  · rw [← e]; exact h _ (Array.getElem_mem _)
end GX
namespace GX
open PySem PySem.Spec PyProof.Rows L2 GxR

/-- the context of a generator's body -/
abbrev gCx (X : Cx) (s : Shared) (H : Hp) (ce : Env) (fp : List Addr) (A' : Around) : Cx := { X with s_0 := s, H_0 := H, env := ce, outer := X.stack, stack := ce :: X.stack, ex := fp, fn := fun _ => false, pn := [], xe := fun _ _ => False, A := A' }

section
variable {X : Cx} {pins : List (Addr × Obj)} {σ : L2.St} {H : Hp} {s : Shared}
theorem gen_start {scope : Scope} {own : List (Str × Nat)} {fp : List Addr} {code : Value} {ce : Env} {a : Addr} {go : Obj} {A' : Around} {s' : Shared} {m : Str → Option Value} (I : Inv X pins σ H s) (ok : BlkOk X.N X.env.scope scope own) (nc : ∀ y ∈ scope.names, y.2 ≠ .cell)
    (hN : X.N.Nodup) (hfp : ∀ b ∈ fp, FpOk X pins H b ∧ b < s.heap.objs.size) (hd : X.calm = true → A'.handled = none) (hfr : A'.frames = some (ce :: X.stack))
    (hce : ce = genEnv scope (cloFrom X.env.cells scope.names []) s.heap.objs.size code builtinsNs X.env) (kp : ∀ b o, s.heap.get? b = some o → s'.heap.get? b = some o) (hns : s'.heap.Ns s.heap.objs.size m)
    (hgo : s'.heap.get? a = some go) (hga : s.heap.objs.size < a) (hgd : ∀ v, go.data ≠ .cell v) (hos : s'.os = s.os) (hb : AllBare s'.gens) :
    Inv (gCx X s H ce fp A') [(a, go)] (wipe σ (own.map (·.2))) H s' := by
  have hfree : ∀ y ∈ scope.names, y.2 = .free → ∃ c, X.env.cells.lookup y.1 = some c := fun y hy e => by
    rcases ok.free y hy e with k | k
    · exact I.ok.has _ (.inl k)
    · exact I.ok.has _ (.inr k)
  have hL : ce.locals = s.heap.objs.size := by rw [hce]; rfl
  have hcl : ce.cells = cloFrom X.env.cells scope.names [] := by rw [hce]; rfl
  have hsc : ce.scope = scope := by rw [hce]; rfl
  have hfm : ce.frame = some ce.locals := by rw [hce]; rfl
  have cm : ∀ {y c}, ce.cells.lookup y = some c → X.env.cells.lookup y = some c ∧ c < s.heap.objs.size := fun {y c} e => by
    rw [hcl] at e
    rcases cloFrom_mem (PySem.mem_of_lookup e) with hm | ⟨h1, rfl⟩
    · cases hm
    · obtain ⟨c, hc⟩ := hfree _ h1 rfl
      rw [hc]
      obtain ⟨w, z⟩ := I.cell _ _ hc
      exact ⟨rfl, z.lt⟩
  have look : ∀ {y}, scope.names.lookup y = some .free → ∃ c, ce.cells.lookup y = some c ∧ X.env.cells.lookup y = some c := fun {y} hl => by
    have hy : (y, NameKind.free) ∈ scope.names := PySem.mem_of_lookup hl
    obtain ⟨c', e'⟩ := mem_lookup (cloFrom_has (cells := X.env.cells) (acc := []) hy)
    rw [← hcl] at e'
    exact ⟨c', e', (cm e').1⟩
  have stk : ∀ b ∈ frs X.stack, b < s.heap.objs.size := fun b hb => by
    obtain ⟨_, o, ho, _⟩ := I.stack.mem hb
    exact Heap.lt_size ho
  have okB : (gCx X s H ce fp A').Ok := by
    refine ⟨I.ok.mod, by show ce.scope.kind = _; rw [hsc]; exact ok.kind, by show ce.globals = _; rw [hce]; exact I.ok.glob, by show ce.builtins = _; rw [hce]; rfl, by show s.heap.objs.size ≤ ce.locals; rw [hL]; exact Nat.le_refl _,
      fun y z c e1 e2 => I.ok.inj y z c (cm e1).1 (cm e2).1, fun y hy => ?_, fun y c z e => (by cases z), hd, hfr, .inr ⟨rfl, hfm⟩, fun b hb => ⟨?_, fun y c e z => (hfp b hb).1.2.2.2.2.1 y c (cm e).1 z⟩, I.bs, Nat.le_trans I.ok.bsz I.sz, fun b o e hb => ?_, fun b hb z => ?_, I.stack, I.stkFree⟩
    · show ∃ c, ce.cells.lookup y = some c
      have hy : ce.scope.names.lookup y = some .cell ∨ ce.scope.names.lookup y = some .free := hy
      rw [hsc] at hy
      rcases hy with hy | hy
      · exact absurd rfl (nc _ (PySem.mem_of_lookup hy))
      · obtain ⟨c, h1, _⟩ := look hy
        exact ⟨c, h1⟩
    · show b ≠ ce.locals
      rw [hL]; exact Nat.ne_of_lt (hfp b hb).2
    · rcases (hfp b hb).1.2.2.2.1 with z | z
      · exact I.ok.noex b o e z
      · exact absurd (Nat.lt_of_lt_of_le (Heap.lt_size e) (Nat.le_trans I.ok.bsz z)) (Nat.lt_irrefl _)
    · rcases List.mem_cons.mp (I.stkSub b z) with z | z
      · exact (hfp b hb).1.2.1 z
      · exact (hfp b hb).1.2.2.1 z
  refine ⟨okB, hos, hb, Un.kept kp, ⟨m, ?_, fun i y av e1 e2 e3 => ?_⟩, fun y c e => ?_, ?_, fun y c e => I.freeC y c (cm e).1, fun p hp => ?_, I.hok.kept kp, by rw [wipe_length]; exact I.len⟩
  · show Heap.Ns _ ce.locals _
    rw [hL]
    exact hns
  · obtain ⟨e2, hne⟩ := wipe_some e2
    have e3 : Vis ce.scope y := e3
    rw [hsc] at e3
    have no : ∀ k, scope.names.lookup y = some k → ¬ (k = .local ∨ k = .cell) := fun k e hh => by
      rcases ok.own _ (PySem.mem_of_lookup e) hh with e' | e'
      · obtain ⟨p, hp, hpy⟩ := List.mem_map.mp e'
        have e3 := ok.ix p hp
        have : p.1 = y := hpy
        rw [this] at e3
        exact hne (List.mem_map.mpr ⟨p, hp, nodup_ix hN e3 e1⟩)
      · exact e' (List.mem_of_getElem? e1)
    have hfr : scope.names.lookup y = some .free := by
      rcases e3 with e3 | e3 | e3
      · exact absurd (.inl rfl) (no _ e3)
      · exact absurd (.inr rfl) (no _ e3)
      · exact e3
    obtain ⟨m, hn, hl⟩ := I.loc
    have hvis : Vis X.env.scope y := (ok.free _ (PySem.mem_of_lookup hfr) rfl).elim (fun k => .inr (.inl k)) (fun k => .inr (.inr k))
    obtain ⟨w, r, q⟩ := hl i y av e1 e2 hvis
    obtain ⟨c, h1, h2⟩ := look hfr
    refine ⟨w, r, .inr ⟨.inr (show ce.scope.names.lookup y = _ by rw [hsc]; exact hfr), c, h1, ?_⟩⟩
    rcases q with ⟨k, _⟩ | ⟨_, c', e', z⟩
    · have k : X.env.scope.names.lookup y = some .local := k
      rcases ok.free _ (PySem.mem_of_lookup hfr) rfl with k' | k' <;> rw [show X.env.scope.names.lookup y = _ from k'] at k <;> cases k
    · rw [h2] at e'; cases e'
      exact z.keeps kp
  · obtain ⟨w, z⟩ := I.cell y c (cm e).1
    exact ⟨w, z.keeps kp⟩
  · show H ce.locals = none
    rw [hL]; exact I.hok.fresh (Nat.le_refl _)
  · have hp : p ∈ [] ++ [(a, go)] := hp
    have e : p = (a, go) := by simpa using hp
    subst e
    refine ⟨hgo, I.hok.fresh (Nat.le_of_lt hga), ?_, fun z => ?_, hgd⟩
    · show a ≠ ce.locals
      rw [hL]; exact Nat.ne_of_gt hga
    · exact absurd (Nat.lt_trans (stk a z) hga) (Nat.lt_irrefl _)
end

/-- what is wanted of a walk: W by the turn and a measure; d: the item that ends it -/
def Wk (d : Bool) (J : It) (g : TG) (tt : TT) (te : TE) (vs : List Nat) (σ : L2.St) (W : Nat → Nat → Hp → Prop) (Qe Qd : Hp → Prop) : Prop := ∀ i m H, W i m H →
  (J.stop i H ∧ Qe H) ∨ (J.go i H ∧ ∃ Nx : Hp → Prop, (∀ H', Nx H' → ∃ m', m' < m ∧ W (i + 1) m' H') ∧ ∀ x H', J.yld i H x H' → g x (wipe σ vs) H' fun σ2 H2 => wipe σ2 vs = wipe σ vs ∧ tt σ2 H2 fun b H3 =>
    if b = true then te σ2 H3 fun y H4 => ∃ c, y = .bl c ∧ if c = d then Qd H4 else Nx H4 else Nx H3)

section
variable {Y : Cx} {A : Around} {σ : L2.St} {vs : List Nat} {a : Addr} {go : Obj}
def YE (Y : Cx) (a : Addr) (go : Obj) (ws : L2.St) (Qe : Hp → Prop) (s : Shared) : Prop := ∃ H, Inv Y [(a, go)] ws H s ∧ Qe H
def YP (d : Bool) (Y : Cx) (a : Addr) (go : Obj) (ws : L2.St) (Qd : Hp → Prop) : Protocol := fun _ _ v s kap =>
  ∃ c H, v = .bool c ∧ Inv Y [(a, go)] ws H s ∧ if c = d then Qd H else ∀ s'' : Shared, s''.heap = s.heap → s''.os = s.os → AllBare s''.gens → kap (.send .none) s''
abbrev YR (Y : Cx) (a : Addr) (go : Obj) (ws : L2.St) (Qe : Hp → Prop) : GenEnd := fun n s₀ r s₁ => r = .ok .next ∧ (fun (_ : Nat) (_ s₁ : Shared) => YE Y a go ws Qe s₁) n s₀ s₁

theorem seg_gl {d : Bool} {tg elt iter : Expr} {ifs : List Expr} {scope : Scope} {pos : Pos} {it : Addr} {fp : List Addr} {tn : Nat → Heap → Prop} {J : It} {g : TG} {tt : TT} {te : TE} {W : Nat → Nat → Hp → Prop} {Qe Qd : Hp → Prop}
    (hA : Y.A = A.over (.compLoop (.GeneratorExp elt [⟨tg, iter, ifs, 0⟩] scope pos) 0 (.ref it) .none Y.env) []) (hc : Y.calm = true) (hco : Y.env.scope.isCoroutine = false) (T : Turn Y.prog Y.w Y.K tg J fp it tn)
    (hx : Y.ex = fp) (hpn : Y.pn = []) (hafp : a ∉ fp) (pg : PG Y tg g) (pt : PTs Y ifs tt) (pe : PE Y elt te) (hW : Wk d J g tt te vs σ W Qe Qd) (hxe : Y.xe = fun _ _ => False) :
    ∀ (m n : Nat), m < n → ∀ (i : Nat) (H : Hp) (s₀ s : Shared), Inv Y [(a, go)] (wipe σ vs) H s → tn i s.heap → (∀ b ∈ fp, H b = none) → W i m H →
      Seg (model Y.prog Y.w) A (YR Y a go (wipe σ vs) Qe) (YP d Y a go (wipe σ vs) Qd) n s₀
        (.compLoop (.GeneratorExp elt [⟨tg, iter, ifs, 0⟩] scope pos) 0 (.ref it) .none Y.env)
        ((model Y.prog Y.w).den (.compLoop (.GeneratorExp elt [⟨tg, iter, ifs, 0⟩] scope pos) 0 (.ref it) .none Y.env)) [] s := by
  intro m
  induction m using Nat.strongRecOn with
  | _ m ih =>
  intro n hmn i H s₀ s I st nf w
  have stat : ∀ {ps : List (Addr × Obj)} {σ' : L2.St} {H' : Hp} {s' : Shared}, Inv Y [(a, go)] σ' H' s' → (∀ b ∈ fp, H' b = none) → ∀ b ∈ fp, FpOk Y [(a, go)] H' b := fun {ps σ' H' s'} I' hn b hb =>
    ⟨hn b hb, (I'.ok.exf b (hx ▸ hb)).1, I'.ok.exfs b (hx ▸ hb), .inl (hx ▸ hb), fun x c e => (I'.ok.exf b (hx ▸ hb)).2 x c e, fun p hp => by
      rw [hpn] at hp
      have e : p = (a, go) := by simpa using hp
      rw [e]
      exact fun z => hafp (by rw [show a = b from z]; exact hb)⟩
  show Seg _ A _ _ _ s₀ _ ((compTurn (.GeneratorExp elt [⟨tg, iter, ifs, 0⟩] scope pos) 0 (.ref it) .none Y.env).onRaise (leaving Y.env)) [] s
  rw [compTurn_gen, Sem.onRaise_eq_wrap]
  refine seg_bind_wrap (wpAny_standAt ?_)
  rcases hW i m H w with ⟨stop, qe⟩ | ⟨go1, Nx, hNx, step⟩
  · refine seg_bind_wrap ?_
    rw [← hA]
    refine thnF (T.done Y rfl rfl rfl hc i _ s _ H (fun _ _ => False) I (stat (ps := []) I nf) st stop) fun r s1 ⟨hr, I1⟩ => ?_
    subst hr
    exact seg_end (.ok .next) ⟨rfl, H, I1, qe⟩
  · refine seg_bind_wrap ?_
    rw [← hA]
    refine thnF (T.item Y rfl rfl rfl hc i _ s _ H (fun _ _ => False) I (stat (ps := []) I nf) st go1) fun r s1 ⟨u, hr, h1⟩ => ?_
    subst hr
    refine seg_bind_wrap ?_
    rw [← hA]
    refine thnF h1 fun _ s2 ⟨x, H2, I2, r2, y2, st2, n2⟩ => ?_
    have I2' := I2.pinned (stat (ps := []) I2 n2) (T.obj _ _ st2)
    have pg1 := pg.run _ s2 _ H2 x u _ I2' r2 (step x H2 y2)
    rw [hxe] at pg1
    refine seg_bind_wrap ?_
    rw [← hA]
    refine thnF pg1 fun _ s3 ⟨σ3, H3, I3, hw3, q3⟩ => ?_
    have pt1 := pt.run _ s3 σ3 H3 _ I3 q3
    rw [hxe] at pt1
    refine seg_bind_wrap ?_
    rw [← hA]
    refine thnF pt1 fun b s4 ⟨H4, I4, q4⟩ => ?_
    -- the turn's end
    have fin : ∀ {s' : Shared} {H' : Hp}, Inv Y ([(a, go)] ++ pinsAt fp s2.heap) σ3 H' s' → Inv Y [(a, go)] (wipe σ vs) H' s' ∧ tn (i + 1) s'.heap ∧ (∀ b ∈ fp, H' b = none) := fun {s' H'} I' => by
      have pin' : ∀ b ∈ fp, ∀ o, s2.heap.get? b = some o → s'.heap.get? b = some o ∧ H' b = none := fun b hb o e =>
        let z := I'.pin (b, o) (List.mem_append_right _ (List.mem_append_right _ (mem_pinsAt hb e)))
        ⟨z.1, z.2.1⟩
      have hl : (wipe σ vs).length = σ3.length := by rw [← hw3, wipe_length]
      refine ⟨(I'.unpinned (pins := [(a, go)])).weak hl (fun j v e => ?_), T.keep _ _ _ st2 fun b hb o e => (pin' b hb o e).1, fun b hb => ?_⟩
      · rw [← hw3] at e
        exact (wipe_some e).1
      · obtain ⟨o, e, _⟩ := T.obj _ _ st2 b hb
        exact (pin' b hb o e).2
    cases b with
    | false =>
      simp only [Bool.false_eq_true, if_false] at q4 ⊢
      obtain ⟨m', hm, w'⟩ := hNx H4 q4
      obtain ⟨J1, J2, J3⟩ := fin I4
      exact seg_again rfl (ih m' hm n (by omega) (i + 1) H4 s₀ s4 J1 J2 J3 w')
    | true =>
      simp only [if_true] at q4 ⊢
      have hy : ∀ v, yieldOut Y.env v = yieldValue v := fun v => by simp only [yieldOut, hco, Bool.false_eq_true, if_false]
      simp only [hy]
      have pe1 := pe.run _ s4 σ3 H4 _ I4 q4
      rw [hxe] at pe1
      rw [Sem.bind_eq_wrap', Sem.bind_eq_wrap', Sem.wrap_wrap, Sem.wrap_wrap]
      refine seg_wrap ?_
      rw [← hA]
      refine thnF pe1 fun z s5 ⟨y, H5, I5, r5, c, ec, q5⟩ => ?_
      subst ec
      cases r5
      obtain ⟨J1, J2, J3⟩ := fin I5
      by_cases hcd : c = d
      · rw [if_pos hcd] at q5
        obtain ⟨n, rfl⟩ : ∃ k, n = k + 1 := ⟨n - 1, by omega⟩
        exact seg_at (seg_yield rfl rfl rfl ⟨c, H5, rfl, J1, by rw [if_pos hcd]; exact q5⟩)
      · rw [if_neg hcd] at q5
        obtain ⟨m', hm, w'⟩ := hNx H5 q5
        obtain ⟨n, rfl⟩ : ∃ k, n = k + 1 := ⟨n - 1, by omega⟩
        refine seg_at (seg_yield rfl rfl rfl ⟨c, H5, rfl, J1, ?_⟩)
        rw [if_neg hcd]
        intro s'' h1 h2 h3
        exact seg_again rfl (ih m' hm n (by omega) (i + 1) H5 s'' s'' (inv_heap J1 h1 h2 h3) (by rw [h1]; exact J2) J3 w')
end
end GX
namespace GX
open PySem PySem.Spec PyProof.Rows L2 GxR

section
variable {Y : Cx} {A : Around} {σ : L2.St} {vs : List Nat} {a : Addr} {go : Obj}
theorem seg_gs {d : Bool} {tg elt iter : Expr} {ifs : List Expr} {scope : Scope} {pos : Pos} {it : Addr} {fp : List Addr} {tn : Nat → Heap → Prop} {J : It} {g : TG} {tt : TT} {te : TE} {W : Nat → Nat → Hp → Prop} {Qe Qd : Hp → Prop}
    (hA : Y.A = A.over (.compLoop (.GeneratorExp elt [⟨tg, iter, ifs, 0⟩] scope pos) 0 (.ref it) .none Y.env) []) (hc : Y.calm = true) (hco : Y.env.scope.isCoroutine = false) (T : Turn Y.prog Y.w Y.K tg J fp it tn)
    (hx : Y.ex = fp) (hpn : Y.pn = []) (hafp : a ∉ fp) (pg : PG Y tg g) (pt : PTs Y ifs tt) (pe : PE Y elt te) (hW : Wk d J g tt te vs σ W Qe Qd) (hxe : Y.xe = fun _ _ => False)
    (m : Nat) (H : Hp) (s₀ s : Shared) (I : Inv Y [(a, go)] (wipe σ vs) H s) (st : tn 0 s.heap) (nf : ∀ b ∈ fp, H b = none) (w : W 0 m H) :
      Seg (model Y.prog Y.w) A (YR Y a go (wipe σ vs) Qe) (YP d Y a go (wipe σ vs) Qd) (m + 1) s₀
        (.compStart (.GeneratorExp elt [⟨tg, iter, ifs, 0⟩] scope pos) 0 (.ref it) .none Y.env)
        ((model Y.prog Y.w).den (.compStart (.GeneratorExp elt [⟨tg, iter, ifs, 0⟩] scope pos) 0 (.ref it) .none Y.env)) [] s := by
  have loop := seg_gl (iter := iter) (scope := scope) (pos := pos) hA hc hco T hx hpn hafp pg pt pe hW hxe m (m + 1) (Nat.lt_succ_self m) 0 H s₀ s I st nf w
  show Seg _ A _ _ _ s₀ _ ((compStart (.GeneratorExp elt [⟨tg, iter, ifs, 0⟩] scope pos) 0 (.ref it) .none Y.env).onRaise (leaving Y.env)) [] s
  unfold compStart
  rw [Sem.onRaise_eq_wrap]
  show Seg _ A _ _ _ s₀ _ ((ask >>= _).wrap _ _ _ _) [] s
  refine seg_bind_wrap (wpAny_askSetting ?_)
  split
  · exact seg_again rfl loop
  · first
      | exact seg_bind_wrap (wpAny_rule (seg_bind_wrap (wpAny_standAt (seg_bind_wrap (T.self _ 0 s _ _ st (seg_again rfl loop))))))
      | (refine seg_bind_wrap (wpAny_rule ?_); show Seg _ A _ _ _ s₀ _ ((standAt iter.pos >>= _).wrap _ _ _ _) [] s; exact seg_bind_wrap (wpAny_standAt (seg_bind_wrap (T.self _ 0 s _ _ st (seg_again rfl loop)))))

/-- the loop of all(..) -/
theorem loop_all {prog : Program} {w : World} {gn : Nat} {ws : L2.St} {Qe Qd : Hp → Prop} {Rr : Result → Shared → Prop} (hh : A.handled = none) (hroom : A.depth < recursionLimit) (hgo : ∀ h : Heap, h.get? a = some go → h.IsGen a gn)
    (hT : ∀ s₁ h', YE Y a go ws Qe s₁ → (∀ b o, s₁.heap.get? b = some o → h'.get? b = some o) → Rr (.ok (.ret (.bool true))) { s₁.setGen gn .finished with heap := h' })
    (hF : ∀ s₁ gs' H, gs'.bare = true → Inv Y [(a, go)] ws H s₁ → Qd H → Rr (.ok (.ret (.bool false))) (s₁.setGen gn gs')) :
    ∀ (n : Nat) (s : Shared) (gs : GenState), s.heap.get? a = some go → s.heap.NoLimit → AllBare s.gens → s.gens[gn]? = some gs →
      (∀ s'' : Shared, s''.heap = s.heap → s''.os = s.os → AllBare s''.gens → gs.Goes (model prog w) A.in1.in1 (YR Y a go ws Qe) (YP false Y a go ws Qd) n (.send .none) s'') →
      codeAny (model prog w) A (.builtin "all.loop" ⟨[.ref a], []⟩) Rr s := by
  intro n
  induction n with
  | zero =>
    intro s gs hg hl hb hgs hgoes
    refine codeAny_builtin F.entry_all_loop ?_
    rw [Around.under_plainId F.plain_all_loop _]
    show wpAny _ A.in1 (pyNext (.ref a) >>= _) _ _ s
    refine wpAny_bind (wpAny_pyNext_genexpQ (P := fun _ _ s₁ => YE Y a go ws Qe s₁) hh hl hroom (hgo _ hg) hgs (hgoes _ rfl rfl (bare_set hb rfl)) (fun v s₁ gs' hb' hv => ?_) (fun s₁ hp h' hk => ?_))
    · obtain ⟨c, H, rfl, I, q⟩ := hv
      cases c with
      | false =>
        rw [if_pos rfl] at q
        refine wpAny_bind (wpAny_holding (wpAny_truthy_bool (wpAny_bind (wpAny_letGo ?_))))
        refine wpAny_bind (wpAny_rule (wpAny_pure ?_))
        exact hF s₁ gs' H hb' I q
      | true =>
        rw [if_neg (by decide)] at q
        exact (q s₁ rfl rfl I.bare).elim
    · refine wpAny_bind (wpAny_rule (wpAny_pure ?_))
      exact hT s₁ h' hp hk
  | succ n ih =>
    intro s gs hg hl hb hgs hgoes
    have hlt : gn < s.gens.size := by
      rcases Nat.lt_or_ge gn s.gens.size with h' | h'
      · exact h'
      · rw [Array.getElem?_eq_none h'] at hgs; cases hgs
    refine codeAny_builtin F.entry_all_loop ?_
    rw [Around.under_plainId F.plain_all_loop _]
    show wpAny _ A.in1 (pyNext (.ref a) >>= _) _ _ s
    refine wpAny_bind (wpAny_with_gens (Nat.le_refl s.gens.size) (wpAny_pyNext_genexpQ (P := fun _ _ s₁ => YE Y a go ws Qe s₁) hh hl hroom (hgo _ hg) hgs (hgoes _ rfl rfl (bare_set hb rfl)) (fun v s₁ gs' hb' hv => ?_) (fun s₁ hp h' hk => ?_)))
    · intro hsz
      have hsz : s.gens.size ≤ s₁.gens.size := by
        have z : s.gens.size ≤ (s₁.setGen gn gs').gens.size := hsz
        simpa [Shared.setGen] using z
      obtain ⟨c, H, rfl, I, q⟩ := hv
      cases c with
      | false =>
        rw [if_pos rfl] at q
        refine wpAny_bind (wpAny_holding (wpAny_truthy_bool (wpAny_bind (wpAny_letGo ?_))))
        refine wpAny_bind (wpAny_rule (wpAny_pure ?_))
        exact hF s₁ gs' H hb' I q
      | true =>
        rw [if_neg (by decide)] at q
        refine wpAny_bind (wpAny_holding (wpAny_truthy_bool (wpAny_bind (wpAny_letGo ?_))))
        refine wpAny_pure ⟨plainId_quiet F.plain_all_loop _, ih (s₁.setGen gn gs') gs' ?_ ?_ (bare_set I.bare hb') ?_ fun s'' h1 h2 h3 => q s'' h1 h2 h3⟩
        · exact (I.pin (a, go) (List.mem_append_right _ (List.mem_singleton.mpr rfl))).1
        · exact I.nolimit
        · show (s₁.gens.setIfInBounds gn gs')[gn]? = some gs'
          rw [Array.getElem?_setIfInBounds_self_of_lt (Nat.lt_of_lt_of_le hlt hsz)]
    · intro _
      refine wpAny_bind (wpAny_rule (wpAny_pure ?_))
      exact hT s₁ h' hp hk

/-- the loop of any(..) -/
theorem loop_any {prog : Program} {w : World} {gn : Nat} {ws : L2.St} {Qe Qd : Hp → Prop} {Rr : Result → Shared → Prop} (hh : A.handled = none) (hroom : A.depth < recursionLimit) (hgo : ∀ h : Heap, h.get? a = some go → h.IsGen a gn)
    (hT : ∀ s₁ h', YE Y a go ws Qe s₁ → (∀ b o, s₁.heap.get? b = some o → h'.get? b = some o) → Rr (.ok (.ret (.bool false))) { s₁.setGen gn .finished with heap := h' })
    (hF : ∀ s₁ gs' H, gs'.bare = true → Inv Y [(a, go)] ws H s₁ → Qd H → Rr (.ok (.ret (.bool true))) (s₁.setGen gn gs')) :
    ∀ (n : Nat) (s : Shared) (gs : GenState), s.heap.get? a = some go → s.heap.NoLimit → AllBare s.gens → s.gens[gn]? = some gs →
      (∀ s'' : Shared, s''.heap = s.heap → s''.os = s.os → AllBare s''.gens → gs.Goes (model prog w) A.in1.in1 (YR Y a go ws Qe) (YP true Y a go ws Qd) n (.send .none) s'') →
      codeAny (model prog w) A (.builtin "any.loop" ⟨[.ref a], []⟩) Rr s := by
  intro n
  induction n with
  | zero =>
    intro s gs hg hl hb hgs hgoes
    refine codeAny_builtin F.entry_any_loop ?_
    rw [Around.under_plainId F.plain_any_loop _]
    show wpAny _ A.in1 (pyNext (.ref a) >>= _) _ _ s
    refine wpAny_bind (wpAny_pyNext_genexpQ (P := fun _ _ s₁ => YE Y a go ws Qe s₁) hh hl hroom (hgo _ hg) hgs (hgoes _ rfl rfl (bare_set hb rfl)) (fun v s₁ gs' hb' hv => ?_) (fun s₁ hp h' hk => ?_))
    · obtain ⟨c, H, rfl, I, q⟩ := hv
      cases c with
      | true =>
        rw [if_pos rfl] at q
        refine wpAny_bind (wpAny_holding (wpAny_truthy_bool (wpAny_bind (wpAny_letGo ?_))))
        refine wpAny_bind (wpAny_rule (wpAny_pure ?_))
        exact hF s₁ gs' H hb' I q
      | false =>
        rw [if_neg (by decide)] at q
        exact (q s₁ rfl rfl I.bare).elim
    · refine wpAny_bind (wpAny_rule (wpAny_pure ?_))
      exact hT s₁ h' hp hk
  | succ n ih =>
    intro s gs hg hl hb hgs hgoes
    have hlt : gn < s.gens.size := by
      rcases Nat.lt_or_ge gn s.gens.size with h' | h'
      · exact h'
      · rw [Array.getElem?_eq_none h'] at hgs; cases hgs
    refine codeAny_builtin F.entry_any_loop ?_
    rw [Around.under_plainId F.plain_any_loop _]
    show wpAny _ A.in1 (pyNext (.ref a) >>= _) _ _ s
    refine wpAny_bind (wpAny_with_gens (Nat.le_refl s.gens.size) (wpAny_pyNext_genexpQ (P := fun _ _ s₁ => YE Y a go ws Qe s₁) hh hl hroom (hgo _ hg) hgs (hgoes _ rfl rfl (bare_set hb rfl)) (fun v s₁ gs' hb' hv => ?_) (fun s₁ hp h' hk => ?_)))
    · intro hsz
      have hsz : s.gens.size ≤ s₁.gens.size := by
        have z : s.gens.size ≤ (s₁.setGen gn gs').gens.size := hsz
        simpa [Shared.setGen] using z
      obtain ⟨c, H, rfl, I, q⟩ := hv
      cases c with
      | true =>
        rw [if_pos rfl] at q
        refine wpAny_bind (wpAny_holding (wpAny_truthy_bool (wpAny_bind (wpAny_letGo ?_))))
        refine wpAny_bind (wpAny_rule (wpAny_pure ?_))
        exact hF s₁ gs' H hb' I q
      | false =>
        rw [if_neg (by decide)] at q
        refine wpAny_bind (wpAny_holding (wpAny_truthy_bool (wpAny_bind (wpAny_letGo ?_))))
        refine wpAny_pure ⟨plainId_quiet F.plain_any_loop _, ih (s₁.setGen gn gs') gs' ?_ ?_ (bare_set I.bare hb') ?_ fun s'' h1 h2 h3 => q s'' h1 h2 h3⟩
        · exact (I.pin (a, go) (List.mem_append_right _ (List.mem_singleton.mpr rfl))).1
        · exact I.nolimit
        · show (s₁.gens.setIfInBounds gn gs')[gn]? = some gs'
          rw [Array.getElem?_setIfInBounds_self_of_lt (Nat.lt_of_lt_of_le hlt hsz)]
    · intro _
      refine wpAny_bind (wpAny_rule (wpAny_pure ?_))
      exact hT s₁ h' hp hk
end

theorem room_over {k : Nat} {A : Around} {elt : Expr} {gs : List Comprehension} {scope : Scope} {pos : Pos} {it acc : Value} {ce : Env} (hr : Room (k + 1) A) : Room k (A.in1.in1.over (.compLoop (.GeneratorExp elt gs scope pos) 0 it acc ce) []) := by
  have h1 := hr.hd
  have h2 := hr.dp
  have h3 := hr.un
  have w : (Code.compLoop (.GeneratorExp elt gs scope pos) 0 it acc ce).weight = 1 := rfl
  have u : (Code.compLoop (.GeneratorExp elt gs scope pos) 0 it acc ce).cUnits = 3 := rfl
  refine ⟨h1, ?_, ?_⟩
  · show A.depth + 0 + _ + 3 * k + 5 < _
    rw [w]; omega
  · show A.units + 1 + 1 + 0 + _ + 16 * k + 200 < _
    rw [u]; omega
theorem frames_over {A : Around} {elt : Expr} {gs : List Comprehension} {scope : Scope} {pos : Pos} {it acc : Value} {ce : Env} {l : List Env} (hf : A.frames = some l) : (A.in1.in1.over (.compLoop (.GeneratorExp elt gs scope pos) 0 it acc ce) []).frames = some (ce :: l) := by
  show pushEnvs [ce] (pushEnvs [] A.frames) = _
  rw [hf]; rfl
end GX
namespace GX
open PySem PySem.Spec PyProof.Rows L2 GxR

/-- a generator expression's names, code, table -/
structure GenX (X : Cx) (scope : Scope) (own : List (Str × Nat)) (c P : Addr) : Prop where
  ok : BlkOk X.N X.env.scope scope own
  nc : ∀ y ∈ scope.names, y.2 ≠ .cell
  co : scope.isCoroutine = false
  dot : scope.names.lookup (".0" : Str) = some NameKind.local
  tb : TabB X.base X.mg c P
  code : X.env.code = .ref c

abbrev gEnv (X : Cx) (scope : Scope) (C : Addr) (code : Value) : Env := genEnv scope (cloFrom X.env.cells scope.names []) C code builtinsNs X.env

section
variable {X : Cx} {pins : List (Addr × Obj)} {σ : L2.St} {H : Hp} {s : Shared}
/-- the generator is made -/
def GReady (d : Bool) (X : Cx) (pins : List (Addr × Obj)) (σ : L2.St) (Qe Qd : Hp → Prop) (u : Value) (s5 : Shared) : Prop :=
  ∃ (a : Addr) (gn : Nat) (go : Obj) (Y : Cx) (ws : L2.St) (n : Nat) (gs : GenState), u = .ref a ∧ (∀ h : Heap, h.get? a = some go → h.IsGen a gn) ∧ s5.heap.get? a = some go ∧ s5.heap.NoLimit ∧ AllBare s5.gens ∧ s5.gens[gn]? = some gs ∧
    (∀ s'' : Shared, s''.heap = s5.heap → s''.os = s5.os → AllBare s''.gens → gs.Goes (model X.prog X.w) X.A.in1.in1 (YR Y a go ws Qe) (YP d Y a go ws Qd) n (.send .none) s'') ∧
    (∀ s₁ H s', Inv Y [(a, go)] ws H s₁ → s'.os = s₁.os → (∀ b o, s₁.heap.get? b = some o → s'.heap.get? b = some o) → AllBare s'.gens → Inv X pins σ H s')

theorem gen_makeG {d : Bool} {tg elt iter : Expr} {ifs : List Expr} {scope : Scope} {own : List (Str × Nat)} {gpos : Pos} {c P : Addr} {wi : TI} {g : TG} {tt : TT} {te : TE} {k : Nat} {Qe Qd : Hp → Prop}
    (hr : Room (k + 1) X.A) (hc : X.calm = true) (hN : X.N.Nodup) (G : GenX X scope own c P) (hs : ∀ v, genFold iter X.env v = pure v) (hi : PI X tg iter wi)
    (hg : ∀ (s : Shared) (H : Hp) (C : Addr) (code : Value) (fp : List Addr) (A' : Around), Room k A' → PG (gCx X s H (gEnv X scope C code) fp A') tg g)
    (ht : ∀ (s : Shared) (H : Hp) (C : Addr) (code : Value) (fp : List Addr) (A' : Around), Room k A' → PTs (gCx X s H (gEnv X scope C code) fp A') ifs tt)
    (he : ∀ (s : Shared) (H : Hp) (C : Addr) (code : Value) (fp : List Addr) (A' : Around), Room k A' → PE (gCx X s H (gEnv X scope C code) fp A') elt te)
    (I : Inv X pins σ H s)
    (h : wi σ H fun J H1 => TabG H1 P ∧ ∀ H2, Tabbed P H1 H2 → ∃ W : Nat → Nat → Hp → Prop, (∃ m, W 0 m H2) ∧ Wk d J g tt te (own.map (·.2)) σ W Qe Qd) :
    wpAny (model X.prog X.w) X.A (eval (.GeneratorExp elt [⟨tg, iter, ifs, 0⟩] scope gpos) X.env) (GReady d X pins σ Qe Qd) X.xe s := by
  have ok := G.ok
  have hfree : ∀ y ∈ scope.names, y.2 = .free → ∃ c, X.env.cells.lookup y.1 = some c := fun y hy e => by
    rcases ok.free y hy e with k | k
    · exact I.ok.has _ (.inl k)
    · exact I.ok.has _ (.inr k)
  have dp := hr.dp
  refine wpAny_GeneratorExp_make G.co (closure_ok hfree) G.nc G.dot ok.kind (by omega) (thn (hi.run pins s σ H _ I h) fun xv s1 hx => thn hx fun itv s2 h2 => ?_) hs
  obtain ⟨it, fp, tn, J, H1, e, I1, T, st1, f1, ⟨ps, hP, hps⟩, q⟩ := h2
  subst e
  refine ⟨I1.nolimit, ?_⟩
  have tb0 : s2.heap.get? P = some { cls := .none, data := .fields ps } := I1.hok P _ hP
  have code1 : PySem.W.CodeHd s2.heap c P := G.tb.code.keeps fun b o e => I1.bk b o e
  have rest : ∀ (code : Value) (h3 : Heap) (tk : Nat) (ps3 : Array Value), Heap.ExtBut P s2.heap h3 → s2.heap.objs.size ≤ h3.objs.size → h3.get? P = some { cls := .none, data := .fields ps3 } →
      (∃ q, ps3 = ps ++ q) → TriplesOk ps3.toList →
      wpAny (model X.prog X.w) X.A (builtinsFor X.env.globals X.env.builtins) (fun bi s4 => ∀ h', h'.Ns s4.heap.objs.size (fun y => if y = ".0" then some (Value.ref it) else none) → Heap.SameBut s4.heap.objs.size (s4.heap.push { cls := .type "frame", data := .dict #[] }) h' →
          GReady d X pins σ Qe Qd (.ref h'.objs.size) { s4 with
            gens := s4.gens.push (.fresh (.compStart (.GeneratorExp elt [⟨tg, iter, ifs, 0⟩] scope gpos) 0 (.ref it) .none (genEnv scope (cloFrom X.env.cells scope.names []) s4.heap.objs.size code bi X.env))),
            toks := s4.toks + 1 + 1 + 1,
            heap := h'.push { cls := .type "generator", data := .fields #[.int s4.gens.size 0, .str "<genexpr>" (s4.toks + 1), .str (X.env.qual ++ "<genexpr>") (s4.toks + 1 + 1)] } }) X.xe { s2 with heap := h3, toks := tk } := by
    intro code h3 tk ps3 ext le3 tb3 ⟨qq, hq⟩ ok3
    obtain ⟨bm, om, m1, m2, m3, m4, m5, m6, m7, m8⟩ := G.tb.bm
    have k3 : ∀ b o, b ≠ P → s2.heap.get? b = some o → h3.get? b = some o := fun b o ne e => ext b o ne e
    refine wpAny_builtinsFor (m := X.mg) ?_ m1 m2 (k3 _ _ m4 (I1.bk _ _ m5)) m6 m7 m8 ?_
    · rw [I1.ok.glob]
      exact (I1.mod.glob.keeps I1.bk).extBut ext G.tb.gP
    rw [hq] at tb3
    have I4 : Inv X pins σ (upd H1 P (.tbl (ps ++ qq))) { s2 with heap := h3, toks := tk } := inv_tab (g' := s2.gens) (d' := s2.drawn) (t' := tk) I1 hP k3 tb3 I1.bare
    generalize hH4 : upd H1 P (.tbl (ps ++ qq)) = H4 at I4
    have TbG : Tabbed P H1 H4 := by
      subst hH4
      exact ⟨⟨ps ++ qq, upd_same, by rw [← hq]; exact ok3⟩, fun b ne => upd_ne ne⟩
    have nP : ∀ b ∈ fp, b ≠ P := fun b hb z => by
      have := (f1 b hb).1
      rw [z, hP] at this
      cases this
    have sz : ∀ b ∈ fp, b < s2.heap.objs.size := fun b hb => by
      obtain ⟨o, e, _⟩ := T.obj _ _ st1 b hb
      exact Heap.lt_size e
    have f4 : ∀ b ∈ fp, FpOk X pins H4 b ∧ b < h3.objs.size := fun b hb =>
      ⟨⟨by rw [TbG.2 b (nP b hb)]; exact (f1 b hb).1, (f1 b hb).2⟩, Nat.lt_of_lt_of_le (sz b hb) le3⟩
    have st3 : tn 0 h3 := T.keep _ _ _ st1 fun b hb o e => k3 b o (nP b hb) e
    obtain ⟨W, ⟨m0, w0⟩, hW⟩ := q H4 TbG
    generalize hs4 : ({ s2 with heap := h3, toks := tk } : Shared) = s4 at I4 ⊢
    have hh4 : s4.heap = h3 := by rw [← hs4]
    have f4 : ∀ b ∈ fp, FpOk X pins H4 b ∧ b < s4.heap.objs.size := by rw [hh4]; exact f4
    have st4 : tn 0 s4.heap := by rw [hh4]; exact st3
    intro h' hn' hs'
    have hsz : h'.objs.size = s4.heap.objs.size + 1 := by rw [hs'.1, Heap.size_push]
    have keep' : ∀ b o, s4.heap.get? b = some o → h'.get? b = some o := fun b o e => hs'.extBut b o (Nat.ne_of_lt (Heap.lt_size e)) (Heap.get?_push_of_some _ e)
    generalize hgo : ({ cls := .type "generator", data := .fields #[.int s4.gens.size 0, .str "<genexpr>" (s4.toks + 1), .str (X.env.qual ++ "<genexpr>") (s4.toks + 1 + 1)] } : Obj) = go
    have gog : ∀ h : Heap, h.get? h'.objs.size = some go → h.IsGen h'.objs.size s4.gens.size := fun h e => by
      rw [← hgo] at e
      exact ⟨_, _, _, e, rfl, rfl, rfl⟩
    have keep5 : ∀ b o, s4.heap.get? b = some o → (h'.push go).get? b = some o := fun b o e => Heap.get?_push_of_some _ (keep' b o e)
    have gfree : go.isFreed = false := by rw [← hgo]; rfl
    have hgoAt : (h'.push go).get? h'.objs.size = some go := Heap.get?_push_size _ gfree
    generalize hce : genEnv scope (cloFrom X.env.cells scope.names []) s4.heap.objs.size code builtinsNs X.env = ce
    generalize hA' : X.A.in1.in1.over (.compLoop (.GeneratorExp elt [⟨tg, iter, ifs, 0⟩] scope gpos) 0 (.ref it) .none ce) [] = A'
    have rm : Room k A' := by rw [← hA']; exact room_over hr
    have fr : A'.frames = some (ce :: X.stack) := by rw [← hA']; exact frames_over I1.ok.frames
    have bare5 : ∀ (x : GenState), x.bare = true → AllBare (s4.gens.push x) := fun x hx => I4.bare.push hx
    have I5 : ∀ (gs : Array GenState) (tk5 : Nat), AllBare gs → Inv (gCx X s4 H4 ce fp A') [(h'.objs.size, go)] (wipe σ (own.map (·.2))) H4 { s4 with gens := gs, toks := tk5, heap := h'.push go } := fun gs tk5 hb =>
      gen_start (X := X) (s := s4) (H := H4) (scope := scope) (own := own) (code := code) (m := fun y => if y = ".0" then some (Value.ref it) else none) I4 ok G.nc hN f4 (fun _ => rm.hd) fr hce.symm keep5 (hn'.push _) hgoAt (by rw [hsz]; exact Nat.lt_succ_self _) (fun v z => by rw [← hgo] at z; cases z) rfl hb
    have pg := hg s4 H4 s4.heap.objs.size code fp A' rm
    have pt := ht s4 H4 s4.heap.objs.size code fp A' rm
    have pe := he s4 H4 s4.heap.objs.size code fp A' rm
    have hce' : gEnv X scope s4.heap.objs.size code = ce := hce
    rw [hce'] at pg pt pe
    have cco : ce.scope.isCoroutine = false := by rw [← hce]; exact G.co
    refine ⟨h'.objs.size, s4.gens.size, go, gCx X s4 H4 ce fp A', wipe σ (own.map (·.2)), m0 + 1, _, rfl, gog, hgoAt, I4.nolimit.keeps keep5, bare5 _ rfl, Array.getElem?_push_size .., fun s'' h1 h2 h3' => ⟨rfl, ?_⟩, fun s₁ H' s' I6 ho kk hb => ?_⟩
    · refine seg_gs (Y := gCx X s4 H4 ce fp A') (fp := fp) (tn := tn) (J := J) (W := W) hA'.symm hc cco T rfl rfl (fun z => ?_) pg pt pe hW rfl m0 H4 s'' s'' (inv_heap (I5 (s4.gens.push .finished) 0 (bare5 _ rfl)) h1 h2 h3') ?_ (fun b hb => (f4 b hb).1.1) w0
      · have z2 : h'.objs.size < s4.heap.objs.size := (f4 _ z).2
        rw [hsz] at z2
        exact absurd z2 (by omega)
      · rw [h1]
        exact T.keep _ _ _ st4 fun b _ o e => keep5 b o e
    · exact I4.call' (ch := fp) (ho.trans I6.os) (Un.trans I6.base (Un.kept kk)) (I6.hok.kept kk) hb fun b hb => ⟨(f4 b hb).1.2.2.2.1, (f4 b hb).1.2.1, (f4 b hb).1.2.2.2.2.1, (f4 b hb).1.2.2.2.2.2⟩
  cases hcd : codeAmong gpos ps.toList with
  | some cv =>
    exact wpAny_genexprCode_hit G.code (code1.code tb0 hps) hcd (rest cv _ s2.toks ps (Heap.ExtBut.refl _ _) (Nat.le_refl _) tb0 ⟨#[], (Array.append_empty).symm⟩ hps)
  | none =>
    refine wpAny_genexprCodeX G.code (code1.code tb0 hps) (code1.tab tb0) hcd ?_
    intro c' h' tk ext ge lt isC _ tab' _
    obtain ⟨o1, v1, f1, f2, f3, f4, f5, f6, f7, f8, _, _, _, _, _, _, _, _, _, okT, _⟩ := isC
    exact rest _ h' tk _ ext (Nat.le_trans ge (Nat.le_of_lt lt)) tab'.2 ⟨_, rfl⟩ okT

/-- all(elt for tg in iter if ..), any(..): W by the turn and a measure -/
def tWalk (d : Bool) (P : Addr) (wi : TI) (g : TG) (tt : TT) (te : TE) (vs : List Nat) : TE := fun σ H Q => wi σ H fun J H1 => TabG H1 P ∧ ∀ H2, Tabbed P H1 H2 → ∃ W : Nat → Nat → Hp → Prop, (∃ m, W 0 m H2) ∧
  Wk d J g tt te vs σ W (fun H => Q (.bl (!d)) H) (fun H => Q (.bl d) H)

theorem pe_allG {tg elt iter : Expr} {ifs : List Expr} {scope : Scope} {own : List (Str × Nat)} {gpos p pos : Pos} {c P : Addr} {wi : TI} {g : TG} {tt : TT} {te : TE} {k : Nat}
    (hr : Room (k + 1) X.A) (hc : X.calm = true) (hN : X.N.Nodup) (hgl : Gl X "all") (hm : X.mg "all" = none) (G : GenX X scope own c P) (hi : PI X tg iter wi)
    (hg : ∀ (s : Shared) (H : Hp) (C : Addr) (code : Value) (fp : List Addr) (A' : Around), Room k A' → PG (gCx X s H (gEnv X scope C code) fp A') tg g)
    (ht : ∀ (s : Shared) (H : Hp) (C : Addr) (code : Value) (fp : List Addr) (A' : Around), Room k A' → PTs (gCx X s H (gEnv X scope C code) fp A') ifs tt)
    (he : ∀ (s : Shared) (H : Hp) (C : Addr) (code : Value) (fp : List Addr) (A' : Around), Room k A' → PE (gCx X s H (gEnv X scope C code) fp A') elt te)
    (hs : ∀ v, genFold iter X.env v = pure v)
    (hst : starEach [.GeneratorExp elt [⟨tg, iter, ifs, 0⟩] scope gpos] X.env = (false, eval (.GeneratorExp elt [⟨tg, iter, ifs, 0⟩] scope gpos) X.env) :: starEach [] X.env := by rfl) :
    PE X (.Call (.Name "all" p) [.GeneratorExp elt [⟨tg, iter, ifs, 0⟩] scope gpos] [] pos) (tWalk false P wi g tt te (own.map (·.2))) := by
  refine ⟨fun pins s σ H Q I h => ?_⟩
  refine wpAny_Call_Name_kw (ld_blt I hgl hm (show bootBuiltins "all" = some (.builtin "all") by decide +kernel) ?_)
  refine PyProof.Rows.callWith_builtin1 ?_ hst (by rfl)
  rw [hst]
  have dp := hr.dp
  refine Calls.spliced_cons (thn (gen_makeG (d := false) hr hc hN G hs hi hg ht he I h) fun u s5 R => ?_)
  obtain ⟨a, gn, go, Y, ws, n, gs, rfl, gog, hgo, hl, hb, hgs, goes, back⟩ := R
  refine Calls.spliced_nil (call_function_tree F.kind_all F.plain_all F.entry_all (F.args_all1 _) ?_)
  unfold Builtin.«all»
  refine wpAny_bind (m := oneArg "all" _) (wpAny_pure ?_)
  refine wpAny_bind (wpAny_pyIter_gen (gog _ hgo) (wpAny_pure ⟨plainId_quiet F.plain_all_loop _, loop_all (Y := Y) (go := go) (ws := ws) (Qe := fun H => Q (.bl (!false)) H) (Qd := fun H => Q (.bl false) H) hr.hd (by omega) gog (fun s₁ h' ⟨H', I', q⟩ hk => ?_) (fun s₁ gs' H' hb' I' q => ?_) n s5 gs hgo hl hb hgs goes⟩))
  · exact ⟨.bl false, H', back s₁ H' _ I' rfl (fun _ _ e => e) (bare_set I'.bare hb'), rfl, q⟩
  · exact ⟨.bl true, H', back s₁ H' _ I' rfl hk (bare_set I'.bare rfl), rfl, q⟩

theorem pe_anyG {tg elt iter : Expr} {ifs : List Expr} {scope : Scope} {own : List (Str × Nat)} {gpos p pos : Pos} {c P : Addr} {wi : TI} {g : TG} {tt : TT} {te : TE} {k : Nat}
    (hr : Room (k + 1) X.A) (hc : X.calm = true) (hN : X.N.Nodup) (hgl : Gl X "any") (hm : X.mg "any" = none) (G : GenX X scope own c P) (hi : PI X tg iter wi)
    (hg : ∀ (s : Shared) (H : Hp) (C : Addr) (code : Value) (fp : List Addr) (A' : Around), Room k A' → PG (gCx X s H (gEnv X scope C code) fp A') tg g)
    (ht : ∀ (s : Shared) (H : Hp) (C : Addr) (code : Value) (fp : List Addr) (A' : Around), Room k A' → PTs (gCx X s H (gEnv X scope C code) fp A') ifs tt)
    (he : ∀ (s : Shared) (H : Hp) (C : Addr) (code : Value) (fp : List Addr) (A' : Around), Room k A' → PE (gCx X s H (gEnv X scope C code) fp A') elt te)
    (hs : ∀ v, genFold iter X.env v = pure v)
    (hst : starEach [.GeneratorExp elt [⟨tg, iter, ifs, 0⟩] scope gpos] X.env = (false, eval (.GeneratorExp elt [⟨tg, iter, ifs, 0⟩] scope gpos) X.env) :: starEach [] X.env := by rfl) :
    PE X (.Call (.Name "any" p) [.GeneratorExp elt [⟨tg, iter, ifs, 0⟩] scope gpos] [] pos) (tWalk true P wi g tt te (own.map (·.2))) := by
  refine ⟨fun pins s σ H Q I h => ?_⟩
  refine wpAny_Call_Name_kw (ld_blt I hgl hm (show bootBuiltins "any" = some (.builtin "any") by decide +kernel) ?_)
  refine PyProof.Rows.callWith_builtin1 ?_ hst (by rfl)
  rw [hst]
  have dp := hr.dp
  refine Calls.spliced_cons (thn (gen_makeG (d := true) hr hc hN G hs hi hg ht he I h) fun u s5 R => ?_)
  obtain ⟨a, gn, go, Y, ws, n, gs, rfl, gog, hgo, hl, hb, hgs, goes, back⟩ := R
  refine Calls.spliced_nil (call_function_tree F.kind_any F.plain_any F.entry_any (F.args_any1 _) ?_)
  unfold Builtin.«any»
  refine wpAny_bind (m := oneArg "any" _) (wpAny_pure ?_)
  refine wpAny_bind (wpAny_pyIter_gen (gog _ hgo) (wpAny_pure ⟨plainId_quiet F.plain_any_loop _, loop_any (Y := Y) (go := go) (ws := ws) (Qe := fun H => Q (.bl (!true)) H) (Qd := fun H => Q (.bl true) H) hr.hd (by omega) gog (fun s₁ h' ⟨H', I', q⟩ hk => ?_) (fun s₁ gs' H' hb' I' q => ?_) n s5 gs hgo hl hb hgs goes⟩))
  · exact ⟨.bl true, H', back s₁ H' _ I' rfl (fun _ _ e => e) (bare_set I'.bare hb'), rfl, q⟩
  · exact ⟨.bl false, H', back s₁ H' _ I' rfl hk (bare_set I'.bare rfl), rfl, q⟩
end
end GX
namespace GX
open PySem PySem.Spec PyProof.Rows L2 GxR
/-! the walks of all(..), any(..) by an invariant -/
theorem wk_range {d : Bool} {lo : Int} {n : Nat} {g : TG} {tt : TT} {te : TE} {vs : List Nat} {σ : L2.St} {Qe Qd : Hp → Prop} {H0 : Hp} (Pv : Nat → Hp → Prop) (h0 : Pv 0 H0)
    (hs : ∀ i H, i < n → Pv i H → g (.int (lo + i)) (wipe σ vs) H fun σ2 H2 => wipe σ2 vs = wipe σ vs ∧ tt σ2 H2 fun b H3 =>
      if b = true then te σ2 H3 fun y H4 => ∃ c, y = .bl c ∧ if c = d then Qd H4 else Pv (i + 1) H4 else Pv (i + 1) H3) (hd : ∀ H, Pv n H → Qe H) :
    ∃ W : Nat → Nat → Hp → Prop, (∃ m, W 0 m H0) ∧ Wk d (Itr lo n) g tt te vs σ W Qe Qd := by
  refine ⟨fun i m H => m = n - i ∧ i ≤ n ∧ Pv i H, ⟨n, by simp, Nat.zero_le _, h0⟩, ?_⟩
  rintro i m H ⟨rfl, hi, p⟩
  by_cases hlt : i < n
  · refine .inr ⟨hlt, Pv (i + 1), fun H' p' => ⟨n - (i + 1), by omega, rfl, hlt, p'⟩, fun x H' y => ?_⟩
    obtain ⟨rfl, rfl⟩ := y
    exact hs i _ hlt p
  · have e : i = n := by omega
    subst e
    exact .inl ⟨Nat.le_refl _, hd H p⟩
theorem wk_list {d : Bool} {K : PySem.W.Frag} {a : Addr} {xs : List V} {g : TG} {tt : TT} {te : TE} {vs : List Nat} {σ : L2.St} {Qe Qd : Hp → Prop} {H0 : Hp} (Pv : Nat → Hp → Prop) (h0 : Pv 0 H0) (hl : ∀ i H, i ≤ xs.length → Pv i H → SqL K H a xs)
    (hs : ∀ i x H, xs[i]? = some x → Pv i H → g x (wipe σ vs) H fun σ2 H2 => wipe σ2 vs = wipe σ vs ∧ tt σ2 H2 fun b H3 =>
      if b = true then te σ2 H3 fun y H4 => ∃ c, y = .bl c ∧ if c = d then Qd H4 else Pv (i + 1) H4 else Pv (i + 1) H3) (hd : ∀ H, Pv xs.length H → Qe H) :
    ∃ W : Nat → Nat → Hp → Prop, (∃ m, W 0 m H0) ∧ Wk d (Itl K a) g tt te vs σ W Qe Qd := by
  refine ⟨fun i m H => m = xs.length - i ∧ i ≤ xs.length ∧ Pv i H, ⟨xs.length, by simp, Nat.zero_le _, h0⟩, ?_⟩
  rintro i m H ⟨rfl, hi, p⟩
  have q := hl i H hi p
  by_cases hlt : i < xs.length
  · refine .inr ⟨⟨xs, xs[i], q, by simp [hlt]⟩, Pv (i + 1), fun H' p' => ⟨xs.length - (i + 1), by omega, rfl, hlt, p'⟩, fun x H' y => ?_⟩
    obtain ⟨rfl, e⟩ := y
    exact hs i x _ (e xs q) p
  · have e : i = xs.length := by omega
    subst e
    exact .inl ⟨⟨xs, q, Nat.le_refl _⟩, hd H p⟩
end GX
namespace K15
open PySem PySem.Spec PyProof.Rows L2 QR
open GxR (TabB TabG Tabbed)
open PySem.W (Datum)
abbrev sIL : Stmt := topS 7
abbrev nIL : List Str := ["row", "falling", "_", "negative", "k", "i", "j"]
theorem scIL : FnScope nIL ["row"] (defScope sIL) := ⟨rfl, rfl, rfl, by decide +kernel, rfl, by decide +kernel, by decide +kernel⟩
/-- what stood stands, but for the table at T -/
structure Tb (T : Addr) (H H' : Hp) : Prop where
  sm : ∀ b o, b ≠ T → H b = some o → H' b = some o
  tg : TabG H' T
/-- the two ints of a pair, as H has it -/
def kOf (H : Hp) : V → Int × Int
  | .ref t => match H t with
    | some (.tup [.int a, .int b]) => (a, b)
    | _ => (0, 0)
  | _ => (0, 0)
theorem kOf_at {H : Hp} {t : Addr} {a b : Int} (h : H t = some (.tup [.int a, .int b])) : kOf H (.ref t) = (a, b) := by
  simp only [kOf, h]
/-- in an order by the first ascending, the second descending: no pair rises iff it falls from each to the next -/
theorem lvl_math {S : List (Int × Int)} {l : List Pr} (hp : S.Perm (l.map fun p => ((p.1 : Int), -(p.2 : Int)))) (hs : S.Pairwise fun x y => ¬ (y.1 < x.1 ∨ (y.1 = x.1 ∧ y.2 < x.2))) :
    anti l = true ↔ ∀ (m : Nat) (x y : Int × Int), S[m]? = some x → S[m + 1]? = some y → x.2 ≤ y.2 := by
  have back : ∀ x ∈ S, ∃ p ∈ l, x = ((p.1 : Int), -(p.2 : Int)) := fun x hx => by
    obtain ⟨p, h1, h2⟩ := List.mem_map.mp (hp.mem_iff.mp hx)
    exact ⟨p, h1, h2.symm⟩
  have pw : ∀ (m n : Nat) (x y : Int × Int), m < n → S[m]? = some x → S[n]? = some y → ¬ (y.1 < x.1 ∨ (y.1 = x.1 ∧ y.2 < x.2)) := fun m n x y h e1 e2 => by
    obtain ⟨l1, q1⟩ := List.getElem?_eq_some_iff.mp e1
    obtain ⟨l2, q2⟩ := List.getElem?_eq_some_iff.mp e2
    have := List.pairwise_iff_getElem.mp hs m n l1 l2 h
    rw [q1, q2] at this
    exact this
  rw [anti_iff]
  constructor
  · intro h m x y e1 e2
    obtain ⟨p, hp1, rfl⟩ := back x (List.mem_of_getElem? e1)
    obtain ⟨q, hq1, rfl⟩ := back y (List.mem_of_getElem? e2)
    have a := pw m (m + 1) _ _ (Nat.lt_succ_self m) e1 e2
    have b := h p hp1 q hq1
    simp only at a ⊢
    omega
  · intro h p hp1 q hq1 ⟨h1, h2⟩
    have far : ∀ (n m : Nat) (x y : Int × Int), m ≤ n → S[m]? = some x → S[n]? = some y → x.2 ≤ y.2 := by
      intro n
      induction n with
      | zero =>
        intro m x y hm e1 e2
        have : m = 0 := by omega
        subst this
        rw [e1] at e2
        cases e2
        exact Int.le_refl _
      | succ n ih =>
        intro m x y hm e1 e2
        rcases Nat.lt_or_ge m (n + 1) with z | z
        · have ln := (List.getElem?_eq_some_iff.mp e2).1
          have e3 := List.getElem?_eq_getElem (l := S) (i := n) (by omega)
          have a := ih m x _ (by omega) e1 e3
          have b := h n _ y e3 e2
          omega
        · have : m = n + 1 := by omega
          subst this
          rw [e1] at e2
          cases e2
          exact Int.le_refl _
    obtain ⟨m1, e1⟩ := List.mem_iff_getElem?.mp (hp.mem_iff.mpr (List.mem_map.mpr ⟨p, hp1, rfl⟩))
    obtain ⟨m2, e2⟩ := List.mem_iff_getElem?.mp (hp.mem_iff.mpr (List.mem_map.mpr ⟨q, hq1, rfl⟩))
    rcases Nat.lt_trichotomy m1 m2 with z | z | z
    · have := far m2 m1 _ _ (by omega) e1 e2
      simp only at this
      omega
    · subst z
      rw [e1] at e2
      have := congrArg Prod.fst (Option.some.inj e2)
      simp only at this
      omega
    · have := pw m2 m1 _ _ z e2 e1
      simp only at this
      omega
section
variable {P : Program} {w : World} {K : PySem.W.Frag} {mg : Str → Option Value} {base : Heap}
def spIL (T : Addr) : Sp := fun vs H Q _ => ∃ (r : Addr) (ps : List (Addr × Pr)), vs = [.ref r] ∧ H r = some (.lst (prs ps)) ∧ PairsL H ps ∧ ps.length ≤ 1000000 ∧ TabG H T ∧
  ∀ H', Tb T H H' → Q (.bl (anti (ps.map (·.2)))) H'
theorem ok_IL {T c f : Addr} {oc kV doc pm ct : Value} {od an : Option Addr} {osl : Array (Option Value)} (lk : K.lookup f = some ⟨oc, od, .func (PySem.W.fnOf "is_level" "is_level" (defArgs sIL) (defBody sIL) (defScope sIL) .none kV doc pm an (.ref c) ct), osl⟩)
    (hcd : PySem.W.codeIn K (.ref c) "is_level" = true) (TB : TabB base mg c T) (m_len : mg "len" = none) (m_range : mg "range" = none) (m_all : mg "all" = none) (m_sorted : mg "sorted" = none) :
    FnOk P w K mg base CX0 2 f (PySem.W.fnOf "is_level" "is_level" (defArgs sIL) (defBody sIL) (defScope sIL) .none kV doc pm an (.ref c) ct) ["row"] (spIL T) := by
  refine fn_of lk hcd scIL (fun vs H Q E h => ?_) fun A outer s H vs Q E hr h => ?_
  · obtain ⟨r, ps, rfl, _⟩ := h
    rfl
  · obtain ⟨r, ps, rfl, hr0, hps, hl, hT, q⟩ := h
    have hu := hr.units
    have hu1 := hu_of hr
    have hr1 : Room 1 _ := hr.mono (by decide)
    have zl := zl
    have hrX := hr
    refine ⟨_, (pss_cons (ps_set (i := 1) scIL.nd rfl (.inr rfl) (pe_lc (own := [("_", 2), ("negative", 3)]) (g := gTup K 2 (gCons (gName 2) (gCons (gName 3) gNil))) (tt := tYes) (te := tUn (rU fun i => .int (-i)) (tVar 3)) rfl scIL.nd (pi_list (pe_callB cr_sortedPO (by rfl) m_sorted (by decide +kernel) (pa_cons (pe_lc (own := [("i", 5), ("j", 6)]) (g := gTup K 2 (gCons (gName 5) (gCons (gName 6) gNil))) (tt := tYes) (te := tTup (tCons (tVar 5) (tCons (tUn (rU fun i => .int (-i)) (tVar 6)) tNil))) rfl scIL.nd (pi_list (pv 0)) (blkOk_by (N := nIL) (sc := defScope sIL) (by decide +kernel)) (fun _ _ _ _ _ => by exact pg_tup (by rfl) (pgs_cons (pg_name (i := 5) scIL.nd rfl (.inl rfl)) (pgs_cons (pg_name (i := 6) scIL.nd rfl (.inl rfl)) pgs_nil))) (fun _ _ _ _ _ => pts_nil) (fun _ _ _ _ _ => by exact pe_tup (pa_cons (pv 5) (pa_cons (pe_un un_neg (pv 6)) pa_nil)))) pa_nil))) (blkOk_by (N := nIL) (sc := defScope sIL) (by decide +kernel)) (fun _ _ _ _ _ => by exact pg_tup (by rfl) (pgs_cons (pg_name (i := 2) scIL.nd rfl (.inl rfl)) (pgs_cons (pg_name (i := 3) scIL.nd rfl (.inl rfl)) pgs_nil))) (fun _ _ _ _ _ => pts_nil) (fun _ _ _ _ _ => by exact pe_un un_neg (pv 3))))
      (pss_one (ps_ret (GX.pe_allG (k := 0) (own := [("k", 4)]) (g := gName 4) (tt := tYes) (te := tOp (rI0 fun i j => .bl (decide (j ≤ i))) (tOp (rIxL K) (tVar 1) (tVar 4)) (tOp (rIxL K) (tVar 1) (tOp (rI0 fun i j => .int (i + j)) (tVar 4) (tC (.int 1))))) hrX rfl scIL.nd (by rfl) m_all ⟨blkOk_by (N := nIL) (sc := defScope sIL) (by decide +kernel), by decide +kernel, rfl, rfl, TB, rfl⟩ (pi_range1 (by rfl) m_range (pa_cons (pe_op op_sub (pe_callB call_len_seq (by rfl) m_len PySem.boot_len (pa_cons (pv 1) pa_nil)) (pe_int)) pa_nil)) (fun _ _ _ _ _ _ hrG => by exact pg_name (i := 4) scIL.nd rfl (.inl rfl)) (fun _ _ _ _ _ _ hrG => pts_nil) (fun _ _ _ _ _ _ hrG => by exact pe_cmpR op_ge (pe_ix ix_list (pv 1) (pv 4) (fun _ _ => rfl)) (pe_ix ix_list (pv 1) (pe_op op_add (pv 4) (pe_int)) (fun _ _ => rfl)) (nomark _)) (fun _ => rfl))))), ?_⟩
    refine ⟨_, rfl, r, rfl, ⟨_, SqL.of hr0⟩, fun D nD => ?_⟩
    -- the pairs of i and -j
    refine lc_list (xs := prs ps) (fun k H2 => Same H H2 ∧ ∃ qs : List (Addr × Pr), H2 D = some (.lst (prs qs)) ∧ (∀ q ∈ qs, H2 q.1 = some (.tup [.int (q.2.1 : Int), .int (-(q.2.2 : Int))])) ∧ qs.map (·.2) = (ps.take k).map (·.2)) ⟨same_new nD, [], upd_same, (fun q hq => by cases hq), rfl⟩ ?_ ?_ ?_
    · rintro k H2 _ ⟨s2, _⟩
      exact SqL.of (s2 _ _ hr0)
    · rintro k x H2 hx1 ⟨s2, qs, e1, e2, e3⟩
      obtain ⟨⟨t, p⟩, gp, rfl⟩ := map_get hx1
      have et : H2 t = some (prO p) := s2 _ _ (hps _ (List.mem_of_getElem? gp))
      have lk := (List.getElem?_eq_some_iff.mp gp).1
      refine ⟨t, _, rfl, SqT.of et, rfl, _, _, rfl, _, _, rfl, rfl, rfl, ?_⟩
      refine ⟨_, rfl, _, rfl, _, rfl, by show 2 ≤ sizeLine; omega, fun u nu => ?_⟩
      have su := same_new (o := .tup [.int (p.1 : Int), .int (-(p.2 : Int))]) nu
      have lq : qs.length ≤ ps.length := by
        have := congrArg List.length e3
        rw [List.length_map, List.length_map, List.length_take] at this
        omega
      refine ⟨_, su _ _ e1, by rw [prs_len]; omega, ?_, qs ++ [(u, p)], ?_, fun q hq => ?_, ?_⟩
      · exact same_upd nD (same_trans s2 su)
      · rw [upd_same]
        unfold prs
        rw [List.map_append]
        rfl
      · have ne : ∀ {y : Addr} {a b : V}, (upd H2 u (.tup [.int (p.1 : Int), .int (-(p.2 : Int))])) y = some (.tup [a, b]) → upd (upd H2 u (.tup [.int (p.1 : Int), .int (-(p.2 : Int))])) D (.lst (prs qs ++ [.ref u])) y = some (.tup [a, b]) := fun {y a b} e => by
          have eD := su _ _ e1
          rw [upd_ne fun z => by rw [z, eD] at e; exact nomatch e]
          exact e
        rcases List.mem_append.mp hq with z | z
        · exact ne (su _ _ (e2 q z))
        · cases List.mem_singleton.mp z
          exact ne upd_same
      · have et2 : ps.take (k + 1) = ps.take k ++ [(t, p)] := by rw [List.take_add_one, gp]; rfl
        rw [et2, List.map_append, List.map_append, e3]
        rfl
    · rintro H2 ⟨s2, qs, e1, e2, e3⟩
      rw [prs_len, List.take_length] at e3
      have lq : qs.length = ps.length := by
        have := congrArg List.length e3
        rw [List.length_map, List.length_map] at this
        exact this
      have kq : ∀ q ∈ qs, kOf H2 (.ref q.1) = ((q.2.1 : Int), -(q.2.2 : Int)) := fun q hq => kOf_at (e2 q hq)
      -- sorted
      refine ⟨D, prs qs, kOf H2, rfl, SqL.of e1, fun x hx => ?_, fun ys p1 hsr hst np => ?_⟩
      · obtain ⟨q, hq, rfl⟩ := List.mem_map.mp hx
        refine ⟨q.1, rfl, ?_⟩
        rw [kq q hq]
        exact e2 q hq
      have sp1 := same_new (o := .lst ys) np
      have mem : ∀ x ∈ ys, ∃ q ∈ qs, x = V.ref q.1 := fun x hx => by
        obtain ⟨q, hq, e⟩ := List.mem_map.mp (hst.perm.mem_iff.mp hx)
        exact ⟨q, hq, e.symm⟩
      have lys : ys.length = ps.length := by rw [hst.perm.length_eq, prs_len, lq]
      refine ⟨p1, rfl, ⟨_, SqL.of upd_same⟩, fun D2 nD2 => ?_⟩
      refine lc_list (xs := ys) (fun k H3 => H3 = upd (upd H2 p1 (.lst ys)) D2 (.lst ((ys.take k).map fun x => V.int (-(kOf H2 x).2)))) rfl ?_ ?_ ?_
      · rintro k H3 _ rfl
        exact SqL.of (same_new nD2 _ _ upd_same)
      · rintro k x H3 hx1 rfl
        obtain ⟨q', hq, rfl⟩ := mem x (List.mem_of_getElem? hx1)
        have lk := (List.getElem?_eq_some_iff.mp hx1).1
        refine ⟨q'.1, _, rfl, SqT.of (same_new nD2 _ _ (sp1 _ _ (e2 q' hq))), rfl, _, _, rfl, _, _, rfl, rfl, rfl, ?_⟩
        refine ⟨_, rfl, _, rfl, _, upd_same, by rw [List.length_map, List.length_take]; omega, ?_⟩
        rw [upd_upd]
        congr 2
        rw [List.take_add_one, hx1, List.map_append]
        show _ ++ [V.int (-(-(q'.2.2 : Int)))] = _ ++ [V.int (-(kOf H2 (.ref q'.1)).2)]
        rw [kq q' hq]
      · rintro H3 rfl
        rw [List.take_length]
        have s3 : Same H (upd (upd H2 p1 (.lst ys)) D2 (.lst (ys.map fun x => V.int (-(kOf H2 x).2)))) := same_trans s2 (same_trans sp1 (same_new nD2))
        have eF : (upd (upd H2 p1 (.lst ys)) D2 (.lst (ys.map fun x => V.int (-(kOf H2 x).2)))) D2 = some (.lst (ys.map fun x => V.int (-(kOf H2 x).2))) := upd_same
        generalize upd (upd H2 p1 (.lst ys)) D2 (.lst (ys.map fun x => V.int (-(kOf H2 x).2))) = H3 at s3 eF
        have nD0 : H D2 = none := same_none (same_trans s2 sp1) nD2
        have key := lvl_math (S := ys.map (kOf H2)) (l := ps.map (·.2)) (by
          refine (hst.perm.map (kOf H2)).trans ?_
          rw [← e3]
          unfold prs
          rw [List.map_map, List.map_map]
          refine List.Perm.of_eq (List.map_congr_left fun q hq => ?_)
          exact kq q hq) (by
          refine List.pairwise_map.mpr (List.Pairwise.imp (fun {x y} h => ?_) hsr)
          exact SrtO.lexB_no.mp h)
        obtain ⟨tps, eT, okT⟩ := hT
        have neT : D2 ≠ T := fun z => by rw [z, eT] at nD0; cases nD0
        -- all(..)
        refine ⟨_, rfl, D2, _, rfl, .inl (SqL.of eF), _, _, rfl, rfl, _, rfl, ?_, ?_, ⟨tps, s3 _ _ eT, okT⟩, fun H4 t4 => ?_⟩
        · rw [List.length_map]; omega
        · rw [List.length_map]; omega
        have eF4 : H4 D2 = some (.lst (ys.map fun x => V.int (-(kOf H2 x).2))) := (t4.2 D2 neT).trans eF
        have tb4 : Tb T H H4 := ⟨fun b o ne e => (t4.2 b ne).trans (s3 _ _ e), t4.1⟩
        have gF : ∀ m x, ys[m]? = some x → (ys.map fun x => V.int (-(kOf H2 x).2))[m]? = some (V.int (-(kOf H2 x).2)) := fun m x e => get_map _ e
        refine GX.wk_range (lo := 0) (Pv := fun k H' => H' = H4 ∧ ∀ (m : Nat) (x y : Int × Int), m < k → (ys.map (kOf H2))[m]? = some x → (ys.map (kOf H2))[m + 1]? = some y → x.2 ≤ y.2) ⟨rfl, fun m x y h => by omega⟩ ?_ ?_
        · rintro i H5 hi ⟨rfl, hm⟩
          have hi2 : i + 1 < ys.length := by
            rw [List.length_map] at hi
            omega
          have g1 := List.getElem?_eq_getElem (l := ys) (i := i) (by omega)
          have g2 := List.getElem?_eq_getElem (l := ys) (i := i + 1) hi2
          generalize ys[i] = x1 at g1
          generalize ys[i + 1] = x2 at g2
          have e0 : (0 : Int) + (i : Int) = (i : Int) := Int.zero_add _
          rw [e0]
          refine ⟨rfl, ?_⟩
          refine ⟨_, rfl, _, rfl, D2, _, _, _, rfl, rfl, SqL.of eF4, atI_nat (gF i x1 g1), _, rfl, _, rfl, _, _, rfl, rfl, D2, _, _, _, rfl, rfl, SqL.of eF4, atI_s (gF (i + 1) x2 g2), _, _, rfl, rfl, _, rfl, ?_⟩
          have c1 : (ys.map (kOf H2))[i]? = some (kOf H2 x1) := get_map _ g1
          have c2 : (ys.map (kOf H2))[i + 1]? = some (kOf H2 x2) := get_map _ g2
          by_cases hc : (kOf H2 x1).2 ≤ (kOf H2 x2).2
          · rw [if_neg (by rw [decide_eq_false_iff_not]; omega)]
            refine ⟨rfl, fun m x y h e1 e2 => ?_⟩
            by_cases hmi : m = i
            · subst hmi
              rw [c1] at e1
              rw [c2] at e2
              cases e1
              cases e2
              exact hc
            · exact hm m x y (by omega) e1 e2
          · rw [if_pos (by rw [decide_eq_false_iff_not]; omega)]
            have ef : anti (ps.map (·.2)) = false := by
              cases ha : anti (ps.map (·.2)) with
              | false => rfl
              | true => exact absurd (key.mp ha i _ _ c1 c2) hc
            rw [← ef]
            exact q _ tb4
        · rintro H5 ⟨rfl, hm⟩
          have et : anti (ps.map (·.2)) = true := key.mpr fun m x y e1 e2 => by
            refine hm m x y ?_ e1 e2
            have := (List.getElem?_eq_some_iff.mp e2).1
            rw [List.length_map] at this ⊢
            omega
          show Q (.bl true) _
          rw [← et]
          exact q _ tb4
end
end K15
/-! dicts keyed by tuples: del, truth, comprehensions; a dict comprehension whatever its keys are -/
namespace GX
open PySem PySem.Spec PyProof.Rows L2 GxR

section
variable {X : Cx}
theorem ktDrop {H : Hp} {kvs : List (List Key × V)} {xs : List (List Key × Addr × Value)} (k : List Key) (h : KT H kvs xs) : KT H (dropK kvs k) (withoutH xs k) := DX.KT_drop k h
/-- del d[y], keys tuples -/
def sDDelT (td ty : TE) : TS := fun D σ H => td σ H fun x H1 => ty σ H1 fun y H2 => ∃ (a : Addr) (kvs : List (List Key × V)) (k : List Key) (b : Addr), x = .ref a ∧ H2 a = some (.dT kvs) ∧ y = .ref b ∧ H2 b = some (.tup (k.map kV)) ∧ (valV kvs k).isSome = true ∧ D.nx σ (upd H2 a (.dT (dropK kvs k)))
theorem ps_ddelT {o i : Expr} {pos tpos : Pos} {td ty : TE} (hu : X.A.units + 1 < cLine) (ho : PE X o td) (hi : PE X i ty) : PS X (.Delete [.Subscript o i tpos] pos) (sDDelT td ty) := by
  refine ⟨fun pins s σ H D I h => ?_⟩
  refine wpAny_Delete (wpAny_deleteEach_cons (wpAny_delete_Subscript (thn (ho.run pins s σ H _ I h) fun u s1 ⟨x, H1, I1, rx, q1⟩ => thn (hi.run pins s1 σ H1 _ I1 q1) fun iv s2 ⟨y, H2, I2, ry, a, kvs, k, b, ex, e, ey, eb, l, q2⟩ => ?_)))
  subst ex ey
  obtain rfl : u = Value.ref a := rx
  obtain rfl : iv = Value.ref b := ry
  obtain ⟨z, hd, xs, rel, dd⟩ := dt_of I2.hok e
  have hz : xs.length ≤ sizeLine := by rw [← Paired.length rel]; exact z
  have r := rel.val k
  obtain ⟨v0, ev⟩ := Option.isSome_iff_exists.mp l
  obtain ⟨w', hw, _⟩ := RelO.some_of (v := v0) (o := (atKey xs k).map (·.2)) (by rw [← ev]; exact r)
  obtain ⟨p, hp, _⟩ := Option.map_eq_some_iff.mp hw
  refine wpAny_delItem_heap (hsz := hz) (tupleKind_room_in1 hu) (key_of I2.hok eb) hd dd hp fun h' dd' hs => ?_
  obtain ⟨q, es, ep, hq, h2, h3, h4, _, h5⟩ := dd'
  refine wpAny_deleteEach_nil ⟨σ, _, d_write (ob := .dT (dropK kvs k)) I2 (by rw [e]; exact True.intro) hs ⟨q, hq⟩ ⟨Nat.le_trans (dropK_le kvs k) z, hd, _, (ktDrop k rel).keeps fun c ys ec => ?_, q, es, ep, hq, h2, h3, h4, h5⟩, q2⟩
  rw [upd_ne (ne_of ec e (fun z => nomatch z))]
  exact ec
end
section
variable {prog : Program} {w : World} {κ : Type} [DecidableEq κ] {knd : HeapKind prog w κ} {A : Around} {E : Value → Shared → Prop} {s : Shared}
/-- the truth of a dict whose keys stand in the heap -/
theorem truthy_dictH {d : Addr} {xs : List (κ × Addr × Value)} {Q : Bool → Shared → Prop} (hd : (d == sysModules) = false) (hm : s.heap.DictOfH knd d xs) (hfit : (xs.length : Int) < 2 ^ 63)
    (h : Q (!xs.isEmpty) { s with toks := s.toks + 1 + 1 }) : wpAny (model prog w) A (truthy (.ref d)) Q E s := by
  have hne : ((xs.length : Int) != 0) = !xs.isEmpty := by cases xs <;> simp <;> omega
  have len : wpAny (model prog w) A (runValue (.builtin "len" ⟨[.ref d], []⟩)) (fun r s' => r = .int xs.length (s.toks + 1) ∧ Q (!xs.isEmpty) s') E s := by
    refine wpAny_runValue (codeAny_builtin entry_len ?_)
    rw [Around.under_plainId plain_len _]
    exact wpAny_mono (wpAny_len_body_dictH (Q := fun r s' => r = .int xs.length (s.toks + 1) ∧ Q (!xs.isEmpty) s') hd hm hfit ⟨rfl, h⟩) (fun fin s' ⟨r, e, q⟩ => by subst e; exact q) fun _ _ e => e
  have fin : ∀ (r : Value) (s' : Shared), (r = .int xs.length (s.toks + 1) ∧ Q (!xs.isEmpty) s') → wpAny (model prog w) A (match r with | .int n _ => pure (n != 0) | _ => pure true) Q E s' := fun r s' ⟨e, q⟩ => by
    subst e
    exact wpAny_pure (hne ▸ q)
  unfold truthy
  first
    | refine wpAny_bind (wpAny_callSpecial?_none (name := Str.ofString "__bool__") hm.typeIs noBool_dict ?_)
    | refine wpAny_bind (wpAny_pure (wpAny_bind (wpAny_callSpecial?_none (name := Str.ofString "__bool__") hm.typeIs noBool_dict ?_)))
  first
    | refine wpAny_bind (wpAny_specialOf (name := Str.ofString "__len__") hm.typeIs F.slot_dict_len.lookup ?_)
    | refine wpAny_bind (wpAny_pure (wpAny_bind (wpAny_specialOf (name := Str.ofString "__len__") hm.typeIs F.slot_dict_len.lookup ?_)))
  first
    | exact wpAny_bind (wpAny_mono len (fun r s' ⟨e, q⟩ => by subst e; exact wpAny_pure (hne ▸ q)) fun _ _ e => e)
    | exact wpAny_bind (wpAny_pure (wpAny_bind (wpAny_mono len (fun r s' ⟨e, q⟩ => by subst e; exact wpAny_pure (hne ▸ q)) fun _ _ e => e)))
end
section
variable {X : Cx}
def tTruT (ta : TE) : TT := fun σ H Q => ta σ H fun x H1 => ∃ (a : Addr) (kvs : List (List Key × V)), x = .ref a ∧ H1 a = some (.dT kvs) ∧ Q (!kvs.isEmpty) H1
theorem pt_truT {e : Expr} {ta : TE} (ha : PE X e ta) (he : ∀ whole, isTrue e X.env whole = (do let v ← whole; standAt e.pos; holding [v] (truthy v))) : PT X e (tTruT ta) := by
  refine ⟨fun pins s σ H Q I h => ?_⟩
  refine isTrue_plain (thn (ha.run pins s σ H _ I h) fun v s1 ⟨x, H1, I1, r1, a, kvs, ex, e1, q⟩ => ?_) (he _)
  subst ex
  obtain rfl : v = Value.ref a := r1
  obtain ⟨z, hd, xs, rel, dd⟩ := dt_of I1.hok e1
  have hl : kvs.length = xs.length := Paired.length rel
  have h63 := line63
  have ee : xs.isEmpty = kvs.isEmpty := by
    cases kvs with
    | nil => cases xs with
      | nil => rfl
      | cons _ _ => cases hl
    | cons _ _ => cases xs with
      | nil => cases hl
      | cons _ _ => rfl
  exact truthy_dictH hd dd (by omega) ⟨H1, I1.tok _, by rw [ee]; exact q⟩

/-! ### a dict comprehension: o0 the empty dict, put the reading of a store -/
def PutR (put : Addr → V → V → Hp → (Hp → Prop) → Prop) (X : Cx) : Prop := ∀ (pins : List (Addr × Obj)) (s : Shared) (σ : L2.St) (H : Hp) (D : Addr) (y z : V) (u r : Value) (N : Hp → Prop), Inv X pins σ H s → RelV y u → RelV z r → put D y z H N →
  wpAny (model X.prog X.w) X.A (dictSet D u r) (fun _ s' => ∃ H', Inv X pins σ H' s' ∧ N H') (fun _ _ => False) s
def tDg (o0 : HO) (put : Addr → V → V → Hp → (Hp → Prop) → Prop) (wi : TI) (g : TG) (tt : TT) (tk tv : TE) (vs : List Nat) : TE := fun σ H Q => wi σ H fun J H1 => ∀ D, H1 D = none → ∃ W : Nat → Nat → Hp → Prop, (∃ m, W 0 m (upd H1 D o0)) ∧ ∀ i m H, W i m H →
  (J.stop i H ∧ Q (.ref D) H) ∨ (J.go i H ∧ ∃ Nx : Hp → Prop, (∀ H', Nx H' → ∃ m', m' < m ∧ W (i + 1) m' H') ∧ ∀ x H', J.yld i H x H' → g x (wipe σ vs) H' fun σ2 H2 => wipe σ2 vs = wipe σ vs ∧ tt σ2 H2 fun b H3 =>
    if b = true then tk σ2 H3 fun y H4 => tv σ2 H4 fun z H5 => put D y z H5 Nx else Nx H3)
theorem dg_core {o0 : HO} {put : Addr → V → V → Hp → (Hp → Prop) → Prop} {pins : List (Addr × Obj)} {s : Shared} {σ : L2.St} {H : Hp} {Q : VK} {kx vx tg iter : Expr} {ifs : List Expr} {scope : Scope} {own : List (Str × Nat)} {pos pos' : Pos} {wi : TI} {g : TG} {tt : TT} {tk tv : TE} {use : Option (Value → Sem Unit)} {Qf : Value → Shared → Prop}
    (he0 : ∀ (H : Hp) (h : Heap), sysModules < h.objs.size → ObjOk X.prog X.w H (h.push { cls := .type "dict", data := .dict #[] }) h.objs.size o0)
    (hc : X.calm = true) (hN : X.N.Nodup) (I : Inv X pins σ H s) (hi : PI X tg iter wi) (ok : BlkOk X.N X.env.scope scope own)
    (hg : ∀ (s : Shared) (H : Hp) (C : Addr) (cl : List (Str × Addr)) (fp : List Addr), PG (X.blk s H scope (compEnvC scope cl C X.env) fp) tg g) (ht : ∀ (s : Shared) (H : Hp) (C : Addr) (cl : List (Str × Addr)) (fp : List Addr), PTs (X.blk s H scope (compEnvC scope cl C X.env) fp) ifs tt)
    (hk : ∀ (s : Shared) (H : Hp) (C : Addr) (cl : List (Str × Addr)) (fp : List Addr), PE (X.blk s H scope (compEnvC scope cl C X.env) fp) kx tk)
    (he : ∀ (s : Shared) (H : Hp) (C : Addr) (cl : List (Str × Addr)) (fp : List Addr), PE (X.blk s H scope (compEnvC scope cl C X.env) fp) vx tv)
    (hp : ∀ (s : Shared) (H : Hp) (C : Addr) (cl : List (Str × Addr)) (fp : List Addr), PutR put (X.blk s H scope (compEnvC scope cl C X.env) fp)) (hs : ∀ x, foldedSetIterable iter X.env x = pure x)
    (h : tDg o0 put wi g tt tk tv (own.map (·.2)) σ H Q)
    (hRR : ∀ D C s' m H', Inv X pins σ H' s' → Q (.ref D) H' → s'.heap.Ns C m → FpOk X pins H' C → compPost (model X.prog X.w) X.A X.xe use Qf (.ref D) C (.ok .next) s') :
    wpAny (model X.prog X.w) X.A (comprehension (.DictComp kx vx [⟨tg, iter, ifs, 0⟩] scope pos) scope X.env pos' newDict false (eval iter X.env) use) Qf X.xe s := by
  have hfree : ∀ y ∈ scope.names, y.2 = .free → ∃ c, X.env.cells.lookup y.1 = some c := fun y hy e => (ok.free y hy e).elim (fun k => I.ok.has _ (.inl k)) fun k => I.ok.has _ (.inr k)
  refine wpAny_comprehension_free (use := use) rfl hs (closure_ok hfree) ok.kind (fun y hy e => by rw [ok.uniq y hy, e]) (thn (hi.run pins s σ H _ I h) fun xv s1 hx => thn hx fun itv s2 ⟨it, fp, tn, J, H2, e, I2, T, st2, f2, q⟩ => ?_)
  subst e
  refine wpAny_newObj_type (newEnv_comp ?_)
  obtain ⟨W, ⟨m0, w0⟩, turn⟩ := q s2.heap.objs.size (I2.hok.fresh (Nat.le_refl _))
  have I3 : Inv X pins σ (upd H2 s2.heap.objs.size o0) { s2 with heap := s2.heap.push { cls := .type "dict", data := .dict #[] } } :=
    I2.laid (t' := s2.toks) (fun b o e => Heap.get?_push_of_some _ e) (Nat.le_refl _) (he0 _ _ I2.big)
  have f3 : ∀ b ∈ fp, FpOk X pins (upd H2 s2.heap.objs.size o0) b ∧ b < (s2.heap.push { cls := .type "dict", data := .dict #[] }).objs.size := fun b hb => by
    obtain ⟨o, e, _⟩ := T.obj _ _ st2 b hb
    have hlt := Heap.lt_size e
    exact ⟨⟨by rw [upd_ne (Nat.ne_of_lt hlt)]; exact (f2 b hb).1, (f2 b hb).2⟩, by rw [Heap.size_push]; exact Nat.lt_succ_of_lt hlt⟩
  have st3 : tn 0 (s2.heap.push { cls := .type "dict", data := .dict #[] }) := T.keep _ _ _ st2 fun b _ o e => Heap.get?_push_of_some _ e
  generalize s2.heap.objs.size = D at I3 f3 w0 turn ⊢
  generalize hs3 : ({ s2 with heap := s2.heap.push { cls := .type "dict", data := .dict #[] } } : Shared) = s3 at I3 ⊢
  have h3 : s2.heap.push { cls := .type "dict", data := .dict #[] } = s3.heap := by rw [← hs3]
  rw [h3] at f3 st3
  have I4 := block_start I3 ok hN f3
  have pg := hg s3 (upd H2 D o0) s3.heap.objs.size (cellsFrom (s3.heap.objs.size + 1) scope.names (cloFrom X.env.cells scope.names [])) fp
  have pt := ht s3 (upd H2 D o0) s3.heap.objs.size (cellsFrom (s3.heap.objs.size + 1) scope.names (cloFrom X.env.cells scope.names [])) fp
  have pk := hk s3 (upd H2 D o0) s3.heap.objs.size (cellsFrom (s3.heap.objs.size + 1) scope.names (cloFrom X.env.cells scope.names [])) fp
  have pe := he s3 (upd H2 D o0) s3.heap.objs.size (cellsFrom (s3.heap.objs.size + 1) scope.names (cloFrom X.env.cells scope.names [])) fp
  have pp := hp s3 (upd H2 D o0) s3.heap.objs.size (cellsFrom (s3.heap.objs.size + 1) scope.names (cloFrom X.env.cells scope.names [])) fp
  show codeAny _ _ (.compStart (.DictComp kx vx [⟨tg, iter, ifs, 0⟩] scope pos) 0 (.ref it) (.ref D) (compEnvC scope (cellsFrom (s3.heap.objs.size + 1) scope.names (cloFrom X.env.cells scope.names [])) s3.heap.objs.size X.env)) (compPost (model X.prog X.w) X.A X.xe use Qf (.ref D) s3.heap.objs.size) { s3 with heap := pushCells (s3.heap.push { cls := .type "dict", data := .dict #[] }) scope.names }
  generalize hce : compEnvC scope (cellsFrom (s3.heap.objs.size + 1) scope.names (cloFrom X.env.cells scope.names [])) s3.heap.objs.size X.env = ce at I4 pg pt pk pe pp ⊢
  have cL : ce.locals = s3.heap.objs.size := by rw [← hce]; rfl
  have nfp : ∀ b ∈ fp, upd H2 D o0 b = none := fun b hb => (f3 b hb).1.1
  generalize upd H2 D o0 = H3 at I3 I4 pg pt pk pe pp w0 nfp f3
  have st4 : tn 0 (pushCells (s3.heap.push { cls := .type "dict", data := .dict #[] }) scope.names) := T.keep _ _ _ st3 fun b _ o e => pushCells_keeps _ _ _ _ (Heap.get?_push_of_some _ e)
  generalize hs4 : ({ s3 with heap := pushCells (s3.heap.push { cls := .type "dict", data := .dict #[] }) scope.names } : Shared) = s4 at I4 ⊢
  have st4 : tn 0 s4.heap := by rw [← hs4]; exact st4
  generalize hY : X.blk s3 H3 scope ce fp = Y at I4 pg pt pk pe pp
  have yx : Y.ex = fp ∧ Y.pn = [] ∧ Y.prog = X.prog ∧ Y.w = X.w ∧ Y.K = X.K ∧ Y.calm = true ∧ Y.A = X.A ∧ Y.env = ce ∧ Y.xe = (fun _ _ => False) ∧ Y.fs = frs X.stack ∧ Y.H_0 = H3 ∧ Y.s_0 = s3 := by
    rw [← hY]
    exact ⟨rfl, rfl, rfl, rfl, rfl, hc, rfl, rfl, rfl, rfl, rfl, rfl⟩
  obtain ⟨y1, y2, y3, y4, y5, y6, y7, y8, y9, y10, y11, y12⟩ := yx
  have T0 := T
  have T : Turn Y.prog Y.w Y.K tg J fp it tn := by rw [y3, y4, y5]; exact T
  have stat : ∀ {σ' : L2.St} {H' : Hp} {s' : Shared}, Inv Y [] σ' H' s' → (∀ b ∈ fp, H' b = none) → ∀ b ∈ fp, FpOk Y [] H' b := fun {σ' H' s'} I' hn b hb =>
    ⟨hn b hb, (I'.ok.exf b (y1 ▸ hb)).1, I'.ok.exfs b (y1 ▸ hb), .inl (y1 ▸ hb), fun x c e => (I'.ok.exf b (y1 ▸ hb)).2 x c e, fun p hp => by rw [y2] at hp; cases hp⟩
  have loop : codeAny (model X.prog X.w) X.A (.compLoop (.DictComp kx vx [⟨tg, iter, ifs, 0⟩] scope pos) 0 (.ref it) (.ref D) ce) (compPost (model X.prog X.w) X.A X.xe use Qf (.ref D) s3.heap.objs.size) s4 := by
    refine compLoop_anyD (fun n s' => ∃ i H', Inv Y [] (wipe σ (own.map (·.2))) H' s' ∧ tn i s'.heap ∧ (∀ b ∈ fp, H' b = none) ∧ W i n H') ?_ m0 ⟨0, H3, I4, st4, nfp, w0⟩
    rw [← y3, ← y4, ← y7, ← y8]
    rintro n s5 ⟨i, H5, I5, st5, n5, w5⟩
    rcases turn i n H5 w5 with ⟨stop, qq⟩ | ⟨go, Nx, hNx, step⟩
    · refine thnF (T.done Y rfl rfl rfl y6 i [] s5 _ H5 (fun _ _ => False) I5 (stat I5 n5) st5 stop) fun r s6 ⟨hr, I6⟩ => ?_
      subst hr
      have b6 := I6.base
      rw [y10, y1, y11, y12] at b6
      have o6 := I6.os
      rw [y12] at o6
      have k6 := I6.hok
      rw [y3, y4] at k6
      have I7 : Inv X pins σ H5 s6 := I3.call' (ch := fp) o6 b6 k6 I6.bare fun b hb => ⟨(f3 b hb).1.2.2.2.1, (f3 b hb).1.2.1, (f3 b hb).1.2.2.2.2.1, (f3 b hb).1.2.2.2.2.2⟩
      have nC : H5 s3.heap.objs.size = none := by
        have z := I6.free
        rw [y8, cL] at z
        exact z
      obtain ⟨m, hn, _⟩ := I6.loc
      rw [y8, cL] at hn
      show compPost _ _ _ _ _ _ _ _ _
      rw [y3, y4, y7]
      exact hRR D s3.heap.objs.size s6 m H5 I7 qq hn (I3.fpOk (Nat.le_refl _) nC)
    · refine thnF (T.item Y rfl rfl rfl y6 i [] s5 _ H5 (fun _ _ => False) I5 (stat I5 n5) st5 go) fun r s6 ⟨u, hr, h6⟩ => ?_
      subst hr
      refine thnF h6 fun _ s7 ⟨x, H7, I7, r7, yy, st7, n7⟩ => ?_
      have I7' := I7.pinned (stat I7 n7) (T.obj _ _ st7)
      have a1 := pg.run _ s7 _ H7 x u _ I7' r7 (step x H7 yy)
      rw [y9] at a1
      refine thnF a1 fun _ s8 ⟨σ8, H8, I8, hw8, q8⟩ => ?_
      have a2 := pt.run _ s8 σ8 H8 _ I8 q8
      rw [y9] at a2
      refine thnF a2 fun b s9 ⟨H9, I9, q9⟩ => ?_
      have fin : ∀ {s' : Shared} {H' : Hp}, Inv Y ([] ++ pinsAt fp s7.heap) σ8 H' s' → Nx H' → ∃ m, m < n ∧ ∃ i H', Inv Y [] (wipe σ (own.map (·.2))) H' s' ∧ tn i s'.heap ∧ (∀ b ∈ fp, H' b = none) ∧ W i m H' := fun {s' H'} I' nx => by
        obtain ⟨m', hm, w'⟩ := hNx H' nx
        have pin' : ∀ b ∈ fp, ∀ o, s7.heap.get? b = some o → s'.heap.get? b = some o ∧ H' b = none := fun b hb o e =>
          let z := I'.pin (b, o) (List.mem_append_right _ (List.mem_append_right _ (mem_pinsAt hb e)))
          ⟨z.1, z.2.1⟩
        refine ⟨m', hm, i + 1, H', (I'.unpinned (pins := [])).weak (by rw [← wipe_length σ8 (own.map (·.2)), hw8]) (fun j v e => ?_), T.keep _ _ _ st7 fun b hb o e => (pin' b hb o e).1, fun b hb => ?_, w'⟩
        · rw [← hw8] at e
          exact (wipe_some e).1
        · obtain ⟨o, e, _⟩ := T.obj _ _ st7 b hb
          exact (pin' b hb o e).2
      cases b with
      | false =>
        simp only [Bool.false_eq_true, if_false] at q9 ⊢
        exact fin I9 q9
      | true =>
        simp only [if_true] at q9 ⊢
        have a3 := pk.run _ s9 σ8 H9 _ I9 q9
        rw [y9] at a3
        refine thnF a3 fun z s10 ⟨yk, H10, I10, r10, q10⟩ => ?_
        have a4 := pe.run _ s10 σ8 H10 _ I10 q10
        rw [y9] at a4
        refine thnF a4 fun z2 s11 ⟨yv, H11, I11, r11, q11⟩ => ?_
        exact thnF (pp _ s11 σ8 H11 D yk yv z z2 Nx I11 r10 r11 q11) fun _ s12 ⟨H12, I12, nx⟩ => fin I12 nx
  exact codeAny_compStart_dict loop (T0.self X.A 0 _ _ _ st4 loop)
theorem pe_dg {o0 : HO} {put : Addr → V → V → Hp → (Hp → Prop) → Prop} {kx vx tg iter : Expr} {ifs : List Expr} {scope : Scope} {own : List (Str × Nat)} {pos : Pos} {wi : TI} {g : TG} {tt : TT} {tk tv : TE}
    (he0 : ∀ (H : Hp) (h : Heap), sysModules < h.objs.size → ObjOk X.prog X.w H (h.push { cls := .type "dict", data := .dict #[] }) h.objs.size o0) (hc : X.calm = true) (hN : X.N.Nodup) (hi : PI X tg iter wi) (ok : BlkOk X.N X.env.scope scope own)
    (hg : ∀ (s : Shared) (H : Hp) (C : Addr) (cl : List (Str × Addr)) (fp : List Addr), PG (X.blk s H scope (compEnvC scope cl C X.env) fp) tg g) (ht : ∀ (s : Shared) (H : Hp) (C : Addr) (cl : List (Str × Addr)) (fp : List Addr), PTs (X.blk s H scope (compEnvC scope cl C X.env) fp) ifs tt)
    (hk : ∀ (s : Shared) (H : Hp) (C : Addr) (cl : List (Str × Addr)) (fp : List Addr), PE (X.blk s H scope (compEnvC scope cl C X.env) fp) kx tk)
    (he : ∀ (s : Shared) (H : Hp) (C : Addr) (cl : List (Str × Addr)) (fp : List Addr), PE (X.blk s H scope (compEnvC scope cl C X.env) fp) vx tv)
    (hp : ∀ (s : Shared) (H : Hp) (C : Addr) (cl : List (Str × Addr)) (fp : List Addr), PutR put (X.blk s H scope (compEnvC scope cl C X.env) fp)) (hs : ∀ x, foldedSetIterable iter X.env x = pure x := by intro _; rfl) :
    PE X (.DictComp kx vx [⟨tg, iter, ifs, 0⟩] scope pos) (tDg o0 put wi g tt tk tv (own.map (·.2))) := by
  refine ⟨fun pins s σ H Q I h => ?_⟩
  rw [arm_eval_DictComp]
  refine dg_core he0 hc hN I hi ok hg ht hk he hp hs h fun D C s' m H' I' q hn ⟨f0, f1, f2, f3, f4, f5⟩ => ⟨m, hn, fun h'' sb => ?_⟩
  exact ⟨.ref D, H', I'.turned (t' := s'.toks) (fun b o hb e => (sb.2 b hb).trans e) f0 f1 f3 f4 f5, rfl, q⟩
theorem sw_dict {kx vx : Expr} {gs : List Comprehension} {scope : Scope} {pos py : Pos} {y : Str} {l : Nat} {env : Env} (hk : env.scope.kind = .function) (hy : env.scope.names.lookup y = some .local) (hl : (py.line == pos.line) = true)
    (ha : (scope.names.any fun (n, k) => n == y && (k == .local || k == .cell)) = false) : swapsWith (.DictComp kx vx gs scope pos) (some (.Name y py)) l env = pure true := by
  have h1 : env.kindOf y = some .local := hy
  have h2 : env.blockKind = .function := by unfold Env.blockKind; rw [hk]; rfl
  unfold swapsWith
  simp only [h2, h1, ha, Expr.pos, hl]
  rfl
/-- name = {..} on one line, the name a local -/
theorem ps_setDg {o0 : HO} {put : Addr → V → V → Hp → (Hp → Prop) → Prop} {i : Nat} {y : Str} {py : Pos} {kx vx tg iter : Expr} {ifs : List Expr} {scope : Scope} {own : List (Str × Nat)} {pos spos : Pos} {wi : TI} {g : TG} {tt : TT} {tk tv : TE}
    (he0 : ∀ (H : Hp) (h : Heap), sysModules < h.objs.size → ObjOk X.prog X.w H (h.push { cls := .type "dict", data := .dict #[] }) h.objs.size o0) (hc : X.calm = true) (hN : X.N.Nodup) (hy : X.N[i]? = some y) (hyl : X.env.scope.names.lookup y = some .local)
    (hsw : swapsWith (.DictComp kx vx [⟨tg, iter, ifs, 0⟩] scope pos) (some (.Name y py)) spos.line X.env = pure true) (hi : PI X tg iter wi) (ok : BlkOk X.N X.env.scope scope own)
    (hg : ∀ (s : Shared) (H : Hp) (C : Addr) (cl : List (Str × Addr)) (fp : List Addr), PG (X.blk s H scope (compEnvC scope cl C X.env) fp) tg g) (ht : ∀ (s : Shared) (H : Hp) (C : Addr) (cl : List (Str × Addr)) (fp : List Addr), PTs (X.blk s H scope (compEnvC scope cl C X.env) fp) ifs tt)
    (hk : ∀ (s : Shared) (H : Hp) (C : Addr) (cl : List (Str × Addr)) (fp : List Addr), PE (X.blk s H scope (compEnvC scope cl C X.env) fp) kx tk)
    (he : ∀ (s : Shared) (H : Hp) (C : Addr) (cl : List (Str × Addr)) (fp : List Addr), PE (X.blk s H scope (compEnvC scope cl C X.env) fp) vx tv)
    (hp : ∀ (s : Shared) (H : Hp) (C : Addr) (cl : List (Str × Addr)) (fp : List Addr), PutR put (X.blk s H scope (compEnvC scope cl C X.env) fp)) (hs : ∀ x, foldedSetIterable iter X.env x = pure x := by intro _; rfl) :
    PS X (.Assign [.Name y py] (.DictComp kx vx [⟨tg, iter, ifs, 0⟩] scope pos) spos) (tAsg (tDg o0 put wi g tt tk tv (own.map (·.2))) (gName i)) := by
  refine ⟨fun pins s σ H D I h => ?_⟩
  rw [exec_Assign_Name_used _ _ _ _ hsw]
  refine wpAny_bind (wpAny_standAt (wpAny_bind ?_))
  show wpAny _ X.A (do let _ ← comprehension (.DictComp kx vx [⟨tg, iter, ifs, 0⟩] scope pos) scope X.env (firstIterPos [⟨tg, iter, ifs, 0⟩] pos) newDict false (eval iter X.env) (some (assign (.Name y py) X.env))) _ _ s
  have h : tDg o0 put wi g tt tk tv (own.map (·.2)) σ H (fun x H1 => gName i x σ H1 D.nx) := h
  refine wpAny_bind (thn (dg_core (Qf := fun _ s' => SP X pins D .next s') he0 hc hN I hi ok hg ht hk he hp hs h fun L C s' m H' I' q hn ⟨f0, f1, f2, f3, f4, f5⟩ => ?_) fun _ s' hq => wpAny_pure (wpAny_pure hq))
  show wpAny _ _ (assign (.Name y py) X.env (.ref L)) _ _ _
  refine wpAny_assign_Name (store_ok2 (v := V.ref L) I' hN hy (.inl hyl) rfl (fun s2 I2 ⟨a, sb, ha⟩ => ?_) (.inr hyl))
  have haC : C ≠ a := ha.elim (fun z => by rw [z]; exact f1) fun z e => f4 y a z e.symm
  exact ⟨m, hn.sameBut sb haC, fun h3 sb3 => ⟨_, H', I2.turned (t' := s2.toks) (fun b o hb e => (sb3.2 b hb).trans e) f0 f1 f3 f4 f5, q⟩⟩
/-- keys tuples of ints and texts -/
def putT (D : Addr) (y z : V) (H : Hp) (N : Hp → Prop) : Prop := ∃ (kvs : List (List Key × V)) (k : List Key) (b : Addr), y = .ref b ∧ H b = some (.tup (k.map kV)) ∧ H D = some (.dT kvs) ∧ kvs.length < sizeLine ∧ N (upd H D (.dT (putK kvs k z)))
theorem putR_T {Y : Cx} (hu : Y.A.units < cLine) : PutR putT Y := by
  intro pins s σ H D y z u r N I ry rz ⟨kvs, k, b, ey, eb, e, l, n⟩
  subst ey
  obtain rfl : u = Value.ref b := ry
  obtain ⟨zz, hd, xs, rel, dd⟩ := dt_of I.hok e
  have hz : xs.length ≤ sizeLine := by rw [← Paired.length rel]; exact zz
  have hl : (putK kvs k z).length ≤ sizeLine := by have := length_putK kvs k z; omega
  refine wpAny_dictSet_heap (hsz := hz) hu (key_of I.hok eb) dd fun h' dd' hs => ⟨_, ?_, n⟩
  obtain ⟨q, es, ep, hq, h2, h3, h4, _, h5⟩ := dd'
  refine d_write I (by rw [e]; exact True.intro) hs ⟨q, hq⟩ ⟨hl, hd, _, (rel.put k eb rz).keeps fun c ys ec => ?_, q, es, ep, hq, h2, h3, h4, h5⟩
  rw [upd_ne (ne_of ec e (fun z => nomatch z))]
  exact ec
end
end GX
namespace K15
open PySem PySem.Spec PyProof.Rows L2 QR
open GxR (TabB TabG Tabbed)
open PySem.W (Datum)
abbrev sLR : Stmt := topS 8
abbrev nLR : List Str := ["one", "other", "rows", "pair", "left", "row"]
theorem scLR : FnScope nLR ["one", "other", "rows"] (defScope sLR) := ⟨rfl, rfl, rfl, by decide +kernel, rfl, by decide +kernel, by decide +kernel⟩
/-- not d, d a dict keyed by tuples -/
def tNotD (ta : TE) : TE := fun σ H Q => ta σ H fun x H1 => ∃ (a : Addr) (kvs : List (List Key × V)), x = .ref a ∧ H1 a = some (.dT kvs) ∧ Q (.bl kvs.isEmpty) H1
theorem pe_notD {X : Cx} {e : Expr} {ta : TE} {pos : Pos} (ha : PE X e ta) : PE X (.UnaryOp .Not e pos) (tNotD ta) := by
  refine ⟨fun pins s σ H Q I h => ?_⟩
  refine UnaryOp_ (thn (ha.run pins s σ H _ I h) fun v s1 ⟨x, H1, I1, r1, a, kvs, ex, e1, q⟩ => ?_)
  subst ex
  obtain rfl : v = Value.ref a := r1
  obtain ⟨z, hd, xs, rel, dd⟩ := dt_of I1.hok e1
  have hl : kvs.length = xs.length := Paired.length rel
  have h63 := line63
  have ee : xs.isEmpty = kvs.isEmpty := by
    cases kvs with
    | nil => cases xs with
      | nil => rfl
      | cons _ _ => cases hl
    | cons _ _ => cases xs with
      | nil => cases hl
      | cons _ _ => rfl
  exact not_of (GX.truthy_dictH hd dd (by omega) ⟨.bl _, H1, I1.tok _, rfl, by rw [ee, Bool.not_not]; exact q⟩)
/-- a walk over a list, an invariant for each turn -/
theorem it_walk {K : PySem.W.Frag} {a : Addr} {xs : List V} {Qd : Hp → Prop} {B : (Hp → Prop) → V → Hp → Prop} {H0 : Hp} (Pv : Nat → Hp → Prop) (h0 : Pv 0 H0) (hl : ∀ i H, i ≤ xs.length → Pv i H → SqL K H a xs)
    (hs : ∀ i x H, xs[i]? = some x → Pv i H → B (Pv (i + 1)) x H) (hd : ∀ H, Pv xs.length H → Qd H) :
    ∃ W : Nat → Nat → Hp → Prop, (∃ m, W 0 m H0) ∧ ∀ i m H, W i m H →
      ((Itl K a).stop i H ∧ Qd H) ∨ ((Itl K a).go i H ∧ ∃ Nx : Hp → Prop, (∀ H', Nx H' → ∃ m', m' < m ∧ W (i + 1) m' H') ∧ ∀ x H', (Itl K a).yld i H x H' → B Nx x H') := by
  refine ⟨fun i m H => m = xs.length - i ∧ i ≤ xs.length ∧ Pv i H, ⟨xs.length, by simp, Nat.zero_le _, h0⟩, ?_⟩
  rintro i m H ⟨rfl, hi, p⟩
  have q := hl i H hi p
  by_cases hlt : i < xs.length
  · refine .inr ⟨⟨xs, xs[i], q, by simp [hlt]⟩, Pv (i + 1), fun H' p' => ⟨xs.length - (i + 1), by omega, rfl, hlt, p'⟩, fun x H' y => ?_⟩
    obtain ⟨rfl, e⟩ := y
    exact hs i x _ (e xs q) p
  · have e : i = xs.length := by omega
    subst e
    exact .inl ⟨⟨xs, q, Nat.le_refl _⟩, hd H p⟩
/-! ### a dict of pairs -/
def prK (p : Pr) : List Key := [.inl (p.1 : Int), .inl (p.2 : Int)]
def kvsOf (l : List Pr) : List (List Key × V) := l.map fun p => (prK p, V.bl true)
theorem prK_inj {p q : Pr} (h : prK p = prK q) : p = q := by
  unfold prK at h
  injection h with h1 h2
  injection h2 with h2 _
  have e1 := Sum.inl.inj h1
  have e2 := Sum.inl.inj h2
  exact Prod.ext (by omega) (by omega)
theorem val_kvs (p : Pr) : ∀ l : List Pr, valV (kvsOf l) (prK p) = if p ∈ l then some (.bl true) else none
  | [] => rfl
  | q :: l => by
    show valV ((prK q, V.bl true) :: kvsOf l) (prK p) = _
    by_cases e : q = p
    · rw [valV_pos (by rw [e]), if_pos (by rw [e]; exact List.mem_cons_self)]
    · rw [valV_neg (fun z => e (prK_inj z)), val_kvs p l]
      by_cases m : p ∈ l
      · rw [if_pos m, if_pos (List.mem_cons_of_mem _ m)]
      · rw [if_neg m, if_neg (fun z => (List.mem_cons.mp z).elim (fun z => e z.symm) m)]
theorem put_kvs {l : List Pr} {p : Pr} (h : p ∉ l) : putK (kvsOf l) (prK p) (.bl true) = kvsOf (l ++ [p]) := by
  rw [putK_new _ (by rw [val_kvs, if_neg h])]
  unfold kvsOf
  rw [List.map_append]
  rfl
theorem drop_kvs (p : Pr) (l : List Pr) : dropK (kvsOf l) (prK p) = kvsOf (l.filter fun q => decide (q ≠ p)) := by
  unfold dropK kvsOf
  rw [List.filter_map]
  congr 1
  refine List.filter_congr fun q _ => ?_
  refine decide_eq_decide.mpr ⟨fun z e => z (by rw [e]), fun z e => z (prK_inj e)⟩
/-- those of the pairs that are left -/
def leftP (xs : List (Option Str)) (ys : List Str) (seen : List Pr) : List Pr := (eqP xs ys).filter fun q => decide (q ∉ seen)
theorem leftP_nil (xs : List (Option Str)) (ys : List Str) : leftP xs ys [] = eqP xs ys := List.filter_eq_self.mpr fun q _ => by simp
theorem leftP_snoc (xs : List (Option Str)) (ys : List Str) (seen : List Pr) (p : Pr) : (leftP xs ys seen).filter (fun q => decide (q ≠ p)) = leftP xs ys (seen ++ [p]) := by
  unfold leftP
  rw [List.filter_filter]
  refine List.filter_congr fun q _ => ?_
  rw [← Bool.decide_and]
  refine decide_eq_decide.mpr ⟨fun z m => ?_, fun z => ⟨fun e => z (by rw [e]; simp), fun m => z (List.mem_append_left _ m)⟩⟩
  rcases List.mem_append.mp m with y | y
  · exact z.2 y
  · exact z.1 (List.mem_singleton.mp y)
theorem leftP_empty {xs : List (Option Str)} {ys : List Str} {seen : List Pr} (nd : seen.Nodup) (h : ∀ p ∈ seen, eqAt xs ys p.1 p.2 = true) : (leftP xs ys seen) = [] ↔ seen.length = (eqP xs ys).length := by
  have le := len_le nd fun p hp => mem_eqP.mpr (h p hp)
  constructor
  · intro e
    have all : ∀ p ∈ eqP xs ys, p ∈ seen := fun p hp => by
      have := List.filter_eq_nil_iff.mp e p hp
      simpa using this
    have := len_le nodup_eqP all
    omega
  · intro e
    refine List.filter_eq_nil_iff.mpr fun p hp => ?_
    have := all_of_len nd (fun q hq => mem_eqP.mpr (h q hq)) (Nat.le_of_eq e.symm) p hp
    simp [this]
def rightB (xs : List (Option Str)) (ys : List Str) (rows : List (List Pr)) : Bool := decide (rows.flatten.Nodup) && (rows.flatten.all (fun p => eqAt xs ys p.1 p.2) && (decide (rows.flatten.length = (eqP xs ys).length) && rows.all anti))
theorem rightB_iff {xs : List (Option Str)} {ys : List Str} {rows : List (List Pr)} : rightB xs ys rows = true ↔ RightL xs ys rows := by
  unfold rightB
  simp only [Bool.and_eq_true, decide_eq_true_eq, List.all_eq_true]
  exact ⟨fun ⟨a, b, c, d⟩ => ⟨a, b, c, d⟩, fun h => ⟨h.nd, h.eq, h.len, h.anti⟩⟩
theorem rightB_no {xs : List (Option Str)} {ys : List Str} {rows : List (List Pr)} (h : ¬ RightL xs ys rows) : rightB xs ys rows = false := Bool.eq_false_iff.mpr fun z => h (rightB_iff.mp z)
/-- what stood stands, but for two tables -/
structure Tb2 (T1 T2 : Addr) (H H' : Hp) : Prop where
  sm : ∀ b o, b ≠ T1 → b ≠ T2 → H b = some o → H' b = some o
  t1 : TabG H' T1
  t2 : TabG H' T2
theorem Tb2.at_ {T1 T2 : Addr} {H H' : Hp} (h : Tb2 T1 T2 H H') (g1 : TabG H T1) (g2 : TabG H T2) {b : Addr} {o : HO} (e : H b = some o) (n : ∀ ps, o ≠ .tbl ps) : H' b = some o := by
  obtain ⟨p1, e1, _⟩ := g1
  obtain ⟨p2, e2, _⟩ := g2
  refine h.sm b o (fun z => ?_) (fun z => ?_) e
  · rw [z, e1] at e
    exact n p1 (Option.some.inj e).symm
  · rw [z, e2] at e
    exact n p2 (Option.some.inj e).symm
section
variable {P : Program} {w : World} {K : PySem.W.Frag} {mg : Str → Option Value} {base : Heap}
def spLR (T1 T2 : Addr) : Sp := fun vs H Q _ => ∃ (a b r : Addr) (xs : List (Option Str)) (ys : List Str) (rows : List (List Pr)), vs = [.ref a, .ref b, .ref r] ∧ H a = some (.lst (xs.map lnV)) ∧ H b = some (.lst (ys.map V.str)) ∧ xs.length ≤ 1000 ∧ ys.length ≤ 1000 ∧
  RowsV H r rows ∧ (∀ row ∈ rows, row.length ≤ 1000000) ∧ TabG H T1 ∧ TabG H T2 ∧ T1 ≠ T2 ∧ ∀ H', Tb2 T1 T2 H H' → Q (.bl (rightB xs ys rows)) H'
theorem ok_LR {T1 T2 c f fEP fIL : Addr} {oc kV doc pm ct : Value} {od an : Option Addr} {osl : Array (Option Value)} {fdEP fdIL : FuncData} (lk : K.lookup f = some ⟨oc, od, .func (PySem.W.fnOf "levels_right" "levels_right" (defArgs sLR) (defBody sLR) (defScope sLR) .none kV doc pm an (.ref c) ct), osl⟩)
    (hcd : PySem.W.codeIn K (.ref c) "levels_right" = true) (TB : TabB base mg c T2)
    (GEP : FnOk P w K mg base CX0 1 fEP fdEP ["one", "other"] spEP) (bEP : Binds K fdEP ["one", "other"] []) (gEP : mg "equal_pairs" = some (.ref fEP)) (kEP : PySem.W.keepIn K (.ref fEP) = true)
    (GIL : FnOk P w K mg base CX0 2 fIL fdIL ["row"] (spIL T1)) (bIL : Binds K fdIL ["row"] []) (gIL : mg "is_level" = some (.ref fIL)) (kIL : PySem.W.keepIn K (.ref fIL) = true)
    (m_all : mg "all" = none) :
    FnOk P w K mg base CX0 4 f (PySem.W.fnOf "levels_right" "levels_right" (defArgs sLR) (defBody sLR) (defScope sLR) .none kV doc pm an (.ref c) ct) ["one", "other", "rows"] (spLR T1 T2) := by
  refine fn_of lk hcd scLR (fun vs H Q E h => ?_) fun A outer s H vs Q E hr h => ?_
  · obtain ⟨a, b, r, xs, ys, rows, rfl, _⟩ := h
    rfl
  · obtain ⟨a, b, r, xs, ys, rows, rfl, ha, hb, hx, hy, hR, hlen, g1, g2, neT, q⟩ := h
    have hu := hr.units
    have hu1 := hu_of hr
    have hr1 : Room 1 _ := hr.mono (by decide)
    have hr2 : Room 2 _ := hr.mono (by decide)
    have hr3 : Room 3 _ := hr.mono (by decide)
    have zl := zl
    have hrX := hr
    have hu0 : (A.deeper (envOfC "levels_right" (defScope sLR) s.heap.objs.size f (.ref c))).units < cLine := by omega
    refine ⟨_, PSs.nox ((pss_cons (GX.ps_setDg (i := 4) (o0 := .dT []) (put := GX.putT) (own := [("pair", 3)]) (g := gName 3) (tt := tYes) (tk := tVar 3) (tv := tC (.bl true)) (fun _ _ h => dt_empty _ h) rfl scLR.nd rfl rfl (GX.sw_dict rfl rfl rfl (by decide +kernel)) (pi_list (pe_call GEP hr1 (by rfl) gEP kEP bEP .nil pass0 (pa_cons (pv 0) (pa_cons (pv 1) pa_nil)))) (blkOk_by (N := nLR) (sc := defScope sLR) (by decide +kernel)) (fun _ _ _ _ _ => by exact pg_name (i := 3) scLR.nd rfl (.inl rfl)) (fun _ _ _ _ _ => pts_nil) (fun _ _ _ _ _ => by exact pv 3) (fun _ _ _ _ _ => by exact pe_bl) (fun _ _ _ _ _ => GX.putR_T hu0))
      (pss_cons (ps_for PassesOwn.never rfl (pi_list (pv 2)) (pg_name (i := 5) scLR.nd rfl (.inl rfl))
      (pss_one (ps_for PassesOwn.never rfl (pi_list (pv 5)) (pg_name (i := 3) scLR.nd rfl (.inl rfl))
      (pss_cons (ps_if (pt_cmp (pc_dnotin hu1 (pv 3) (pv 4)))
      (pss_one (ps_ret (pe_bl))) pss_nil)
      (pss_one (GX.ps_ddelT hu1 (pv 4) (pv 3)))))))
      (pss_one (ps_ret (pe_and (pe_notD (pv 4)) (pe_one (GX.pe_allG (k := 2) (own := [("row", 5)]) (g := gName 5) (tt := tYes) (te := tCall (spIL T1) [] E0 (tCons (tVar 5) tNil)) hrX rfl scLR.nd (by rfl) m_all ⟨blkOk_by (N := nLR) (sc := defScope sLR) (by decide +kernel), by decide +kernel, rfl, rfl, TB, rfl⟩ (pi_list (pv 2)) (fun _ _ _ _ _ _ hrG => by exact pg_name (i := 5) scLR.nd rfl (.inl rfl)) (fun _ _ _ _ _ _ hrG => pts_nil) (fun _ _ _ _ _ _ hrG => by exact pe_call GIL (hrG.mono (by decide)) (by rfl) gIL kIL bIL .nil pass0 (pa_cons (pv 5) pa_nil)) (fun _ => rfl))))))))), ?_⟩
    have lenE : (eqP xs ys).length ≤ 1000000 := by
      have h1 := eqTo_len xs ys xs.length
      rw [eqTo_all] at h1
      have := Nat.mul_le_mul hx hy
      omega
    -- left = {..}
    refine ⟨_, rfl, _, rfl, a, b, xs, ys, rfl, ha, hb, hx, hy, fun H1 r1 ps s1 nr1 er1 pl1 ep1 => ⟨r1, rfl, ⟨_, SqL.of er1⟩, fun D nD => ?_⟩⟩
    have lps : ps.length ≤ 1000000 := by
      rw [← ep1, List.length_map] at lenE
      exact lenE
    refine it_walk (xs := prs ps) (fun k H' => H' = upd H1 D (.dT (kvsOf ((ps.take k).map (·.2))))) rfl ?_ ?_ ?_
    · rintro k H' _ rfl
      exact SqL.of (same_new nD _ _ er1)
    · rintro k x H' hx1 rfl
      obtain ⟨⟨t, p⟩, gp, rfl⟩ := map_get hx1
      have lk := (List.getElem?_eq_some_iff.mp gp).1
      have et := pl1 _ (List.mem_of_getElem? gp)
      have etk : ps.take (k + 1) = ps.take k ++ [(t, p)] := by rw [List.take_add_one, gp]; rfl
      refine ⟨rfl, _, rfl, _, prK p, t, rfl, same_new nD _ _ et, upd_same, ?_, ?_⟩
      · unfold kvsOf
        rw [List.length_map, List.length_map, List.length_take]
        omega
      · rw [upd_upd, etk, List.map_append, put_kvs]
        · rfl
        · intro hm
          have nd : ((ps.map (·.2)).take (k + 1)).Nodup := by
            rw [ep1]
            exact (List.take_sublist _ _).nodup nodup_eqP
          rw [← List.map_take, etk, List.map_append] at nd
          exact (List.nodup_append.mp nd).2.2 p hm p (by simp) rfl
    · rintro H' rfl
      rw [prs_len, List.take_length, ep1, ← leftP_nil]
      have s2 : Same H (upd H1 D (.dT (kvsOf (leftP xs ys [])))) := same_trans s1 (same_new nD)
      have nD0 : H D = none := same_none s1 nD
      have eD2 : (upd H1 D (.dT (kvsOf (leftP xs ys [])))) D = some (.dT (kvsOf (leftP xs ys []))) := upd_same
      generalize upd H1 D (.dT (kvsOf (leftP xs ys []))) = H2 at s2 eD2
      obtain ⟨rs, cc, eR, lR, row⟩ := hR
      -- the rows
      have fl : ∀ k, rows.flatten = (rows.take k).flatten ++ (rows.drop k).flatten := fun k => by rw [← List.flatten_append, List.take_append_drop]
      have tb0 : ∀ {H' : Hp}, Same H H' → Tb2 T1 T2 H H' := fun s => ⟨fun b o _ _ e => s _ _ e, by
        obtain ⟨z1, z2, z3⟩ := g1
        exact ⟨z1, s _ _ z2, z3⟩, by
        obtain ⟨z1, z2, z3⟩ := g2
        exact ⟨z1, s _ _ z2, z3⟩⟩
      refine ⟨_, rfl, r, rfl, ⟨_, SqL.of (s2 _ _ eR)⟩, for_list (xs := rs.map V.ref) (fun k σ H' => ∃ y3 y5 : Option V, σ = [some (.ref a), some (.ref b), some (.ref r), y3, some (.ref D), y5] ∧ Same H H' ∧ H' D = some (.dT (kvsOf (leftP xs ys (rows.take k).flatten))) ∧ (rows.take k).flatten.Nodup ∧ ∀ p ∈ (rows.take k).flatten, eqAt xs ys p.1 p.2 = true)
        ⟨none, none, rfl, s2, eD2, List.nodup_nil, fun p hp => by cases hp⟩ ?_ ?_ ?_⟩
      · rintro k σ H' _ ⟨y3, y5, rfl, s3, _⟩
        exact SqL.of (s3 _ _ eR)
      · rintro k x σ H' hx1 ⟨y3, y5, rfl, s3, e3, nd3, eq3⟩
        obtain ⟨am, gam, rfl⟩ := map_get hx1
        obtain ⟨w1, w2, w3⟩ := row k am gam
        have gr : rows[k]? = some ((cc k).map (·.2)) := w3.symm
        have etk : rows.take (k + 1) = rows.take k ++ [(cc k).map (·.2)] := by rw [List.take_add_one, gr]; rfl
        have flk : rows.flatten = (rows.take k).flatten ++ ((cc k).map (·.2) ++ (rows.drop (k + 1)).flatten) := by
          rw [fl (k + 1), etk, List.flatten_append, List.append_assoc]
          simp
        refine ⟨_, rfl, am, rfl, ⟨_, SqL.of (s3 _ _ w1)⟩, for_list (xs := prs (cc k)) (fun m σ H' => ∃ y3 : Option V, σ = [some (.ref a), some (.ref b), some (.ref r), y3, some (.ref D), some (.ref am)] ∧ Same H H' ∧ H' D = some (.dT (kvsOf (leftP xs ys ((rows.take k).flatten ++ ((cc k).take m).map (·.2))))) ∧ ((rows.take k).flatten ++ ((cc k).take m).map (·.2)).Nodup ∧ ∀ p ∈ (rows.take k).flatten ++ ((cc k).take m).map (·.2), eqAt xs ys p.1 p.2 = true)
          ⟨y3, rfl, s3, ?_, ?_, ?_⟩ ?_ ?_ ?_⟩
        · show H' D = some (.dT (kvsOf (leftP xs ys ((rows.take k).flatten ++ []))))
          rw [List.append_nil]
          exact e3
        · show ((rows.take k).flatten ++ []).Nodup
          rw [List.append_nil]
          exact nd3
        · show ∀ p ∈ (rows.take k).flatten ++ [], _
          rw [List.append_nil]
          exact eq3
        · rintro m σ H' _ ⟨y3, rfl, s4, _⟩
          exact SqL.of (s4 _ _ w1)
        · rintro m x σ H4 hx2 ⟨y3, rfl, s4, e4, nd4, eq4⟩
          obtain ⟨⟨t, p⟩, gp, rfl⟩ := map_get hx2
          have et : H4 t = some (prO p) := s4 _ _ (w2 _ (List.mem_of_getElem? gp))
          have etm : (cc k).take (m + 1) = (cc k).take m ++ [(t, p)] := by rw [List.take_add_one, gp]; rfl
          have flm : rows.flatten = ((rows.take k).flatten ++ ((cc k).take m).map (·.2)) ++ (p :: (((cc k).drop (m + 1)).map (·.2) ++ (rows.drop (k + 1)).flatten)) := by
            have z : (cc k).map (·.2) = ((cc k).take (m + 1)).map (·.2) ++ ((cc k).drop (m + 1)).map (·.2) := by rw [← List.map_append, List.take_append_drop]
            rw [flk, z, etm, List.map_append]
            simp
          generalize hseen : (rows.take k).flatten ++ ((cc k).take m).map (·.2) = seen at e4 nd4 eq4 flm
          have hseen2 : (rows.take k).flatten ++ ((cc k).take (m + 1)).map (·.2) = seen ++ [p] := by
            rw [← hseen, etm, List.map_append, List.append_assoc]
            rfl
          refine ⟨_, rfl, _, rfl, D, _, rfl, DGet.t (k := prK p) e4 et, _, rfl, ?_⟩
          rw [val_kvs]
          by_cases hin : p ∈ leftP xs ys seen
          · rw [if_pos hin]
            obtain ⟨i1, i2⟩ := List.mem_filter.mp hin
            have i2 : p ∉ seen := of_decide_eq_true i2
            refine iteF ⟨_, rfl, _, rfl, D, _, prK p, t, rfl, e4, rfl, et, by rw [val_kvs, if_pos hin]; rfl, ?_⟩
            rw [drop_kvs, leftP_snoc]
            refine ⟨_, rfl, same_upd nD0 s4, ?_, ?_, ?_⟩
            · rw [hseen2]
              exact upd_same
            · rw [hseen2]
              refine List.nodup_append.mpr ⟨nd4, List.nodup_cons.mpr ⟨fun z => (by cases z), List.nodup_nil⟩, fun x hx y hy e => ?_⟩
              rw [List.mem_singleton.mp hy] at e
              exact i2 (e ▸ hx)
            · rw [hseen2]
              intro x hx
              rcases List.mem_append.mp hx with z | z
              · exact eq4 x z
              · rw [List.mem_singleton.mp z]
                exact mem_eqP.mp i1
          · rw [if_neg hin]
            refine iteT ?_
            have no : rightB xs ys rows = false := rightB_no fun R => by
              have hnd := R.nd
              have heq := R.eq p (by rw [flm]; simp)
              rw [flm] at hnd
              refine hin (List.mem_filter.mpr ⟨mem_eqP.mpr heq, decide_eq_true fun z => ?_⟩)
              exact (List.nodup_append.mp hnd).2.2 p z p List.mem_cons_self rfl
            show Q (.bl false) _
            rw [← no]
            exact q _ (tb0 s4)
        · rintro σ H4 ⟨y3, rfl, s4, e4, nd4, eq4⟩
          rw [prs_len, List.take_length] at e4 nd4 eq4
          have ek : (rows.take (k + 1)).flatten = (rows.take k).flatten ++ (cc k).map (·.2) := by
            rw [etk, List.flatten_append]
            simp
          refine ⟨_, _, rfl, s4, ?_, ?_, ?_⟩
          · rw [ek]; exact e4
          · rw [ek]; exact nd4
          · rw [ek]; exact eq4
      · rintro σ H3 ⟨y3, y5, rfl, s3, e3, nd3, eq3⟩
        rw [List.length_map, lR, List.take_length] at e3 nd3 eq3
        have em := leftP_empty nd3 eq3
        refine ⟨_, rfl, D, _, rfl, e3, _, rfl, ?_⟩
        by_cases hz : leftP xs ys rows.flatten = []
        · rw [hz]
          have hlen2 := em.mp hz
          refine ⟨_, rfl, r, rfl, ⟨_, SqL.of (s3 _ _ eR)⟩, (tb0 s3).t2, fun H4 t4 => ?_⟩
          -- all(is_level(row) for row in rows)
          have nt2 : ∀ {b : Addr} {o : HO}, H3 b = some o → (∀ ps, o ≠ .tbl ps) → b ≠ T2 := fun {b o} e n z => by
            obtain ⟨p2, e2, _⟩ := (tb0 s3).t2
            rw [z, e2] at e
            exact n p2 (Option.some.inj e).symm
          have b4 : Tb2 T1 T2 H H4 := ⟨fun b o n1 n2 e => (t4.2 b n2).trans (s3 _ _ e), by
            obtain ⟨p1, z1, z2⟩ := (tb0 s3).t1
            exact ⟨p1, (t4.2 T1 neT).trans z1, z2⟩, t4.1⟩
          refine GX.wk_list (xs := rs.map V.ref) (fun k H' => Tb2 T1 T2 H H' ∧ ∀ (m : Nat) (rw' : List Pr), m < k → rows[m]? = some rw' → anti rw' = true) ⟨b4, fun m rw' h => by omega⟩ ?_ ?_ ?_
          · rintro k H' _ ⟨t5, _⟩
            exact SqL.of (t5.at_ g1 g2 eR (fun ps z => nomatch z))
          · rintro k x H5 hx1 ⟨t5, hm⟩
            obtain ⟨am, gam, rfl⟩ := map_get hx1
            obtain ⟨w1, w2, w3⟩ := row k am gam
            have gr : rows[k]? = some ((cc k).map (·.2)) := w3.symm
            have lc := hlen _ (List.mem_of_getElem? gr)
            rw [List.length_map] at lc
            refine ⟨rfl, _, rfl, am, cc k, rfl, t5.at_ g1 g2 w1 (fun ps z => nomatch z), fun p hp => t5.at_ g1 g2 (w2 p hp) (fun ps z => nomatch z), lc, t5.t1, fun H6 t6 => ?_⟩
            have b6 : Tb2 T1 T2 H H6 := ⟨fun b o n1 n2 e => t6.sm b o n1 (t5.sm b o n1 n2 e), t6.tg, by
              obtain ⟨p2, z1, z2⟩ := t5.t2
              exact ⟨p2, t6.sm T2 _ (Ne.symm neT) z1, z2⟩⟩
            refine ⟨_, rfl, ?_⟩
            by_cases ha2 : anti ((cc k).map (·.2)) = true
            · rw [if_neg (by rw [ha2]; decide)]
              refine ⟨b6, fun m rw' h e => ?_⟩
              by_cases hmk : m = k
              · subst hmk
                rw [gr] at e
                cases e
                exact ha2
              · exact hm m rw' (by omega) e
            · rw [if_pos (Bool.eq_false_iff.mpr ha2)]
              have no : rightB xs ys rows = false := rightB_no fun R => ha2 (R.anti _ (List.mem_of_getElem? gr))
              rw [← no]
              exact q _ b6
          · rintro H5 ⟨t5, hm⟩
            rw [List.length_map, lR] at hm
            have yes : rightB xs ys rows = true := rightB_iff.mpr ⟨nd3, eq3, hlen2, fun rw' hr' => by
              obtain ⟨m, e⟩ := List.mem_iff_getElem?.mp hr'
              exact hm m rw' (List.getElem?_eq_some_iff.mp e).1 e⟩
            show Q (.bl true) _
            rw [← yes]
            exact q _ t5
        · have no : rightB xs ys rows = false := rightB_no fun R => hz (em.mpr R.len)
          have ie : (kvsOf (leftP xs ys rows.flatten)).isEmpty = false := by
            cases hl : leftP xs ys rows.flatten with
            | nil => exact absurd hl hz
            | cons _ _ => rfl
          rw [ie]
          show Q (.bl false) _
          rw [← no]
          exact q _ (tb0 s3)
end
end K15
namespace K15
open PySem PySem.Spec PyProof.Rows L2 QR
open GxR (TabB TabG Tabbed)
open PySem.W (Datum)
abbrev sFW : Stmt := topS 9
abbrev nFW : List Str := ["one", "other", "steps", "rows"]
theorem scFW : FnScope nFW ["one", "other", "steps", "rows"] (defScope sFW) := ⟨rfl, rfl, rfl, by decide +kernel, rfl, by decide +kernel, by decide +kernel⟩
theorem StepsL.same {H H' : Hp} {ps : List (Addr × Step)} (h : StepsL H ps) (s : Same H H') : StepsL H' ps := fun p hp => s _ _ (h p hp)
theorem StepsL.sub {H : Hp} {ps qs : List (Addr × Step)} (h : StepsL H ps) (s : ∀ p ∈ qs, p ∈ ps) : StepsL H qs := fun p hp => h p (s p hp)
theorem StepsL.append {H : Hp} {ps qs : List (Addr × Step)} (h : StepsL H ps) (k : StepsL H qs) : StepsL H (ps ++ qs) := fun p hp => (List.mem_append.mp hp).elim (h p) (k p)
theorem stepO_tbl (s : Step) : ∀ ps, stepO s ≠ .tbl ps := by
  cases s <;> exact fun ps z => nomatch z
theorem tabG_same {H H' : Hp} {T : Addr} (h : TabG H T) (s : Same H H') : TabG H' T := by
  obtain ⟨ps, e, o⟩ := h
  exact ⟨ps, s _ _ e, o⟩
theorem RowsV.same {H H' : Hp} {r : Addr} {rows : List (List Pr)} (h : RowsV H r rows) (s : Same H H') : RowsV H' r rows := by
  obtain ⟨rs, c, e1, e2, e3⟩ := h
  exact ⟨rs, c, s _ _ e1, e2, fun m a e => let ⟨z1, z2, z3⟩ := e3 m a e; ⟨s _ _ z1, z2.same s, z3⟩⟩
theorem Tb2.same {T1 T2 : Addr} {H H' H2 : Hp} (h : Tb2 T1 T2 H H') (s : Same H' H2) : Tb2 T1 T2 H H2 := ⟨fun b o n1 n2 e => s _ _ (h.sm b o n1 n2 e), tabG_same h.t1 s, tabG_same h.t2 s⟩
theorem Tb2.of {T1 T2 : Addr} {H H' : Hp} (g1 : TabG H T1) (g2 : TabG H T2) (s : Same H H') : Tb2 T1 T2 H H' := ⟨fun b o _ _ e => s _ _ e, tabG_same g1 s, tabG_same g2 s⟩
theorem Tb2.trans {T1 T2 : Addr} {H H' H2 : Hp} (h : Tb2 T1 T2 H H') (k : Tb2 T1 T2 H' H2) : Tb2 T1 T2 H H2 := ⟨fun b o n1 n2 e => k.sm b o n1 n2 (h.sm b o n1 n2 e), k.t1, k.t2⟩
theorem RowsV.tb {T1 T2 : Addr} {H H' : Hp} {r : Addr} {rows : List (List Pr)} (h : RowsV H r rows) (g1 : TabG H T1) (g2 : TabG H T2) (t : Tb2 T1 T2 H H') : RowsV H' r rows := by
  obtain ⟨rs, c, e1, e2, e3⟩ := h
  exact ⟨rs, c, t.at_ g1 g2 e1 (fun ps z => nomatch z), e2, fun m a e => let ⟨z1, z2, z3⟩ := e3 m a e; ⟨t.at_ g1 g2 z1 (fun ps z => nomatch z), fun p hp => t.at_ g1 g2 (z2 p hp) (fun ps z => nomatch z), z3⟩⟩
theorem StepsL.tb {T1 T2 : Addr} {H H' : Hp} {ps : List (Addr × Step)} (h : StepsL H ps) (g1 : TabG H T1) (g2 : TabG H T2) (t : Tb2 T1 T2 H H') : StepsL H' ps := fun p hp => t.at_ g1 g2 (h p hp) (stepO_tbl _)
section
variable {P : Program} {w : World} {K : PySem.W.Frag} {mg : Str → Option Value} {base : Heap}
def fewestB (xs : List (Option Str)) (ys : List Str) (ss : List Step) (rows : List (List Pr)) : Bool := right xs ys ss 0 0 && (rightB xs ys rows && decide (keeps ss = rows.length))
def spFW (T1 T2 : Addr) : Sp := fun vs H Q _ => ∃ (a b l r : Addr) (xs : List (Option Str)) (ys : List Str) (ps : List (Addr × Step)) (rows : List (List Pr)), vs = [.ref a, .ref b, .ref l, .ref r] ∧ H a = some (.lst (xs.map lnV)) ∧ H b = some (.lst (ys.map V.str)) ∧ xs.length ≤ 1000 ∧ ys.length ≤ 1000 ∧
  H l = some (.lst (refs ps)) ∧ StepsL H ps ∧ ps.length ≤ 1000000 ∧ RowsV H r rows ∧ (∀ row ∈ rows, row.length ≤ 1000000) ∧ TabG H T1 ∧ TabG H T2 ∧ T1 ≠ T2 ∧ ∀ H', Tb2 T1 T2 H H' → Q (.bl (fewestB xs ys (ps.map (·.2)) rows)) H'
section
variable {T1 T2 : Addr}
theorem ok_FW {f fSR fLR fKP : Addr} {fd fdSR fdLR fdKP : FuncData} (F : Fun K "fewest" "fewest" sFW f fd)
    (GSR : FnOk P w K mg base CX0 1 fSR fdSR ["one", "other", "steps"] spSR) (bSR : Binds K fdSR ["one", "other", "steps"] []) (gSR : mg "script_right" = some (.ref fSR)) (kSR : PySem.W.keepIn K (.ref fSR) = true)
    (GLR : FnOk P w K mg base CX0 4 fLR fdLR ["one", "other", "rows"] (spLR T1 T2)) (bLR : Binds K fdLR ["one", "other", "rows"] []) (gLR : mg "levels_right" = some (.ref fLR)) (kLR : PySem.W.keepIn K (.ref fLR) = true)
    (GKP : FnOk P w K mg base CX0 1 fKP fdKP ["steps"] spKP) (bKP : Binds K fdKP ["steps"] []) (gKP : mg "kept" = some (.ref fKP)) (kKP : PySem.W.keepIn K (.ref fKP) = true)
    (m_len : mg "len" = none) : FnOk P w K mg base CX0 5 f fd ["one", "other", "steps", "rows"] (spFW T1 T2) := by
  refine F.ok scFW (fun vs H Q E h => ?_) (fun cdv A outer s H vs Q E hr h => ?_)
  · obtain ⟨a, b, l, r, xs, ys, ps, rows, rfl, _⟩ := h
    rfl
  · obtain ⟨a, b, l, r, xs, ys, ps, rows, rfl, ha, hb, hx, hy, el, hst, hpl, hR, hlen, g1, g2, neT, q⟩ := h
    have hu := hr.units
    have hu1 := hu_of hr
    have hr1 : Room 1 _ := hr.mono (by decide)
    have hr2 : Room 2 _ := hr.mono (by decide)
    have hr3 : Room 3 _ := hr.mono (by decide)
    have hr4 : Room 4 _ := hr.mono (by decide)
    have zl := zl
    refine ⟨_, (pss_one (ps_ret (pe_and (pe_call GSR hr1 (by rfl) gSR kSR bSR .nil pass0 (pa_cons (pv 0) (pa_cons (pv 1) (pa_cons (pv 2) pa_nil)))) (pe_and (pe_call GLR hr4 (by rfl) gLR kLR bLR .nil pass0 (pa_cons (pv 0) (pa_cons (pv 1) (pa_cons (pv 3) pa_nil)))) (pe_one (pe_cmpR op_eq (pe_call GKP hr1 (by rfl) gKP kKP bKP .nil pass0 (pa_cons (pv 2) pa_nil)) (pe_callB call_len_seq (by rfl) m_len PySem.boot_len (pa_cons (pv 3) pa_nil)) (nomark _))))))), ?_⟩
    refine ⟨_, rfl, _, rfl, _, rfl, a, b, l, xs, ys, ps, rfl, ha, hb, el, hst, fun H1 s1 => ⟨_, rfl, ?_⟩⟩
    by_cases h1 : right xs ys (ps.map (·.2)) 0 0 = true
    · have f1 : fewestB xs ys (ps.map (·.2)) rows = (rightB xs ys rows && decide (keeps (ps.map (·.2)) = rows.length)) := by
        unfold fewestB
        rw [h1, Bool.true_and]
      rw [h1]
      refine ⟨_, rfl, _, rfl, _, rfl, a, b, r, xs, ys, rows, rfl, s1 _ _ ha, s1 _ _ hb, hx, hy, hR.same s1, hlen, tabG_same g1 s1, tabG_same g2 s1, neT, fun H2 t2 => ⟨_, rfl, ?_⟩⟩
      have b2 : Tb2 T1 T2 H H2 := (Tb2.of g1 g2 s1).trans t2
      by_cases h2 : rightB xs ys rows = true
      · rw [h2]
        refine ⟨_, rfl, l, ps, rfl, b2.at_ g1 g2 el (fun ps z => nomatch z), hst.tb g1 g2 b2, hpl, fun H3 s3 => ?_⟩
        obtain ⟨rs, cc, e1, e2, e3⟩ := (hR.tb g1 g2 b2).same s3
        refine ⟨_, rfl, r, _, rfl, .inl (SqL.of e1), rfl, ?_⟩
        have f2 : fewestB xs ys (ps.map (·.2)) rows = decide (V.int (keeps (ps.map (·.2)) : Nat) = V.int (((rs.map V.ref).length : Nat) : Int)) := by
          rw [f1, h2, Bool.true_and, dec_nat, List.length_map, e2]
        show Q (.bl (decide (V.int (keeps (ps.map (·.2)) : Nat) = V.int (((rs.map V.ref).length : Nat) : Int)))) H3
        rw [← f2]
        exact q _ (b2.same s3)
      · rw [Bool.eq_false_iff.mpr h2]
        have f2 : fewestB xs ys (ps.map (·.2)) rows = false := by
          rw [f1, Bool.eq_false_iff.mpr h2, Bool.false_and]
        show Q (.bl false) _
        rw [← f2]
        exact q _ b2
    · have f1 : fewestB xs ys (ps.map (·.2)) rows = false := by
        unfold fewestB
        rw [Bool.eq_false_iff.mpr h1, Bool.false_and]
      rw [Bool.eq_false_iff.mpr h1]
      show Q (.bl false) _
      rw [← f1]
      exact q _ (Tb2.of g1 g2 s1)
end
end
end K15
namespace K15
open PySem PySem.Spec PyProof.Rows L2 QR
open PySem.W (Datum)
abbrev sVL : Stmt := topS 16
abbrev nVL : List Str := ["one", "other", "found", "rows", "i", "j", "best", "k"]
theorem scVL : FnScope nVL ["one", "other"] (defScope sVL) := ⟨rfl, rfl, rfl, by decide +kernel, rfl, by decide +kernel, by decide +kernel⟩
/-- what the law's table holds: in front of the places (i, j) -/
def HP (xs : List (Option Str)) (ys : List Str) (kvs : List (List Key × V)) (S : Nat → Nat → Prop) : Prop := ∀ i j : Nat, S i j → i ≤ xs.length → j ≤ ys.length → valV kvs [.inl (i : Int), .inl (j : Int)] = some (.int (pre xs ys i j : Nat))
theorem HP.put {xs : List (Option Str)} {ys : List Str} {kvs : List (List Key × V)} {S S' : Nat → Nat → Prop} {i j : Nat} (h : HP xs ys kvs S) (hs : ∀ i' j', S' i' j' → S i' j' ∨ (i' = i ∧ j' = j)) :
    HP xs ys (putK kvs [.inl (i : Int), .inl (j : Int)] (.int (pre xs ys i j : Nat))) S' := by
  intro i' j' h1 h2 h3
  rw [valV_put]
  split
  · rename_i e
    have e1 : (i' : Int) = i := by
      injection e with e1 e2
      exact Sum.inl.inj e1
    have e2 : (j' : Int) = j := by
      injection e with e1 e2
      injection e2 with e2 e3
      exact Sum.inl.inj e2
    rw [show i' = i by omega, show j' = j by omega]
  · rename_i e
    rcases hs i' j' h1 with z | ⟨z1, z2⟩
    · exact h i' j' z h2 h3
    · exact absurd (by rw [z1, z2]) e
/-- while the k-th row is filled: the rows in front of it are done -/
structure VI (xs : List (Option Str)) (ys : List Str) (H : Hp) (r d : Addr) (kvs : List (List Key × V)) (k : Nat) (l : List Pr) (rs : List Addr) (c : Nat → List (Addr × Pr)) (H' : Hp) : Prop where
  ri : RI H r rs c H'
  len : rs.length = k + 1
  at_ : H' d = some (.dT kvs)
  done : ∀ m, m < k → (c m).map (·.2) = (eqP xs ys).filter fun p => decide (pre xs ys p.1 p.2 = m)
  now : (c k).map (·.2) = l.filter fun p => decide (pre xs ys p.1 p.2 = k)
  rest : ∀ m, k < m → c m = []
theorem VI.same {xs : List (Option Str)} {ys : List Str} {H H' H2 : Hp} {r d : Addr} {kvs : List (List Key × V)} {k : Nat} {l : List Pr} {rs : List Addr} {c : Nat → List (Addr × Pr)} (h : VI xs ys H r d kvs k l rs c H') (s : Same H' H2) : VI xs ys H r d kvs k l rs c H2 :=
  ⟨h.ri.same s, h.len, s _ _ h.at_, h.done, h.now, h.rest⟩
theorem VI.no {xs : List (Option Str)} {ys : List Str} {H H' : Hp} {r d : Addr} {kvs : List (List Key × V)} {k : Nat} {l : List Pr} {p : Pr} {rs : List Addr} {c : Nat → List (Addr × Pr)} (h : VI xs ys H r d kvs k l rs c H') (n : ¬ pre xs ys p.1 p.2 = k) : VI xs ys H r d kvs k (l ++ [p]) rs c H' :=
  ⟨h.ri, h.len, h.at_, h.done, by rw [h.now, List.filter_append]; simp [n], h.rest⟩
theorem VI.yes {xs : List (Option Str)} {ys : List Str} {H H' : Hp} {r d u am : Addr} {kvs : List (List Key × V)} {k : Nat} {l : List Pr} {p : Pr} {rs : List Addr} {c : Nat → List (Addr × Pr)} (h : VI xs ys H r d kvs k l rs c H') (e : pre xs ys p.1 p.2 = k) (g : rs[k]? = some am) (nu : H' u = none) :
    (upd H' u (prO p)) am = some (.lst (prs (c k))) ∧ (c k).length ≤ l.length ∧ VI xs ys H r d kvs k (l ++ [p]) rs (fun q => if q = k then c k ++ [(u, p)] else c q) (upd (upd H' u (prO p)) am (.lst (prs (c k) ++ [.ref u]))) := by
  have su := same_new (o := prO p) nu
  have R5 := h.ri.lay (o := prO p) nu
  obtain ⟨w1, w2, w3⟩ := R5.row _ am g
  have R6 := R5.put g (c k ++ [(u, p)]) (w2.append fun q hq => by
    cases List.mem_singleton.mp hq
    exact upd_same)
  have ep : prs (c k ++ [(u, p)]) = prs (c k) ++ [.ref u] := by
    unfold prs
    rw [List.map_append]
    rfl
  rw [ep] at R6
  have lc : (c k).length ≤ l.length := by
    have h1 := congrArg List.length h.now
    rw [List.length_map] at h1
    have h2 := List.length_filter_le (fun q : Pr => decide (pre xs ys q.1 q.2 = k)) l
    omega
  refine ⟨w1, lc, R6, h.len, ?_, fun m hm => ?_, ?_, fun m hm => ?_⟩
  · have z := su _ _ h.at_
    rw [upd_ne fun y => by rw [y, w1] at z; cases z]
    exact z
  · rw [if_neg (by omega)]
    exact h.done m hm
  · rw [if_pos rfl, List.map_append, h.now, List.filter_append]
    simp [e]
  · rw [if_neg (by omega)]
    exact h.rest m hm
theorem sub1 {i : Nat} (h : 0 < i) : ((i : Int) - 1) = ((i - 1 : Nat) : Int) := by omega
section
variable {P : Program} {w : World} {K : PySem.W.Frag} {mg : Str → Option Value} {base : Heap}
def spVL : Sp := fun vs H Q _ => ∃ (a b : Addr) (xs : List (Option Str)) (ys : List Str), vs = [.ref a, .ref b] ∧ H a = some (.lst (xs.map lnV)) ∧ H b = some (.lst (ys.map V.str)) ∧ xs.length ≤ 1000 ∧ ys.length ≤ 1000 ∧
  ∀ H' r, Same H H' → H r = none → NewRows H H' r → RowsV H' r (rowsL xs ys) → Q (.ref r) H'
theorem ok_VL {f : Addr} {fd : FuncData} (F : Fun K "_law_levels" "_law_levels" sVL f fd)
    (m_len : mg "len" = none) (m_range : mg "range" = none) (m_max : mg "max" = none) : FnOk P w K mg base CX0 1 f fd ["one", "other"] spVL := by
  refine F.ok scVL (fun vs H Q E h => ?_) (fun cdv A outer s H vs Q E hr h => ?_)
  · obtain ⟨a, b, xs, ys, rfl, _⟩ := h
    rfl
  · obtain ⟨a, b, xs, ys, rfl, ha, hb, hx, hy, q⟩ := h
    have hu := hr.units
    have hu1 := hu_of hr
    have zl := zl
    refine ⟨_, (pss_cons (ps_set (i := 2) scVL.nd rfl (.inl rfl) (pe_dnewT))
      (pss_cons (ps_set (i := 3) scVL.nd rfl (.inl rfl) (pe_lst (pa_nil)))
      (pss_cons (ps_for PassesOwn.never rfl (pi_range1 (by rfl) m_range (pa_cons (pe_op op_add (pe_callB call_len_seq (by rfl) m_len PySem.boot_len (pa_cons (pv 0) pa_nil)) (pe_int)) pa_nil)) (pg_name (i := 4) scVL.nd rfl (.inl rfl))
      (pss_one (ps_for PassesOwn.never rfl (pi_range1 (by rfl) m_range (pa_cons (pe_op op_add (pe_callB call_len_seq (by rfl) m_len PySem.boot_len (pa_cons (pv 1) pa_nil)) (pe_int)) pa_nil)) (pg_name (i := 5) scVL.nd rfl (.inl rfl))
      (pss_cons (ps_set (i := 6) scVL.nd rfl (.inl rfl) (pe_int))
      (pss_cons (ps_if (pt_cmpR op_gt (pv 4) (pe_int) (nomark _))
      (pss_one (ps_set (i := 6) scVL.nd rfl (.inl rfl) (pe_callB (call_max2 rfl) (by rfl) m_max (by decide +kernel) (pa_cons (pv 6) (pa_cons (pe_dget hu1 (pv 2) (pe_tup (pa_cons (pe_op op_sub (pv 4) (pe_int)) (pa_cons (pv 5) pa_nil))) (fun _ _ => rfl)) pa_nil))))) pss_nil)
      (pss_cons (ps_if (pt_cmpR op_gt (pv 5) (pe_int) (nomark _))
      (pss_one (ps_set (i := 6) scVL.nd rfl (.inl rfl) (pe_callB (call_max2 rfl) (by rfl) m_max (by decide +kernel) (pa_cons (pv 6) (pa_cons (pe_dget hu1 (pv 2) (pe_tup (pa_cons (pv 4) (pa_cons (pe_op op_sub (pv 5) (pe_int)) pa_nil))) (fun _ _ => rfl)) pa_nil))))) pss_nil)
      (pss_cons (ps_if (PW.pt (pw_and (pt_cmpR op_gt (pv 4) (pe_int) (nomark _)) (pw_and (pt_cmpR op_gt (pv 5) (pe_int) (nomark _)) (pw_and (pt_cmpR op_notN (pe_ix ix_list (pv 0) (pe_op op_sub (pv 4) (pe_int)) (fun _ _ => rfl)) (pe_non) (nomark _)) (pw_and1 (pt_cmpR op_eq (pe_ix ix_list (pv 0) (pe_op op_sub (pv 4) (pe_int)) (fun _ _ => rfl)) (pe_ix ix_list (pv 1) (pe_op op_sub (pv 5) (pe_int)) (fun _ _ => rfl)) (nomark _)))))))
      (pss_one (ps_set (i := 6) scVL.nd rfl (.inl rfl) (pe_callB (call_max2 rfl) (by rfl) m_max (by decide +kernel) (pa_cons (pv 6) (pa_cons (pe_op op_add (pe_dget hu1 (pv 2) (pe_tup (pa_cons (pe_op op_sub (pv 4) (pe_int)) (pa_cons (pe_op op_sub (pv 5) (pe_int)) pa_nil))) (fun _ _ => rfl)) (pe_int)) pa_nil))))) pss_nil)
      (pss_one (ps_dput hu1 (pv 2) (pe_tup (pa_cons (pv 4) (pa_cons (pv 5) pa_nil))) (pv 6) rfl)))))))))
      (pss_cons (ps_for PassesOwn.never rfl (pi_range1 (by rfl) m_range (pa_cons (pe_dget hu1 (pv 2) (pe_tup (pa_cons (pe_callB call_len_seq (by rfl) m_len PySem.boot_len (pa_cons (pv 0) pa_nil)) (pa_cons (pe_callB call_len_seq (by rfl) m_len PySem.boot_len (pa_cons (pv 1) pa_nil)) pa_nil))) (fun _ _ => rfl)) pa_nil)) (pg_name (i := 7) scVL.nd rfl (.inl rfl))
      (pss_cons (ps_expr (pe_bm PySem.F.plainAttrs_list PySem.F.slot_list_append PySem.F.type_list_append mt_append (pv 3) (pa_cons (pe_lst (pa_nil)) pa_nil)))
      (pss_one (ps_for PassesOwn.never rfl (pi_range1 (by rfl) m_range (pa_cons (pe_callB call_len_seq (by rfl) m_len PySem.boot_len (pa_cons (pv 0) pa_nil)) pa_nil)) (pg_name (i := 4) scVL.nd rfl (.inl rfl))
      (pss_one (ps_for PassesOwn.never rfl (pi_range1 (by rfl) m_range (pa_cons (pe_callB call_len_seq (by rfl) m_len PySem.boot_len (pa_cons (pv 1) pa_nil)) pa_nil)) (pg_name (i := 5) scVL.nd rfl (.inl rfl))
      (pss_one (ps_if (PW.pt (pw_and (pt_cmpR op_notN (pe_ix ix_list (pv 0) (pv 4) (fun _ _ => rfl)) (pe_non) (nomark _)) (pw_and (pt_cmpR op_eq (pe_ix ix_list (pv 0) (pv 4) (fun _ _ => rfl)) (pe_ix ix_list (pv 1) (pv 5) (fun _ _ => rfl)) (nomark _)) (pw_and1 (pt_cmpR op_eq (pe_dget hu1 (pv 2) (pe_tup (pa_cons (pv 4) (pa_cons (pv 5) pa_nil))) (fun _ _ => rfl)) (pv 7) (nomark _))))))
      (pss_one (ps_expr (pe_bm PySem.F.plainAttrs_list PySem.F.slot_list_append PySem.F.type_list_append mt_append (pe_ix ix_list (pv 3) (pv 7) (fun _ _ => rfl)) (pa_cons (pe_tup (pa_cons (pv 4) (pa_cons (pv 5) pa_nil))) pa_nil)))) pss_nil))))))))
      (pss_one (ps_ret (pv 3))))))), ?_⟩
    intro d nd
    refine ⟨by show 0 ≤ sizeLine; omega, fun r nr => ?_⟩
    have nr0 : H r = none := same_none (same_new nd) nr
    have s0 : Same H (upd (upd H d (.dT [])) r (.lst [])) := same_trans (same_new nd) (same_new nr)
    have ed0 : (upd (upd H d (.dT [])) r (.lst [])) d = some (.dT []) := same_new nr _ _ upd_same
    have er0 : (upd (upd H d (.dT [])) r (.lst [])) r = some (.lst []) := upd_same
    have few : ∀ k, k ≤ xs.length + 1 → k * (ys.length + 1) ≤ 1001 * 1001 := fun k hk => Nat.mul_le_mul (by omega) (by omega)
    generalize upd (upd H d (.dT [])) r (.lst []) = H1 at s0 ed0 er0
    -- the table
    refine ⟨_, rfl, a, _, rfl, .inl (SqL.of (s0 _ _ ha)), _, _, rfl, rfl, _, rfl, by rw [List.length_map]; omega, by rw [List.length_map]; omega, for_range (fun k σ H' => ∃ (y4 y5 y6 : Option V) (kvs : List (List Key × V)), σ = [some (.ref a), some (.ref b), some (.ref d), some (.ref r), y4, y5, y6, none] ∧ Same H H' ∧ H' d = some (.dT kvs) ∧ H' r = some (.lst []) ∧ kvs.length ≤ k * (ys.length + 1) ∧
      HP xs ys kvs (fun i _ => i < k)) ⟨none, none, none, [], rfl, s0, ed0, er0, by show 0 ≤ _; omega, fun i j h => by omega⟩ ?_ ?_⟩
    · rintro i σ H2 hi ⟨y4, y5, y6, kvs, rfl, s2, ed, er, lk, hh⟩
      have hi : i ≤ xs.length := by
        rw [List.length_map] at hi
        omega
      rw [show (0 : Int) + (i : Int) = (i : Int) from Int.zero_add _]
      refine ⟨_, rfl, b, _, rfl, .inl (SqL.of (s2 _ _ hb)), _, _, rfl, rfl, _, rfl, by rw [List.length_map]; omega, by rw [List.length_map]; omega, for_range (fun j σ H' => ∃ (y5 y6 : Option V) (kvs : List (List Key × V)), σ = [some (.ref a), some (.ref b), some (.ref d), some (.ref r), some (.int (i : Int)), y5, y6, none] ∧ Same H H' ∧ H' d = some (.dT kvs) ∧ H' r = some (.lst []) ∧ kvs.length ≤ i * (ys.length + 1) + j ∧
        HP xs ys kvs (fun i' j' => i' < i ∨ (i' = i ∧ j' < j))) ⟨y5, y6, kvs, rfl, s2, ed, er, by omega, fun i' j' h => hh i' j' (by omega)⟩ ?_ ?_⟩
      · rintro j σ H3 hj ⟨y5, y6, kvs, rfl, s3, ed, er, lk, hh⟩
        have hj : j ≤ ys.length := by
          rw [List.length_map] at hj
          omega
        rw [show (0 : Int) + (j : Int) = (j : Int) from Int.zero_add _]
        have fw := few i (by omega)
        have fa : ∀ {H2 : Hp}, Same H3 H2 → H2 a = some (.lst (xs.map lnV)) := fun s => s _ _ (s3 _ _ ha)
        have fb : ∀ {H2 : Hp}, Same H3 H2 → H2 b = some (.lst (ys.map V.str)) := fun s => s _ _ (s3 _ _ hb)
        have fd : ∀ {H2 : Hp}, Same H3 H2 → H2 d = some (.dT kvs) := fun s => s _ _ ed
        -- found[(i, j)] = best
        have next : ∀ (H2 : Hp) (u : Addr) (n : Int), Same H3 H2 → H2 u = none → n = (pre xs ys i j : Nat) → ∃ (y5 y6 : Option V) (kvs_1 : List (List Key × V)), ([some (.ref a), some (.ref b), some (.ref d), some (.ref r), some (.int (i : Int)), some (.int (j : Int)), some (.int n), none] : List (Option V)) = [some (.ref a), some (.ref b), some (.ref d), some (.ref r), some (.int (i : Int)), y5, y6, none] ∧
            Same H (upd (upd H2 u (.tup [.int (i : Int), .int (j : Int)])) d (.dT (putK kvs [.inl (i : Int), .inl (j : Int)] (.int n)))) ∧ (upd (upd H2 u (.tup [.int (i : Int), .int (j : Int)])) d (.dT (putK kvs [.inl (i : Int), .inl (j : Int)] (.int n)))) d = some (.dT kvs_1) ∧
            (upd (upd H2 u (.tup [.int (i : Int), .int (j : Int)])) d (.dT (putK kvs [.inl (i : Int), .inl (j : Int)] (.int n)))) r = some (.lst []) ∧ kvs_1.length ≤ i * (ys.length + 1) + (j + 1) ∧
            HP xs ys kvs_1 (fun i' j' => i' < i ∨ (i' = i ∧ j' < j + 1)) := by
          rintro H2 u n s2 nu rfl
          refine ⟨_, _, _, rfl, ?_, upd_same, ?_, ?_, hh.put fun i' j' h => by omega⟩
          · intro x o e
            rw [upd_ne (ne_of_none e nd)]
            exact same_new nu _ _ (s2 _ _ (s3 _ _ e))
          · have z := same_new (o := .tup [.int (i : Int), .int (j : Int)]) nu _ _ (s2 _ _ er)
            rw [upd_ne fun y => by rw [y] at er; rw [er] at ed; cases ed]
            exact z
          · have := length_putK kvs [.inl (i : Int), .inl (j : Int)] (V.int (pre xs ys i j : Nat))
            omega
        have store : ∀ (H2 : Hp) (n : Int), Same H3 H2 → n = (pre xs ys i j : Nat) → kvs.length < sizeLine := fun _ _ _ _ => by omega
        dsimp only [tNext, tSeq, tIfS, tAsg, gName, tC]
        refine ⟨_, rfl, _, _, rfl, rfl, _, rfl, ite2 (fun c1 => ?_) (fun c1 => ?_)⟩
        · have i0 : 0 < i := by
            have := of_decide_eq_true c1
            omega
          have v1 : valV kvs [.inl ((i : Int) - 1), .inl (j : Int)] = some (.int (pre xs ys (i - 1) j : Nat)) := by
            rw [sub1 i0]
            exact hh (i - 1) j (.inl (by omega)) (by omega) hj
          refine ⟨_, rfl, _, rfl, _, rfl, _, _, rfl, rfl, _, rfl, by show 2 ≤ sizeLine; omega, fun u1 n1 => ⟨d, _, rfl, dget2 (same_new n1 _ _ (fd same_refl)) upd_same v1, _, _, rfl, ?_⟩⟩
          have s4 := same_new (o := .tup [.int ((i : Int) - 1), .int (j : Int)]) n1
          refine ⟨_, rfl, _, _, rfl, rfl, _, rfl, ite2 (fun c2 => ?_) (fun c2 => ?_)⟩
          · have j0 : 0 < j := by
              have := of_decide_eq_true c2
              omega
            have v2 : valV kvs [.inl (i : Int), .inl ((j : Int) - 1)] = some (.int (pre xs ys i (j - 1) : Nat)) := by
              rw [sub1 j0]
              exact hh i (j - 1) (.inr ⟨rfl, by omega⟩) hi (by omega)
            have v3 : valV kvs [.inl ((i : Int) - 1), .inl ((j : Int) - 1)] = some (.int (pre xs ys (i - 1) (j - 1) : Nat)) := by
              rw [sub1 i0, sub1 j0]
              exact hh (i - 1) (j - 1) (.inl (by omega)) (by omega) (by omega)
            refine ⟨_, rfl, _, rfl, _, rfl, _, rfl, _, _, rfl, rfl, by show 2 ≤ sizeLine; omega, fun u2 n2 => ⟨d, _, rfl, dget2 (same_new n2 _ _ (fd s4)) upd_same v2, _, _, rfl, ?_⟩⟩
            have s5 := same_trans s4 (same_new (o := .tup [.int (i : Int), .int ((j : Int) - 1)]) n2)
            have li : i - 1 < xs.length := by omega
            have lj : j - 1 < ys.length := by omega
            have gx := List.getElem?_eq_getElem li
            have gy := List.getElem?_eq_getElem lj
            generalize xs[i - 1] = x at gx
            generalize ys[j - 1] = y at gy
            have key := pre_law gx gy
            rw [Nat.sub_add_cancel i0, Nat.sub_add_cancel j0] at key
            refine and_dec (p := 0 < i) (q := 0 < j ∧ x ≠ none ∧ x = some y) (fun R k => ⟨_, rfl, _, _, rfl, rfl, _, rfl, to_dec (by rw [decide_eq_true i0]; exact c1) (k _ same_refl)⟩) (fun _ H5 t5 R k =>
              and_dec (p := 0 < j) (q := x ≠ none ∧ x = some y) (fun R k => ⟨_, rfl, _, _, rfl, rfl, _, rfl, to_dec (by rw [decide_eq_true j0]; exact c2) (k _ same_refl)⟩) (fun _ H6 t6 R k =>
                and_dec (p := x ≠ none) (q := x = some y) (fun R k => ⟨_, rfl, _, rfl, _, _, rfl, rfl, a, _, _, _, rfl, rfl, SqL.of (fa (same_trans s5 (same_trans t5 t6))), (by rw [sub1 i0]; exact atI_nat (get_map _ gx)), rfl, _, rfl, to_dec (by cases x <;> rfl) (k _ same_refl)⟩)
                (fun _ H7 t7 R k => ⟨_, rfl, _, rfl, _, _, rfl, rfl, a, _, _, _, rfl, rfl, SqL.of (fa (same_trans s5 (same_trans t5 (same_trans t6 t7)))), (by rw [sub1 i0]; exact atI_nat (get_map _ gx)), _, rfl, _, rfl, _, _, rfl, rfl, b, _, _, _, rfl, rfl, SqL.of (fb (same_trans s5 (same_trans t5 (same_trans t6 t7)))), (by rw [sub1 j0]; exact atI_nat (get_map _ gy)), scal_ln _ _, _, rfl, to_dec (dec_ln _ _) (k _ same_refl)⟩) k) k) fun H5 t5 => ite2 (fun c3 => ?_) (fun c3 => ?_)
            · have c3 := (of_decide_eq_true c3).2.2.2
              have s6 := same_trans s5 t5
              refine ⟨_, rfl, _, rfl, _, rfl, _, _, rfl, rfl, _, rfl, _, _, rfl, rfl, by show 2 ≤ sizeLine; omega, fun u3 n3 => ⟨d, _, rfl, dget2 (same_new n3 _ _ (fd s6)) upd_same v3, _, _, rfl, rfl, _, _, rfl, ?_⟩⟩
              have s7 := same_trans s6 (same_new (o := .tup [.int ((i : Int) - 1), .int ((j : Int) - 1)]) n3)
              refine ⟨_, rfl, _, rfl, _, rfl, _, rfl, by show 2 ≤ sizeLine; omega, fun u nu => ⟨d, _, rfl, DPut.t (k := [.inl (i : Int), .inl (j : Int)]) (same_new nu _ _ (fd s7)) upd_same (by omega), next _ u _ s7 nu ?_⟩⟩
              rw [if_pos c3] at key
              rw [key]
              split <;> split <;> (try split) <;> omega
            · have c3 : ¬ x = some y := fun z => c3 (decide_eq_true ⟨i0, j0, by rw [z]; exact (fun z => nomatch z), z⟩)
              have s7 := same_trans s5 t5
              refine ⟨_, rfl, _, rfl, _, rfl, _, rfl, by show 2 ≤ sizeLine; omega, fun u nu => ⟨d, _, rfl, DPut.t (k := [.inl (i : Int), .inl (j : Int)]) (same_new nu _ _ (fd s7)) upd_same (by omega), next _ u _ s7 nu ?_⟩⟩
              rw [if_neg c3] at key
              rw [key]
              split <;> (try split) <;> omega
          · have j0 : j = 0 := by
              have : ¬ (0 : Int) < (j : Int) := fun z => c2 (decide_eq_true z)
              omega
            refine and_dec (p := 0 < i) (q := False) (fun R k => ⟨_, rfl, _, _, rfl, rfl, _, rfl, to_dec (by rw [decide_eq_true i0]; exact c1) (k _ same_refl)⟩) (fun _ H5 t5 R k =>
              and_dec (p := False) (q := False) (fun R k => ⟨_, rfl, _, _, rfl, rfl, _, rfl, to_dec (by rw [Bool.eq_false_iff.mpr c2]; rfl) (k _ same_refl)⟩) (fun z => z.elim) (fun H6 t6 => by
                have := k H6 t6
                simpa using this)) fun H5 t5 => ite2 (fun c3 => absurd (of_decide_eq_true c3) (by simp)) (fun c3 => ?_)
            have s7 := same_trans s4 t5
            refine ⟨_, rfl, _, rfl, _, rfl, _, rfl, by show 2 ≤ sizeLine; omega, fun u nu => ⟨d, _, rfl, DPut.t (k := [.inl (i : Int), .inl (j : Int)]) (same_new nu _ _ (fd s7)) upd_same (by omega), next _ u _ s7 nu ?_⟩⟩
            rw [j0, pre_zero2, pre_zero2]
            rfl
        · have i0 : i = 0 := by
            have : ¬ (0 : Int) < (i : Int) := fun z => c1 (decide_eq_true z)
            omega
          have i00 : ∀ j, pre xs ys i j = 0 := fun j => by rw [i0, pre_zero1]
          refine ⟨_, rfl, _, _, rfl, rfl, _, rfl, ite2 (fun c2 => ?_) (fun c2 => ?_)⟩
          · have j0 : 0 < j := by
              have := of_decide_eq_true c2
              omega
            have v2 : valV kvs [.inl (i : Int), .inl ((j : Int) - 1)] = some (.int (pre xs ys i (j - 1) : Nat)) := by
              rw [sub1 j0]
              exact hh i (j - 1) (.inr ⟨rfl, by omega⟩) hi (by omega)
            refine ⟨_, rfl, _, rfl, _, rfl, _, rfl, _, _, rfl, rfl, by show 2 ≤ sizeLine; omega, fun u2 n2 => ⟨d, _, rfl, dget2 (same_new n2 _ _ (fd same_refl)) upd_same v2, _, _, rfl, ?_⟩⟩
            have s5 := same_new (o := .tup [.int (i : Int), .int ((j : Int) - 1)]) n2
            refine and_dec (p := False) (q := False) (fun R k => ⟨_, rfl, _, _, rfl, rfl, _, rfl, to_dec (by rw [Bool.eq_false_iff.mpr c1]; rfl) (k _ same_refl)⟩) (fun z => z.elim) fun H5 t5 => ite2 (fun c3 => absurd (of_decide_eq_true c3) (by simp)) (fun c3 => ?_)
            have s7 := same_trans s5 t5
            refine ⟨_, rfl, _, rfl, _, rfl, _, rfl, by show 2 ≤ sizeLine; omega, fun u nu => ⟨d, _, rfl, DPut.t (k := [.inl (i : Int), .inl (j : Int)]) (same_new nu _ _ (fd s7)) upd_same (by omega), next _ u _ s7 nu ?_⟩⟩
            rw [i00, i00]
            rfl
          · refine and_dec (p := False) (q := False) (fun R k => ⟨_, rfl, _, _, rfl, rfl, _, rfl, to_dec (by rw [Bool.eq_false_iff.mpr c1]; rfl) (k _ same_refl)⟩) (fun z => z.elim) fun H5 t5 => ite2 (fun c3 => absurd (of_decide_eq_true c3) (by simp)) (fun c3 => ?_)
            refine ⟨_, rfl, _, rfl, _, rfl, _, rfl, by show 2 ≤ sizeLine; omega, fun u nu => ⟨d, _, rfl, DPut.t (k := [.inl (i : Int), .inl (j : Int)]) (same_new nu _ _ (fd t5)) upd_same (by omega), next _ u _ t5 nu ?_⟩⟩
            rw [i00]
            rfl
      · rintro σ H3 ⟨y5, y6, kvs, rfl, s3, ed, er, lk, hh⟩
        have ly : ((((ys.map V.str).length : Nat) : Int) + 1).toNat = ys.length + 1 := by
          rw [List.length_map]
          omega
        rw [ly] at lk hh
        refine ⟨_, _, _, kvs, rfl, s3, ed, er, ?_, fun i' j' h1 h2 h3 => hh i' j' (by omega) h2 h3⟩
        rw [Nat.add_mul, Nat.one_mul]
        exact lk
    · rintro σ H2 ⟨y4, y5, y6, kvs, rfl, s2, ed, er, lk, hh⟩
      have lx : ((((xs.map lnV).length : Nat) : Int) + 1).toNat = xs.length + 1 := by
        rw [List.length_map]
        omega
      rw [lx] at hh
      have hL : lcs xs ys ≤ 1000 := Nat.le_trans (lcs_le xs ys) hx
      have vN : valV kvs [.inl (((xs.map lnV).length : Nat) : Int), .inl (((ys.map V.str).length : Nat) : Int)] = some (.int (lcs xs ys : Nat)) := by
        rw [List.length_map, List.length_map, ← pre_end]
        exact hh xs.length ys.length (by omega) (Nat.le_refl _) (Nat.le_refl _)
      -- the rows
      refine ⟨_, rfl, _, rfl, a, _, rfl, .inl (SqL.of (s2 _ _ ha)), _, rfl, b, _, rfl, .inl (SqL.of (s2 _ _ hb)), by show 2 ≤ sizeLine; omega, fun u1 n1 => ⟨d, _, rfl, dget2 (same_new n1 _ _ ed) upd_same vN, _, rfl, by omega, by omega, ?_⟩⟩
      have s3 := same_new (o := .tup [.int (((xs.map lnV).length : Nat) : Int), .int (((ys.map V.str).length : Nat) : Int)]) n1
      have R0 : RI H r [] (fun _ => []) (upd H2 u1 (.tup [.int (((xs.map lnV).length : Nat) : Int), .int (((ys.map V.str).length : Nat) : Int)])) := ⟨same_trans s2 s3, nr0, s3 _ _ er, fun m a e => (by cases e), List.nodup_nil, fun z => (by cases z)⟩
      have ed3 := s3 _ _ ed
      generalize upd H2 u1 (.tup [.int (((xs.map lnV).length : Nat) : Int), .int (((ys.map V.str).length : Nat) : Int)]) = H3 at R0 ed3
      refine for_range (fun k σ H' => ∃ (y4 y5 y7 : Option V) (rs : List Addr) (c : Nat → List (Addr × Pr)), σ = [some (.ref a), some (.ref b), some (.ref d), some (.ref r), y4, y5, y6, y7] ∧ RI H r rs c H' ∧ rs.length = k ∧ H' d = some (.dT kvs) ∧
        (∀ m, m < k → (c m).map (·.2) = (eqP xs ys).filter fun p => decide (pre xs ys p.1 p.2 = m)) ∧ ∀ m, k ≤ m → c m = []) ⟨y4, y5, none, [], fun _ => [], rfl, R0, rfl, ed3, fun m h => by omega, fun _ _ => rfl⟩ ?_ ?_
      · rintro k σ H4 hk ⟨y4, y5, y7, rs, c, rfl, R4, lr, ed4, dn, rt⟩
        rw [Int.toNat_natCast] at hk
        rw [show (0 : Int) + (k : Int) = (k : Int) from Int.zero_add _]
        -- rows.append([])
        refine ⟨_, rfl, .inl ⟨rfl, _, SqL.of R4.at_⟩, by show 0 ≤ sizeLine; omega, fun z nz => ⟨r, rs.map V.ref, _, rfl, rfl, same_new nz _ _ R4.at_, by rw [List.length_map]; omega, ?_⟩⟩
        have ck : c rs.length = [] := rt _ (by omega)
        have R5 := R4.grow nz (by rw [ck]; exact fun p hp => by cases hp)
        rw [ck] at R5
        change RI H r (rs ++ [z]) c (upd (upd H4 z (.lst [])) r (.lst (rs.map V.ref ++ [.ref z]))) at R5
        have ed5 : (upd (upd H4 z (.lst [])) r (.lst (rs.map V.ref ++ [.ref z]))) d = some (.dT kvs) := by
          rw [upd_ne fun y => by rw [y, R4.at_] at ed4; cases ed4]
          exact same_new nz _ _ ed4
        have V5 : VI xs ys H r d kvs k [] (rs ++ [z]) c (upd (upd H4 z (.lst [])) r (.lst (rs.map V.ref ++ [.ref z]))) := ⟨R5, by rw [List.length_append, lr]; rfl, ed5, dn, by rw [rt k (Nat.le_refl _)]; rfl, fun m hm => rt m (by omega)⟩
        generalize upd (upd H4 z (.lst [])) r (.lst (rs.map V.ref ++ [.ref z])) = H5 at V5
        generalize rs ++ [z] = rs5 at V5
        have few2 : ∀ i k : Nat, i < xs.length → k ≤ ys.length → i * ys.length + k ≤ 1000000 := fun i k h1 h2 => by
          have : (i + 1) * ys.length ≤ 1000 * 1000 := Nat.mul_le_mul (by omega) (by omega)
          rw [Nat.add_mul, Nat.one_mul] at this
          omega
        refine ⟨_, rfl, a, _, rfl, .inl (SqL.of (V5.ri.sm _ _ ha)), _, rfl, by rw [List.length_map]; omega, by rw [List.length_map]; omega, for_range (fun i σ H' => ∃ (y4 y5 : Option V) (c : Nat → List (Addr × Pr)), σ = [some (.ref a), some (.ref b), some (.ref d), some (.ref r), y4, y5, y6, some (.int (k : Int))] ∧ VI xs ys H r d kvs k (eqTo xs ys i) rs5 c H') ⟨y4, y5, c, rfl, V5⟩ ?_ ?_⟩
        · rintro i σ H6 hi ⟨y4, y5, c, rfl, V6⟩
          have hi : i < xs.length := by
            rw [List.length_map] at hi
            omega
          rw [show (0 : Int) + (i : Int) = (i : Int) from Int.zero_add _]
          refine ⟨_, rfl, b, _, rfl, .inl (SqL.of (V6.ri.sm _ _ hb)), _, rfl, by rw [List.length_map]; omega, by rw [List.length_map]; omega, for_range (fun j σ H' => ∃ (y5 : Option V) (c : Nat → List (Addr × Pr)), σ = [some (.ref a), some (.ref b), some (.ref d), some (.ref r), some (.int (i : Int)), y5, y6, some (.int (k : Int))] ∧ VI xs ys H r d kvs k (eqTo xs ys i ++ rowTo xs ys i j) rs5 c H') ⟨y5, c, rfl, by
            show VI xs ys H r d kvs k (eqTo xs ys i ++ []) rs5 c H6
            rw [List.append_nil]
            exact V6⟩ ?_ ?_⟩
          · rintro j σ H7 hj ⟨y5, c, rfl, V7⟩
            have hj : j < ys.length := by
              rw [List.length_map] at hj
              omega
            rw [show (0 : Int) + (j : Int) = (j : Int) from Int.zero_add _]
            have gx := List.getElem?_eq_getElem hi
            have gy := List.getElem?_eq_getElem hj
            generalize xs[i] = x at gx
            generalize ys[j] = y at gy
            have ea := eqAt_of gx gy
            have v1 := hh i j (by omega) (by omega) (by omega)
            have fa : ∀ {H2 : Hp}, Same H7 H2 → H2 a = some (.lst (xs.map lnV)) := fun s => s _ _ (V7.ri.sm _ _ ha)
            have fb : ∀ {H2 : Hp}, Same H7 H2 → H2 b = some (.lst (ys.map V.str)) := fun s => s _ _ (V7.ri.sm _ _ hb)
            dsimp only [tNext, tSeq, tIfS, tAsg, gName, tC]
            refine and_dec (p := x ≠ none) (q := x = some y ∧ pre xs ys i j = k) (fun R k => ⟨_, rfl, _, rfl, a, _, _, _, rfl, rfl, SqL.of (fa same_refl), atI_nat (get_map _ gx), rfl, _, rfl, to_dec (by cases x <;> rfl) (k _ same_refl)⟩)
              (fun _ H8 t8 R kk => and_dec (p := x = some y) (q := pre xs ys i j = k) (fun R k => ⟨_, rfl, _, rfl, a, _, _, _, rfl, rfl, SqL.of (fa t8), atI_nat (get_map _ gx), _, rfl, _, rfl, b, _, _, _, rfl, rfl, SqL.of (fb t8), atI_nat (get_map _ gy), scal_ln _ _, _, rfl, to_dec (dec_ln _ _) (k _ same_refl)⟩)
                (fun _ H9 t9 R k => ⟨_, rfl, _, rfl, _, rfl, by show 2 ≤ sizeLine; omega, fun u nu => ⟨d, _, rfl, dget2 (same_new nu _ _ (t9 _ _ (t8 _ _ V7.at_))) upd_same v1, _, rfl, rfl, _, rfl, to_dec dec_nat (k _ (same_new nu))⟩⟩) kk) fun H8 t8 => ite2 (fun c1 => ?_) (fun c1 => ?_)
            · obtain ⟨_, c2, c3⟩ := of_decide_eq_true c1
              have V8 := V7.same t8
              obtain ⟨am, gam⟩ : ∃ am, rs5[k]? = some am := ⟨rs5[k]'(by rw [V7.len]; omega), List.getElem?_eq_getElem _⟩
              obtain ⟨z1, _, _⟩ := V8.ri.row k am gam
              refine ⟨_, rfl, _, rfl, r, _, _, _, rfl, rfl, SqL.of V8.ri.at_, atI_nat (get_map _ gam), .inl ⟨rfl, _, SqL.of z1⟩, _, rfl, _, rfl, by show 2 ≤ sizeLine; omega, fun u nu => ?_⟩
              obtain ⟨w1, w2, w3⟩ := V8.yes (p := (i, j)) c3 gam nu
              have l1 := eqTo_len xs ys i
              have l2 := rowTo_len xs ys i j
              have l3 := few2 i j hi (by omega)
              rw [List.length_append] at w2
              refine ⟨am, prs (c k), _, rfl, rfl, w1, by rw [prs_len]; omega, _, (fun q => if q = k then c k ++ [(u, (i, j))] else c q), rfl, ?_⟩
              rw [rowTo_succ, if_pos (by rw [ea, decide_eq_true c2]), ← List.append_assoc]
              exact w3
            · refine ⟨_, c, rfl, ?_⟩
              rw [rowTo_succ]
              by_cases he : eqAt xs ys i j = true
              · rw [if_pos he, ← List.append_assoc]
                rw [ea] at he
                have he := of_decide_eq_true he
                refine (V7.same t8).no fun z => c1 (decide_eq_true ⟨by rw [he]; exact (fun z => nomatch z), he, z⟩)
              · rw [if_neg he, List.append_nil]
                exact V7.same t8
          · rintro σ H7 ⟨y5, c, rfl, V7⟩
            rw [List.length_map, Int.toNat_natCast] at V7
            refine ⟨_, _, c, rfl, ?_⟩
            rw [eqTo_succ]
            exact V7
        · rintro σ H6 ⟨y4, y5, c, rfl, V6⟩
          rw [List.length_map, Int.toNat_natCast, eqTo_all] at V6
          refine ⟨_, _, _, rs5, c, rfl, V6.ri, V6.len, V6.at_, fun m hm => ?_, fun m hm => V6.rest m (by omega)⟩
          by_cases e : m = k
          · rw [e]
            exact V6.now
          · exact V6.done m (by omega)
      · rintro σ H4 ⟨y4, y5, y7, rs, c, rfl, R4, lr, ed4, dn, rt⟩
        rw [Int.toNat_natCast] at lr dn
        refine ⟨_, rfl, q H4 r R4.sm nr0 R4.new ⟨rs, c, R4.at_, by rw [lr, rowsL_len], fun m am e => ?_⟩⟩
        obtain ⟨z1, z2, _⟩ := R4.row m am e
        refine ⟨z1, z2, ?_⟩
        have lm := (List.getElem?_eq_some_iff.mp e).1
        rw [lr] at lm
        rw [dn m lm]
        unfold rowsL
        rw [List.getElem?_map, List.getElem?_range lm]
        rfl
end
end K15
namespace K15
open PySem PySem.Spec PyProof.Rows L2 QR
open PySem.W (Datum)
abbrev sFE : Stmt := topS 19
abbrev nFE : List Str := ["state", "steps", "found", "step"]
theorem scFE : FnScope nFE ["state", "steps"] (defScope sFE) := ⟨rfl, rfl, rfl, by decide +kernel, rfl, by decide +kernel, by decide +kernel⟩
def items (s : Step) : List V := match s with
  | .keep i j => [.str "keep", .int i, .int j]
  | .cut i => [.str "cut", .int i]
  | .put j => [.str "put", .int j]
theorem items_at {K : PySem.W.Frag} {H : Hp} {a : Addr} {s : Step} (h : H a = some (stepO s)) : SqT K H a (items s) := by
  cases s <;> exact SqT.of h
theorem items0 (s : Step) : (items s)[0]? = some (.str (wordS s)) := by cases s <;> rfl
theorem items1 (s : Step) : (items s)[1]? = some (.int (n1 s : Nat)) := by cases s <;> rfl
theorem StepsL.ou {H H' : Hp} {ps : List (Addr × Step)} {p c : Addr} (h : StepsL H ps) (s : StateAt H p c) (k : ∀ b o, b ≠ p → b ≠ c → H b = some o → H' b = some o) : StepsL H' ps := fun q hq => by
  obtain ⟨⟨_, e1⟩, ⟨_, e2⟩⟩ := s.some
  exact k _ _ (step_ne (h q hq) e1) (step_ne (h q hq) e2) (h q hq)
theorem StepsL.draw {H H' : Hp} {ps : List (Addr × Step)} {p c : Addr} (h : StepsL H ps) (s : StateAt H p c) (d : Drawn p c H H') : StepsL H' ps := h.ou s fun b o n1 n2 e => (d b n1 n2).trans e
theorem StepsL.updL {H : Hp} {ps : List (Addr × Step)} {r : Addr} {l l' : List V} (h : StepsL H ps) (e : H r = some (.lst l)) : StepsL (upd H r (.lst l')) ps := fun q hq => by
  rw [upd_ne (step_ne (h q hq) e)]
  exact h q hq
theorem refs_app (ps qs : List (Addr × Step)) : refs ps ++ refs qs = refs (ps ++ qs) := by
  unfold refs
  rw [List.map_append]
theorem refs_rev (ps : List (Addr × Step)) : (refs ps).reverse = refs ps.reverse := by
  unfold refs
  rw [List.map_reverse]
theorem refs_get {ps : List (Addr × Step)} {k : Nat} (h : k < ps.length) : (refs ps)[k]? = some (.ref ps[k].1) := get_map _ (List.getElem?_eq_getElem h)
/-- a list of drawn steps at r, that was not there in H -/
structure FI (H : Hp) (p c r : Addr) (n : Nat) (ps : List (Addr × Step)) (H' : Hp) : Prop where
  dr : Dr p c H H'
  nr : H r = none
  at_ : H' r = some (.lst (refs ps))
  st : StepsL H' ps
  le : ps.length ≤ n
theorem FI.same {H H1 H2 : Hp} {p c r : Addr} {n : Nat} {ps : List (Addr × Step)} (h : FI H p c r n ps H1) (s : Same H1 H2) : FI H p c r n ps H2 := ⟨h.dr.same s, h.nr, s _ _ h.at_, h.st.same s, h.le⟩
theorem FI.draw {H H1 H2 : Hp} {p c r : Addr} {n : Nat} {ps : List (Addr × Step)} (s0 : StateAt H p c) (h : FI H p c r n ps H1) (s : StateAt H2 p c) (d : Drawn p c H1 H2) : FI H p c r n ps H2 :=
  ⟨h.dr.drawn s d, h.nr, (d r (s0.new h.nr).1 (s0.new h.nr).2).trans h.at_, h.st.draw h.dr.st d, h.le⟩
theorem FI.set {H H1 : Hp} {p c r : Addr} {n m : Nat} {ps qs : List (Addr × Step)} {l : List V} (s0 : StateAt H p c) (h : FI H p c r n ps H1) (k : StepsL H1 qs) (e : l = refs qs) (le : qs.length ≤ m) : FI H p c r m qs (upd H1 r (.lst l)) := by
  subst e
  refine ⟨⟨h.dr.st.upd (s0.new h.nr), fun b o n1 n2 e => ?_⟩, h.nr, upd_same, k.updL h.at_, le⟩
  rw [upd_ne (ne_of_none e h.nr)]
  exact h.dr.ou b o n1 n2 e
theorem seq_nat {n j : Nat} (h : j < n) : seqIndex? (j : Int) n = some j := (ixN_seq (ixN_nat h)).1
theorem FI.new {H H1 : Hp} {p c r r2 : Addr} {n m : Nat} {ps qs : List (Addr × Step)} {l : List V} (h : FI H p c r n ps H1) (nc : H1 r2 = none) (k : StepsL H1 qs) (e : l = refs qs) (le : qs.length ≤ m) : FI H p c r2 m qs (upd H1 r2 (.lst l)) := by
  subst e
  exact ⟨h.dr.same (same_new nc), h.dr.none nc, upd_same, k.same (same_new nc), le⟩
theorem items2 (i j : Nat) : (items (.keep i j))[2]? = some (.int (j : Nat)) := rfl
theorem cutUp_app : ∀ l m : List (Step × Bool), cutUp (l ++ m) = cutUp l ++ cutUp m
  | [], _ => rfl
  | (.keep i j, true) :: l, m => by
    show .cut i :: .put j :: cutUp (l ++ m) = .cut i :: .put j :: (cutUp l ++ cutUp m)
    rw [cutUp_app l m]
  | (.keep i j, false) :: l, m => by
    show .keep i j :: cutUp (l ++ m) = .keep i j :: (cutUp l ++ cutUp m)
    rw [cutUp_app l m]
  | (.cut i, b) :: l, m => by
    cases b <;>
    · show .cut i :: cutUp (l ++ m) = .cut i :: (cutUp l ++ cutUp m)
      rw [cutUp_app l m]
  | (.put i, b) :: l, m => by
    cases b <;>
    · show .put i :: cutUp (l ++ m) = .put i :: (cutUp l ++ cutUp m)
      rw [cutUp_app l m]
theorem cutUp_one (s : Step) : cutUp [(s, false)] = [s] := by cases s <;> rfl
section
variable {P : Program} {w : World} {K : PySem.W.Frag} {mg : Str → Option Value} {base : Heap}
def spFE : Sp := fun vs H Q _ => ∃ (p c r : Addr) (ps : List (Addr × Step)), vs = [.ref p, .ref r] ∧ StateAt H p c ∧ r ≠ p ∧ r ≠ c ∧ H r = some (.lst (refs ps)) ∧ StepsL H ps ∧ ps.length ≤ 1000 ∧
  ∀ (H' : Hp) (r' : Addr) (ps' : List (Addr × Step)) (l : List (Step × Bool)), FI H p c r' 2000 ps' H' → l.map (·.1) = ps.map (·.2) → ps'.map (·.2) = cutUp l → Q (.ref r') H'
theorem ok_FE {f fD : Addr} {fd fdD : FuncData} (F : Fun K "_law_fewer" "_law_fewer" sFE f fd)
    (GD : FnOk P w K mg base CX0 1 fD fdD ["state", "many"] spDraw) (bD : Binds K fdD ["state", "many"] []) (gD : mg "_law_draw" = some (.ref fD)) (kD : PySem.W.keepIn K (.ref fD) = true) : FnOk P w K mg base CX0 2 f fd ["state", "steps"] spFE := by
  refine F.ok scFE (fun vs H Q E h => ?_) (fun cdv A outer s H vs Q E hr h => ?_)
  · obtain ⟨p, c, r, ps, rfl, _⟩ := h
    rfl
  · obtain ⟨p, c, r, ps, rfl, st, np, nc, hr0, hst, few, q⟩ := h
    have hu := hr.units
    have hu1 := hu_of hr
    have hr1 : Room 1 _ := hr.mono (by decide)
    have zl := zl
    refine ⟨_, (pss_cons (ps_set (i := 2) scFE.nd rfl (.inl rfl) (pe_lst (pa_nil)))
      (pss_cons (ps_for PassesOwn.never rfl (pi_list (pv 1)) (pg_name (i := 3) scFE.nd rfl (.inl rfl))
      (pss_one (ps_if (PW.pt (pw_and (pt_cmpR op_eq (pe_ix ix_tup (pv 3) (pe_int) (fun _ _ => rfl)) (pe_str) (nomark _)) (pw_and1 (pt_cmpR op_eq (pe_call GD hr1 (by rfl) gD kD bD .nil pass0 (pa_cons (pv 0) (pa_cons (pe_int) pa_nil))) (pe_int) (nomark _)))))
      (pss_one (ps_set (i := 2) scFE.nd rfl (.inl rfl) (pe_op op_cat (pv 2) (pe_lst (pa_cons (pe_tup (pa_cons (pe_str) (pa_cons (pe_ix ix_tup (pv 3) (pe_int) (fun _ _ => rfl)) pa_nil))) (pa_cons (pe_tup (pa_cons (pe_str) (pa_cons (pe_ix ix_tup (pv 3) (pe_int) (fun _ _ => rfl)) pa_nil))) pa_nil)))))) (pss_one (ps_expr (pe_bm PySem.F.plainAttrs_list PySem.F.slot_list_append PySem.F.type_list_append mt_append (pv 2) (pa_cons (pv 3) pa_nil)))))))
      (pss_one (ps_ret (pv 2))))), ?_⟩
    refine ⟨by show 0 ≤ sizeLine; omega, fun r0 nr0 => ?_⟩
    have f0 : FI H p c r0 0 [] (upd H r0 (.lst (refs []))) := ⟨(Dr.refl st).same (same_new nr0), nr0, upd_same, (fun q hq => by cases hq), Nat.le_refl _⟩
    refine ⟨_, rfl, r, rfl, ⟨_, SqL.of (f0.dr.ou r _ np nc hr0)⟩, for_list (xs := refs ps) (fun k σ H' => ∃ (r' : Addr) (ps' : List (Addr × Step)) (l : List (Step × Bool)) (y3 : Option V), σ = [some (.ref p), some (.ref r), some (.ref r'), y3] ∧ FI H p c r' (2 * k) ps' H' ∧ l.map (·.1) = (ps.take k).map (·.2) ∧ ps'.map (·.2) = cutUp l)
      ⟨r0, [], [], none, rfl, f0, rfl, rfl⟩ ?_ ?_ ?_⟩
    · rintro k σ H' _ ⟨r', ps', l, y3, rfl, fi, _⟩
      exact SqL.of (fi.dr.ou r _ np nc hr0)
    · rintro k x σ H2 hx1 ⟨r', ps', l, y3, rfl, fi, e1, e2⟩
      obtain ⟨⟨t, s⟩, gp, rfl⟩ := map_get hx1
      have lk := (List.getElem?_eq_some_iff.mp gp).1
      have et : H2 t = some (stepO s) := (hst.ou st fi.dr.ou) _ (List.mem_of_getElem? gp)
      have etk : ps.take (k + 1) = ps.take k ++ [(t, s)] := by rw [List.take_add_one, gp]; rfl
      have lp := fi.le
      -- the step itself
      have app : ∀ {H3 : Hp}, FI H p c r' (2 * k) ps' H3 → H3 t = some (stepO s) → FI H p c r' (2 * (k + 1)) (ps' ++ [(t, s)]) (upd H3 r' (.lst (refs ps' ++ [.ref t]))) ∧ (l ++ [(s, false)]).map (·.1) = (ps.take (k + 1)).map (·.2) ∧ (ps' ++ [(t, s)]).map (·.2) = cutUp (l ++ [(s, false)]) := fun {H3} f et3 => by
        refine ⟨f.set st (f.st.append fun q hq => ?_) (by unfold refs; rw [List.map_append]; rfl) (by rw [List.length_append]; show _ + 1 ≤ _; omega), by rw [etk, List.map_append, List.map_append, e1]; rfl, by rw [cutUp_app, cutUp_one, List.map_append, e2]; rfl⟩
        cases List.mem_singleton.mp hq
        exact et3
      refine ⟨_, rfl, t, _, 0, _, rfl, rfl, items_at et, atI_nat (j := 0) (items0 _), rfl, _, rfl, ?_⟩
      rw [word_keep]
      refine ite2 (fun h1 => ?_) (fun h1 => ?_)
      · refine ⟨_, rfl, p, c, 4, rfl, by decide, fi.dr.st, fun H3 k3 _ _ st3 d3 => ⟨rfl, _, rfl, ite2 (fun h2 => ?_) (fun h2 => ?_)⟩⟩
        · obtain ⟨i, j, ek⟩ : ∃ i j, s = .keep i j := by
            cases s with
            | keep i j => exact ⟨i, j, rfl⟩
            | cut i => cases h1
            | put i => cases h1
          subst ek
          have f3 := fi.draw st st3 d3
          have et3 : H3 t = some (stepO (.keep i j)) := (hst.ou st f3.dr.ou) _ (List.mem_of_getElem? gp)
          refine ⟨_, rfl, _, rfl, t, _, 1, _, rfl, rfl, items_at et3, atI_nat (j := 1) (items1 _), by show 2 ≤ sizeLine; omega, fun u1 m1 => ?_⟩
          have g1 := same_new (o := stepO (.cut i)) m1
          have v1 := upd_same (H := H3) (a := u1) (o := stepO (.cut i))
          change (upd H3 u1 (stepO (.cut i))) u1 = _ at v1
          refine ⟨_, rfl, t, _, 2, _, rfl, rfl, items_at (g1 _ _ et3), atI_nat (j := 2) (items2 i j), by show 2 ≤ sizeLine; omega, fun u2 m2 => ⟨by show 2 ≤ sizeLine; omega, fun lst nl => ?_⟩⟩
          have g2 := same_new (o := stepO (.put j)) m2
          have v2 := g2 _ _ v1
          have v3 := upd_same (H := upd H3 u1 (stepO (.cut i))) (a := u2) (o := stepO (.put j))
          have g3 := same_new (o := .lst (refs [(u1, Step.cut i), (u2, Step.put j)])) nl
          have f4 := ((f3.same g1).same g2).same g3
          have w4 := upd_same (H := upd (upd H3 u1 (stepO (.cut i))) u2 (stepO (.put j))) (a := lst) (o := .lst (refs [(u1, Step.cut i), (u2, Step.put j)]))
          refine ⟨r', lst, _, _, rfl, rfl, f4.at_, w4, by rw [refs_len, refs_len]; show _ + 2 ≤ _; omega, fun c1 nc1 => ?_⟩
          rw [refs_app]
          refine ⟨c1, ps' ++ [(u1, Step.cut i), (u2, Step.put j)], l ++ [(.keep i j, true)], _, rfl, f4.new nc1 (f4.st.append fun q hq => ?_) rfl (by rw [List.length_append]; show _ + 2 ≤ _; omega), by rw [etk, List.map_append, List.map_append, e1]; rfl, by rw [cutUp_app, List.map_append, e2]; rfl⟩
          simp only [List.mem_cons, List.not_mem_nil, or_false] at hq
          rcases hq with rfl | rfl
          · exact g3 _ _ v2
          · exact g3 _ _ v3
        · have f3 := fi.draw st st3 d3
          have et3 : H3 t = some (stepO s) := (hst.ou st f3.dr.ou) _ (List.mem_of_getElem? gp)
          obtain ⟨w1, w2, w3⟩ := app f3 et3
          exact ⟨_, rfl, .inl ⟨rfl, _, SqL.of f3.at_⟩, _, rfl, r', refs ps', _, rfl, rfl, f3.at_, by rw [refs_len]; omega, r', _, _, _, rfl, w1, w2, w3⟩
      · obtain ⟨w1, w2, w3⟩ := app fi et
        exact ⟨_, rfl, .inl ⟨rfl, _, SqL.of fi.at_⟩, _, rfl, r', refs ps', _, rfl, rfl, fi.at_, by rw [refs_len]; omega, r', _, _, _, rfl, w1, w2, w3⟩
    · rintro σ H2 ⟨r', ps', l, y3, rfl, fi, e1, e2⟩
      rw [refs_len] at fi e1
      rw [List.take_length] at e1
      exact ⟨_, rfl, q H2 r' ps' l ⟨fi.dr, fi.nr, fi.at_, fi.st, Nat.le_trans fi.le (by omega)⟩ e1 e2⟩
end
end K15
namespace K15
open PySem PySem.Spec PyProof.Rows L2 QR
open PySem.W (Datum)
abbrev sRT : Stmt := topS 17
abbrev nRT : List Str := ["one", "other", "rows", "places", "row", "i", "j", "count", "line", "there", "pair"]
theorem scRT : FnScope nRT ["one", "other", "rows"] (defScope sRT) := ⟨rfl, rfl, rfl, by decide +kernel, rfl, by decide +kernel, by decide +kernel⟩
section
variable {X : Cx}
/-- x in xs, xs a list of plain data -/
def rInD (K : PySem.W.Frag) : R2 := fun x y H Q => ∃ (xs : List PyData) (d : PyData), Dp K H y (.list xs) ∧ Dp K H x d ∧ PyData.plainAll xs = true ∧ d.plain = true ∧ d.depth ≤ 60 ∧ Q (.bl (xs.any fun y => PyData.eqv y d)) H
theorem op_inD (hu : X.A.units + 64 < cLine) : OpR X (compareOp .In) (rInD X.K) := fun pins s σ H x y v u Q I rx ry ⟨xs, d, hy, hx, px, pd, dd, q⟩ => by
  obtain ⟨as, r1⟩ := Dp.reads I _ y u hy ry
  obtain ⟨bs, r2⟩ := Dp.reads I d x v hx rx
  exact PySem.SeqAt.in_list_data r1 r2 px pd (by omega) ⟨.bl _, H, I, rfl, q⟩
end
def prD (p : Pr) : PyData := .tuple [.int (p.1 : Int), .int (p.2 : Int)]
theorem prD_eqv (p q : Pr) : PyData.eqv (prD p) (prD q) = decide (p = q) := by
  show PyData.eqv (.tuple _) (.tuple _) = _
  rw [PyData.eqv, one_, one_, show PyData.eqvAll [] [] = true by rw [PyData.eqvAll], Bool.and_true, ← Bool.decide_and]
  exact decide_eq_decide.mpr (by rw [Prod.ext_iff])
theorem prD_all : ∀ l : List Pr, PyData.plainAll (l.map prD) = true
  | [] => rfl
  | p :: l => by
    rw [List.map_cons, PyData.plainAll, prD_all l]
    rfl
theorem dp_pr {K : PySem.W.Frag} {H : Hp} {a : Addr} {p : Pr} (h : H a = some (prO p)) : Dp K H (.ref a) (prD p) := .tup (SqT.of h) (.cons (.int _) (.cons (.int _) .nil))
theorem dp_prs {K : PySem.W.Frag} {H : Hp} : ∀ {ps : List (Addr × Pr)}, PairsL H ps → DpAll K H (prs ps) ((ps.map (·.2)).map prD)
  | [], _ => .nil
  | p :: ps, h => .cons (dp_pr (h p List.mem_cons_self)) (dp_prs fun q hq => h q (List.mem_cons_of_mem _ hq))
theorem EI.same {H H' H2 : Hp} {D : Addr} {l : List Pr} (h : EI H D l H') (s : Same H' H2) : EI H D l H2 := by
  obtain ⟨ps, e1, e2, e3⟩ := h.ex
  exact ⟨same_trans h.sm s, ps, s _ _ e1, e2.same s, e3⟩
theorem not_lt {α : Type} {i : Nat} {l : List α} {f : α → V} : (!decide ((i : Int) < ((l.map f).length : Int))) = decide (¬ i < l.length) := by
  rw [dec_lt, decide_not]
theorem any_pr (p : Pr) : ∀ l : List Pr, ((l.map prD).any fun y => PyData.eqv y (prD p)) = decide (p ∈ l)
  | [] => rfl
  | q :: l => by
    rw [List.map_cons, List.any_cons, prD_eqv, any_pr p l, ← Bool.decide_or]
    exact decide_eq_decide.mpr ⟨fun z => z.elim (fun e => by rw [e]; exact List.mem_cons_self) (List.mem_cons_of_mem _), fun z => (List.mem_cons.mp z).elim (fun e => .inl e.symm) .inr⟩
/-- a pair in a list of pairs -/
theorem in_prs {K : PySem.W.Frag} {H : Hp} {D u : Addr} {ps : List (Addr × Pr)} {p : Pr} {Q : VK} (hD : H D = some (.lst (prs ps))) (hp : PairsL H ps) (hu : H u = some (prO p)) (q : Q (.bl (decide (p ∈ ps.map (·.2)))) H) : rInD K (.ref u) (.ref D) H Q :=
  ⟨_, _, .lst (SqL.of hD) (dp_prs hp), dp_pr hu, prD_all _, rfl, by simp [prD, PyData.depth, PyData.depthAll], by rw [any_pr]; exact q⟩
section
variable {P : Program} {w : World} {K : PySem.W.Frag} {mg : Str → Option Value} {base : Heap}
def spRT : Sp := fun vs H Q _ => ∃ (a b r : Addr) (xs : List (Option Str)) (ys : List Str) (rows : List (List Pr)), vs = [.ref a, .ref b, .ref r] ∧ H a = some (.lst (xs.map lnV)) ∧ H b = some (.lst (ys.map V.str)) ∧ xs.length ≤ 1000 ∧ ys.length ≤ 1000 ∧
  RowsV H r rows ∧ rows.flatten.length ≤ 1000000 ∧ ∀ H', Same H H' → Q (.bl (rightB xs ys rows)) H'
theorem ok_RT {f : Addr} {fd : FuncData} (F : Fun K "_law_right" "_law_right" sRT f fd)
    (m_len : mg "len" = none) : FnOk P w K mg base CX0 1 f fd ["one", "other", "rows"] spRT := by
  refine F.ok scRT (fun vs H Q E h => ?_) (fun cdv A outer s H vs Q E hr h => ?_)
  · obtain ⟨a, b, r, xs, ys, rows, rfl, _⟩ := h
    rfl
  · obtain ⟨a, b, r, xs, ys, rows, rfl, ha, hb, hx, hy, hR, hfl, q⟩ := h
    have hu := hr.units
    have hu1 := hu_of hr
    have zl := zl
    refine ⟨_, (pss_cons (ps_set (i := 3) scRT.nd rfl (.inl rfl) (pe_lst (pa_nil)))
      (pss_cons (ps_for PassesOwn.never rfl (pi_list (pv 2)) (pg_name (i := 4) scRT.nd rfl (.inl rfl))
      (pss_one (ps_for PassesOwn.never rfl (pi_list (pv 4)) (pg_tup (by rfl) (pgs_cons (pg_name (i := 5) scRT.nd rfl (.inr rfl)) (pgs_cons (pg_name (i := 6) scRT.nd rfl (.inr rfl)) pgs_nil)))
      (pss_cons (ps_if (PW.pt (pw_or (pt_cmpR (op_inD hu) (pe_tup (pa_cons (pv 5) (pa_cons (pv 6) pa_nil))) (pv 3) (by rfl)) (pw_or (pt_not (pt_chain op_le op_lt (pe_int) (pv 5) (pe_callB call_len_seq (by rfl) m_len PySem.boot_len (pa_cons (pv 0) pa_nil)))) (pw_or (pt_not (pt_chain op_le op_lt (pe_int) (pv 6) (pe_callB call_len_seq (by rfl) m_len PySem.boot_len (pa_cons (pv 1) pa_nil)))) (pw_or (pt_cmpR op_isN (pe_ix ix_list (pv 0) (pv 5) (fun _ _ => rfl)) (pe_non) (nomark _)) (pw_or1 (pt_cmpR op_ne (pe_ix ix_list (pv 0) (pv 5) (fun _ _ => rfl)) (pe_ix ix_list (pv 1) (pv 6) (fun _ _ => rfl)) (nomark _))))))))
      (pss_one (ps_ret (pe_bl))) pss_nil)
      (pss_cons (ps_expr (pe_bm PySem.F.plainAttrs_list PySem.F.slot_list_append PySem.F.type_list_append mt_append (pv 3) (pa_cons (pe_tup (pa_cons (pv 5) (pa_cons (pv 6) pa_nil))) pa_nil)))
      (pss_one (ps_if (pt_cmpR op_gt (pe_callB call_len_seq (by rfl) m_len PySem.boot_len (pa_cons (pe_lc (own := [("pair", 10)]) (g := gName 10) (tt := tAnd (tTest (tOp (rI0 fun i j => .bl (decide (i < j))) (tOp (rIxT K) (tVar 10) (tC (.int 0))) (tVar 5))) (tTest (tOp (rI0 fun i j => .bl (decide (i < j))) (tOp (rIxT K) (tVar 10) (tC (.int 1))) (tVar 6)))) (te := tVar 10) rfl scRT.nd (pi_list (pv 4)) (blkOk_by (N := nRT) (sc := defScope sRT) (by decide +kernel)) (fun _ _ _ _ _ => by exact pg_name (i := 10) scRT.nd rfl (.inl rfl)) (fun _ _ _ _ _ => by exact pts_one (PW.pt (pw_and (pt_cmpR op_lt (pe_ix ix_tup (pv 10) (pe_int) (fun _ _ => rfl)) (pv 5) (nomark _)) (pw_and1 (pt_cmpR op_lt (pe_ix ix_tup (pv 10) (pe_int) (fun _ _ => rfl)) (pv 6) (nomark _)))))) (fun _ _ _ _ _ => by exact pv 10)) pa_nil)) (pe_int) (nomark _))
      (pss_one (ps_ret (pe_bl))) pss_nil)))))))
      (pss_cons (ps_set (i := 7) scRT.nd rfl (.inl rfl) (pe_int))
      (pss_cons (ps_for PassesOwn.never rfl (pi_list (pv 0)) (pg_name (i := 8) scRT.nd rfl (.inr rfl))
      (pss_one (ps_set (i := 7) scRT.nd rfl (.inl rfl) (pe_op op_add (pv 7) (pe_callB call_len_seq (by rfl) m_len PySem.boot_len (pa_cons (pe_lc (own := [("there", 9)]) (g := gName 9) (tt := _) (te := tVar 9) rfl scRT.nd (pi_list (pv 1)) (blkOk_by (N := nRT) (sc := defScope sRT) (by decide +kernel)) (fun _ _ _ _ _ => by exact pg_name (i := 9) scRT.nd rfl (.inl rfl)) (fun _ _ _ _ _ => by exact pts_one (PW.pt (pw_and (pt_cmpR op_notN (pv 8) (pe_non) (nomark _)) (pw_and1 (pt_cmpR op_eq (pv 9) (pv 8) (nomark _)))))) (fun _ _ _ _ _ => by exact pv 9)) pa_nil))))))
      (pss_one (ps_ret (pe_cmpR op_eq (pe_callB call_len_seq (by rfl) m_len PySem.boot_len (pa_cons (pv 3) pa_nil)) (pv 7) (nomark _)))))))), ?_⟩
    refine ⟨by show 0 ≤ sizeLine; omega, fun D nD => ?_⟩
    have e0 : EI H D [] (upd H D (.lst [])) := ⟨same_new nD, [], upd_same, (fun p hp => by cases hp), rfl⟩
    obtain ⟨rs, cc, eR, lR, row⟩ := hR
    have fl : ∀ k, rows.flatten = (rows.take k).flatten ++ (rows.drop k).flatten := fun k => by rw [← List.flatten_append, List.take_append_drop]
    refine ⟨_, rfl, r, rfl, ⟨_, SqL.of (e0.sm _ _ eR)⟩, for_list (xs := rs.map V.ref) (fun k σ H' => ∃ y4 y5 y6 : Option V, σ = [some (.ref a), some (.ref b), some (.ref r), some (.ref D), y4, y5, y6, none, none, none, none] ∧ EI H D (rows.take k).flatten H' ∧ (rows.take k).flatten.Nodup ∧ (∀ p ∈ (rows.take k).flatten, eqAt xs ys p.1 p.2 = true) ∧ ∀ rw' ∈ rows.take k, anti rw' = true)
      ⟨none, none, none, rfl, e0, List.nodup_nil, (fun p hp => by cases hp), fun p hp => by cases hp⟩ ?_ ?_ ?_⟩
    · rintro k σ H' _ ⟨y4, y5, y6, rfl, e, _⟩
      exact SqL.of (e.sm _ _ eR)
    · rintro k x σ H1 hx1 ⟨y4, y5, y6, rfl, e1, nd1, eq1, an1⟩
      obtain ⟨am, gam, rfl⟩ := map_get hx1
      obtain ⟨w1, w2, w3⟩ := row k am gam
      have gr : rows[k]? = some ((cc k).map (·.2)) := w3.symm
      have etk : rows.take (k + 1) = rows.take k ++ [(cc k).map (·.2)] := by rw [List.take_add_one, gr]; rfl
      have flk : rows.flatten = (rows.take k).flatten ++ ((cc k).map (·.2) ++ (rows.drop (k + 1)).flatten) := by
        rw [fl (k + 1), etk, List.flatten_append, List.append_assoc]
        simp
      refine ⟨_, rfl, am, rfl, ⟨_, SqL.of (e1.sm _ _ w1)⟩, for_list (xs := prs (cc k)) (fun m σ H' => ∃ y5 y6 : Option V, σ = [some (.ref a), some (.ref b), some (.ref r), some (.ref D), some (.ref am), y5, y6, none, none, none, none] ∧ EI H D ((rows.take k).flatten ++ ((cc k).take m).map (·.2)) H' ∧ ((rows.take k).flatten ++ ((cc k).take m).map (·.2)).Nodup ∧ (∀ p ∈ (rows.take k).flatten ++ ((cc k).take m).map (·.2), eqAt xs ys p.1 p.2 = true) ∧
        ∀ p ∈ ((cc k).take m).map (·.2), ∀ p2 ∈ (cc k).map (·.2), ¬ (p2.1 < p.1 ∧ p2.2 < p.2)) ⟨y5, y6, rfl, ?_, ?_, ?_, fun p hp => by cases hp⟩ ?_ ?_ ?_⟩
      · show EI H D ((rows.take k).flatten ++ []) H1
        rw [List.append_nil]
        exact e1
      · show ((rows.take k).flatten ++ []).Nodup
        rw [List.append_nil]
        exact nd1
      · show ∀ p ∈ (rows.take k).flatten ++ [], _
        rw [List.append_nil]
        exact eq1
      · rintro m σ H' _ ⟨y5, y6, rfl, e, _⟩
        exact SqL.of (e.sm _ _ w1)
      · rintro m x σ H2 hx2 ⟨y5, y6, rfl, e2, nd2, eq2, an2⟩
        obtain ⟨⟨t, p⟩, gp, rfl⟩ := map_get hx2
        have et : H2 t = some (prO p) := e2.sm _ _ (w2 _ (List.mem_of_getElem? gp))
        have etm : (cc k).take (m + 1) = (cc k).take m ++ [(t, p)] := by rw [List.take_add_one, gp]; rfl
        have pin : p ∈ (cc k).map (·.2) := List.mem_map.mpr ⟨_, List.mem_of_getElem? gp, rfl⟩
        have flm : rows.flatten = ((rows.take k).flatten ++ ((cc k).take m).map (·.2)) ++ (p :: (((cc k).drop (m + 1)).map (·.2) ++ (rows.drop (k + 1)).flatten)) := by
          have z : (cc k).map (·.2) = ((cc k).take (m + 1)).map (·.2) ++ ((cc k).drop (m + 1)).map (·.2) := by rw [← List.map_append, List.take_append_drop]
          rw [flk, z, etm, List.map_append]
          simp
        have hseen2 : (rows.take k).flatten ++ ((cc k).take (m + 1)).map (·.2) = ((rows.take k).flatten ++ ((cc k).take m).map (·.2)) ++ [p] := by
          rw [etm, List.map_append, List.append_assoc]
          rfl
        rw [hseen2]
        generalize hseen : (rows.take k).flatten ++ ((cc k).take m).map (·.2) = seen at e2 nd2 eq2 flm
        have lseen : seen.length ≤ 1000000 := by
          rw [flm, List.length_append] at hfl
          omega
        have fa : ∀ {H3 : Hp}, Same H2 H3 → H3 a = some (.lst (xs.map lnV)) := fun s => s _ _ (e2.sm _ _ ha)
        have fb : ∀ {H3 : Hp}, Same H2 H3 → H3 b = some (.lst (ys.map V.str)) := fun s => s _ _ (e2.sm _ _ hb)
        obtain ⟨ps, ep1, ep2, ep3⟩ := id e2.ex
        refine ⟨t, _, rfl, SqT.of et, rfl, _, _, rfl, _, _, rfl, rfl, ?_⟩
        dsimp only [tNext, tSeq, tIfS, tAsg, gName, tC]
        refine or_dec (p := p ∈ seen) (q := ¬ p.1 < xs.length ∨ (¬ p.2 < ys.length ∨ (xs[p.1]? = some none ∨ eqAt xs ys p.1 p.2 = false)))
          (fun R k => ⟨_, rfl, _, rfl, by show 2 ≤ sizeLine; omega, fun u nu => ⟨_, rfl, in_prs (same_new nu _ _ ep1) (ep2.same (same_new nu)) (upd_same (o := prO p)) ⟨_, rfl, to_dec (by rw [ep3]) (k _ (same_new nu))⟩⟩⟩)
          (fun _ H3 s3 R k => or_dec (p := ¬ p.1 < xs.length) (q := ¬ p.2 < ys.length ∨ (xs[p.1]? = some none ∨ eqAt xs ys p.1 p.2 = false))
            (fun R k => ⟨_, rfl, _, _, rfl, rfl, _, rfl, ite2 (fun _ => ⟨_, rfl, a, _, rfl, .inl (SqL.of (fa s3)), _, _, rfl, rfl, _, rfl, to_dec not_lt (k _ same_refl)⟩) (fun z => absurd (decide_eq_true (show (0 : Int) ≤ (p.1 : Int) by omega)) z)⟩)
            (fun c1 H4 s4 R k => or_dec (p := ¬ p.2 < ys.length) (q := xs[p.1]? = some none ∨ eqAt xs ys p.1 p.2 = false)
              (fun R k => ⟨_, rfl, _, _, rfl, rfl, _, rfl, ite2 (fun _ => ⟨_, rfl, b, _, rfl, .inl (SqL.of (fb (same_trans s3 s4))), _, _, rfl, rfl, _, rfl, to_dec not_lt (k _ same_refl)⟩) (fun z => absurd (decide_eq_true (show (0 : Int) ≤ (p.2 : Int) by omega)) z)⟩)
              (fun c2 H5 s5 R k => ?t3) k) k) fun H3 s3 => ite2 (fun h1 => ?t1) (fun h1 => ?t2)
        case t3 =>
          have gx := List.getElem?_eq_getElem (Decidable.not_not.mp c1)
          have gy := List.getElem?_eq_getElem (Decidable.not_not.mp c2)
          have ea := eqAt_of gx gy
          generalize xs[p.1]'(Decidable.not_not.mp c1) = x at gx ea
          generalize ys[p.2]'(Decidable.not_not.mp c2) = y at gy ea
          have s25 := same_trans s3 (same_trans s4 s5)
          refine or_dec (p := xs[p.1]? = some none) (q := eqAt xs ys p.1 p.2 = false)
            (fun R k => ⟨_, rfl, _, rfl, a, _, _, _, rfl, rfl, SqL.of (fa s25), atI_nat (get_map _ gx), rfl, _, rfl, to_dec (by rw [gx]; cases x <;> simp [lnV]) (k _ same_refl)⟩)
            (fun _ H6 s6 R k => ⟨_, rfl, _, rfl, a, _, _, _, rfl, rfl, SqL.of (fa (same_trans s25 s6)), atI_nat (get_map _ gx), _, rfl, _, rfl, b, _, _, _, rfl, rfl, SqL.of (fb (same_trans s25 s6)), atI_nat (get_map _ gy), scal_ln _ _, _, rfl, to_dec (by rw [dec_ln, ea]; simp) (k _ same_refl)⟩) k
        case t1 =>
          have no : rightB xs ys rows = false := rightB_no fun R => by
            have heq := R.eq p (by rw [flm]; simp)
            have hnd := R.nd
            rw [flm] at hnd
            obtain ⟨l1, l2⟩ := eqAt_lt heq
            obtain ⟨y, gx, gy⟩ := eqAt_get heq
            rcases of_decide_eq_true h1 with z | z | z | z | z
            · exact (List.nodup_append.mp hnd).2.2 p z p List.mem_cons_self rfl
            · exact z l1
            · exact z l2
            · rw [gx] at z; cases z
            · rw [heq] at z; cases z
          show Q (.bl false) _
          rw [← no]
          exact q _ (same_trans e2.sm s3)
        case t2 =>
          have h1 := fun z => h1 (decide_eq_true z)
          have pn : p ∉ seen := fun z => h1 (.inl z)
          have heq : eqAt xs ys p.1 p.2 = true := by
            cases e : eqAt xs ys p.1 p.2 with
            | true => rfl
            | false => exact absurd (.inr (.inr (.inr (.inr e)))) h1
          refine ⟨_, rfl, .inl ⟨rfl, _, SqL.of (s3 _ _ ep1)⟩, _, rfl, _, rfl, by show 2 ≤ sizeLine; omega, fun u nu => ?_⟩
          obtain ⟨acc, w4, w5, e4⟩ := (e2.same s3).app (p := p) nD nu lseen
          refine ⟨D, acc, _, rfl, rfl, w4, w5, ?_⟩
          change EI H D (seen ++ [p]) (upd (upd H3 u (.tup [.int (p.1 : Int), .int (p.2 : Int)])) D (.lst (acc ++ [.ref u]))) at e4
          generalize upd (upd H3 u (.tup [.int (p.1 : Int), .int (p.2 : Int)])) D (.lst (acc ++ [.ref u])) = H4 at e4
          -- no pair of the row is less in both
          refine ⟨_, rfl, am, rfl, ⟨_, SqL.of (e4.sm _ _ w1)⟩, fun D2 nD2 => ?_⟩
          have lcc : (cc k).length ≤ 1000000 := by
            rw [flk] at hfl
            rw [List.length_append, List.length_append, List.length_map] at hfl
            omega
          refine lc_list (xs := prs (cc k)) (fun q' H' => H' = upd H4 D2 (.lst (prs (((cc k).take q').filter fun z => decide (z.2.1 < p.1 ∧ z.2.2 < p.2))))) rfl ?_ ?_ ?_
          · rintro q' H' _ rfl
            exact SqL.of (same_new nD2 _ _ (e4.sm _ _ w1))
          · rintro q' x H' hx3 rfl
            obtain ⟨⟨t2, p2⟩, gp2, rfl⟩ := map_get hx3
            have et2 := same_new (o := .lst (prs (((cc k).take q').filter fun z => decide (z.2.1 < p.1 ∧ z.2.2 < p.2)))) nD2 _ _ (e4.sm _ _ (w2 _ (List.mem_of_getElem? gp2)))
            have etq : (cc k).take (q' + 1) = (cc k).take q' ++ [(t2, p2)] := by rw [List.take_add_one, gp2]; rfl
            have no : ¬ (p2.1 < p.1 ∧ p2.2 < p.2) → upd H4 D2 (.lst (prs (((cc k).take q').filter fun z => decide (z.2.1 < p.1 ∧ z.2.2 < p.2)))) = upd H4 D2 (.lst (prs (((cc k).take (q' + 1)).filter fun z => decide (z.2.1 < p.1 ∧ z.2.2 < p.2)))) := fun n => by
              rw [etq, List.filter_append, show List.filter (fun z : Addr × Pr => decide (z.2.1 < p.1 ∧ z.2.2 < p.2)) [(t2, p2)] = [] from List.filter_cons_of_neg (by simpa using fun a => Nat.le_of_not_lt fun b => n ⟨a, b⟩), List.append_nil]
            refine ⟨rfl, _, rfl, t2, _, 0, _, rfl, rfl, SqT.of et2, atI_nat (j := 0) rfl, _, rfl, _, _, rfl, rfl, _, rfl, ite2 (fun c1 => ⟨_, rfl, t2, _, 1, _, rfl, rfl, SqT.of et2, atI_nat (j := 1) rfl, _, rfl, _, _, rfl, rfl, _, rfl, ite2 (fun c2 => ?_) (fun c2 => ?_)⟩) (fun c1 => ?_)⟩
            · have d1 := of_decide_eq_true c1
              have d2 := of_decide_eq_true c2
              refine ⟨_, rfl, _, upd_same, ?_, ?_⟩
              · rw [prs_len]
                have h2 := List.length_filter_le (fun z : Addr × Pr => decide (z.2.1 < p.1 ∧ z.2.2 < p.2)) ((cc k).take q')
                rw [List.length_take] at h2
                omega
              · rw [upd_upd, etq, List.filter_append, show List.filter (fun z : Addr × Pr => decide (z.2.1 < p.1 ∧ z.2.2 < p.2)) [(t2, p2)] = [(t2, p2)] from List.filter_cons_of_pos (decide_eq_true ⟨by omega, by omega⟩)]
                unfold prs
                rw [List.map_append]
                rfl
            · exact no fun z => c2 (decide_eq_true (Int.ofNat_lt.mpr z.2))
            · exact no fun z => c1 (decide_eq_true (Int.ofNat_lt.mpr z.1))
          · rintro H' rfl
            rw [prs_len, List.take_length]
            have e5 := e4.same (same_new (o := .lst (prs ((cc k).filter fun z => decide (z.2.1 < p.1 ∧ z.2.2 < p.2)))) nD2)
            refine ⟨D2, _, rfl, .inl (SqL.of upd_same), _, _, rfl, rfl, _, rfl, ite2 (fun c5 => ?_) (fun c5 => ?_)⟩
            · have c5 := of_decide_eq_true c5
              rw [prs_len] at c5
              obtain ⟨z, hz⟩ := List.exists_mem_of_length_pos (l := (cc k).filter fun z => decide (z.2.1 < p.1 ∧ z.2.2 < p.2)) (by omega)
              obtain ⟨z1, z2⟩ := List.mem_filter.mp hz
              have no : rightB xs ys rows = false := rightB_no fun R => anti_iff.mp (R.anti _ (List.mem_of_getElem? gr)) z.2 (List.mem_map.mpr ⟨z, z1, rfl⟩) p pin (of_decide_eq_true z2)
              show Q (.bl false) _
              rw [← no]
              exact q _ e5.sm
            · have c5 : ∀ z ∈ cc k, ¬ (z.2.1 < p.1 ∧ z.2.2 < p.2) := fun z hz h => c5 (decide_eq_true (by
                rw [prs_len]
                have := List.length_pos_of_mem (List.mem_filter.mpr ⟨hz, decide_eq_true h⟩ : z ∈ (cc k).filter fun z => decide (z.2.1 < p.1 ∧ z.2.2 < p.2))
                omega))
              refine ⟨_, _, rfl, e5, ?_, fun x hx => ?_, fun x hx p2 hp2 => ?_⟩
              · refine List.nodup_append.mpr ⟨nd2, List.nodup_cons.mpr ⟨fun z => (by cases z), List.nodup_nil⟩, fun x hx y hy e => ?_⟩
                rw [List.mem_singleton.mp hy] at e
                exact pn (e ▸ hx)
              · rcases List.mem_append.mp hx with z | z
                · exact eq2 x z
                · rw [List.mem_singleton.mp z]
                  exact heq
              · rw [etm, List.map_append] at hx
                rcases List.mem_append.mp hx with z | z
                · exact an2 x z p2 hp2
                · rw [List.mem_singleton.mp z]
                  obtain ⟨y, hy1, hy2⟩ := List.mem_map.mp hp2
                  rw [← hy2]
                  exact c5 y hy1
      · rintro σ H2 ⟨y5, y6, rfl, e2, nd2, eq2, an2⟩
        rw [prs_len, List.take_length] at e2 nd2 eq2 an2
        have ek : (rows.take (k + 1)).flatten = (rows.take k).flatten ++ (cc k).map (·.2) := by
          rw [etk, List.flatten_append]
          simp
        refine ⟨_, _, _, rfl, by rw [ek]; exact e2, by rw [ek]; exact nd2, by rw [ek]; exact eq2, fun rw' hr' => ?_⟩
        rw [etk] at hr'
        rcases List.mem_append.mp hr' with z | z
        · exact an1 rw' z
        · rw [List.mem_singleton.mp z]
          exact anti_iff.mpr fun p hp p2 hp2 h => an2 p2 hp2 p hp h
    · rintro σ H1 ⟨y4, y5, y6, rfl, e1, nd1, eq1, an1⟩
      rw [List.length_map, lR, List.take_length] at e1 nd1 eq1 an1
      -- count
      refine ⟨_, rfl, a, rfl, ⟨_, SqL.of (e1.sm _ _ ha)⟩, for_list (xs := xs.map lnV) (fun k σ H' => ∃ y8 : Option V, σ = [some (.ref a), some (.ref b), some (.ref r), some (.ref D), y4, y5, y6, some (.int ((eqTo xs ys k).length : Nat)), y8, none, none] ∧ EI H D rows.flatten H') ⟨none, rfl, e1⟩ ?_ ?_ ?_⟩
      · rintro k σ H' _ ⟨y8, rfl, e⟩
        exact SqL.of (e.sm _ _ ha)
      · rintro k x σ H2 hx1 ⟨y8, rfl, e2⟩
        obtain ⟨x, gx, rfl⟩ := map_get hx1
        refine ⟨_, rfl, _, rfl, b, rfl, ⟨_, SqL.of (e2.sm _ _ hb)⟩, fun D3 nD3 => ?_⟩
        refine lc_list (xs := ys.map V.str) (fun j H' => ∃ l : List V, H' = upd H2 D3 (.lst l) ∧ l.length = (rowTo xs ys k j).length) ⟨[], rfl, rfl⟩ ?_ ?_ ?_
        · rintro j H' _ ⟨l, rfl, _⟩
          exact SqL.of (same_new nD3 _ _ (e2.sm _ _ hb))
        · rintro j y H' hy1 ⟨l, rfl, hl⟩
          obtain ⟨y, gy, rfl⟩ := map_get hy1
          have lj := (List.getElem?_eq_some_iff.mp gy).1
          have ea := eqAt_of gx gy
          have hrl := rowTo_len xs ys k j
          have scl : scal (.str y) (lnV x) = true := by cases x <;> rfl
          have dcl : decide (V.str y = lnV x) = decide (x = some y) := by
            rw [← dec_ln]
            exact decide_eq_decide.mpr ⟨Eq.symm, Eq.symm⟩
          refine ⟨rfl, _, rfl, rfl, _, rfl, ite2 (fun c1 => ⟨_, rfl, _, rfl, scl, _, rfl, ite2 (fun c2 => ?_) (fun c2 => ?_)⟩) (fun c1 => ?_)⟩
          · rw [dcl, ← ea] at c2
            refine ⟨_, rfl, l, upd_same, by omega, l ++ [.str y], by rw [upd_upd], ?_⟩
            rw [rowTo_succ, if_pos c2, List.length_append, List.length_append, hl]
            rfl
          · rw [dcl, ← ea] at c2
            exact ⟨l, rfl, by rw [rowTo_succ, if_neg c2, List.append_nil]; exact hl⟩
          · have c2 : ¬ eqAt xs ys k j = true := fun z => by
              rw [ea] at z
              rw [of_decide_eq_true z] at c1
              exact c1 rfl
            exact ⟨l, rfl, by rw [rowTo_succ, if_neg c2, List.append_nil]; exact hl⟩
        · rintro H' ⟨l, rfl, hl⟩
          rw [List.length_map] at hl
          have el : ((eqTo xs ys k).length : Int) + (l.length : Int) = ((eqTo xs ys (k + 1)).length : Int) := by
            rw [hl, eqTo_succ, List.length_append, Int.natCast_add]
          refine ⟨D3, _, rfl, .inl (SqL.of upd_same), _, _, rfl, rfl, some (lnV x), ?_, e2.same (same_new nD3)⟩
          rw [← el]
          rfl
      · rintro σ H2 ⟨y8, rfl, e2⟩
        rw [List.length_map, eqTo_all]
        obtain ⟨ps, ep1, ep2, ep3⟩ := id e2.ex
        refine ⟨_, rfl, D, _, rfl, .inl (SqL.of ep1), _, rfl, rfl, ?_⟩
        have lp : (prs ps).length = rows.flatten.length := by rw [prs_len, ← ep3, List.length_map]
        have fin : rightB xs ys rows = decide (V.int (((prs ps).length : Nat) : Int) = V.int (((eqP xs ys).length : Nat) : Int)) := by
          rw [dec_nat, lp, Bool.eq_iff_iff, rightB_iff, decide_eq_true_eq]
          exact ⟨fun R => R.len, fun h => ⟨nd1, eq1, h, an1⟩⟩
        show Q (.bl (decide (V.int (((prs ps).length : Nat) : Int) = V.int (((eqP xs ys).length : Nat) : Int)))) H2
        rw [← fin]
        exact q _ e2.sm
end
end K15
namespace K15
open PySem PySem.Spec PyProof.Rows L2 QR
open PySem.W (Datum)
abbrev sTU : Stmt := topS 18
abbrev nTU : List Str := ["state", "rows", "row", "found", "turn", "kind", "full", "one", "at", "k", "pair"]
theorem scTU : FnScope nTU ["state", "rows"] (defScope sTU) := ⟨rfl, rfl, rfl, by decide +kernel, rfl, by decide +kernel, by decide +kernel⟩
abbrev Rw := List (Addr × List (Addr × Pr))
def rrefs (R : Rw) : List V := R.map fun q => V.ref q.1
def wt (R : Rw) : Nat := (R.map fun q => q.2.length + 1).sum
theorem rrefs_len (R : Rw) : (rrefs R).length = R.length := by
  unfold rrefs
  rw [List.length_map]
theorem wt_app (R S : Rw) : wt (R ++ S) = wt R + wt S := by
  unfold wt
  rw [List.map_append, List.sum_append]
theorem len_wt : ∀ R : Rw, R.length ≤ wt R
  | [] => Nat.le_refl _
  | q :: R => by
    have := len_wt R
    show R.length + 1 ≤ (q.2.length + 1) + wt R
    omega
theorem mem_wt : ∀ {R : Rw} {q : Addr × List (Addr × Pr)}, q ∈ R → q.2.length + 1 ≤ wt R
  | x :: R, q, h => by
    show _ ≤ (x.2.length + 1) + wt R
    rcases List.mem_cons.mp h with rfl | h
    · omega
    · have := mem_wt h
      omega
/-- a row as it stands -/
structure RowOk (H H' : Hp) (r : Addr) (q : Addr × List (Addr × Pr)) : Prop where
  at_ : H' q.1 = some (.lst (prs q.2))
  ps : PairsL H' q.2
  nw : H q.1 = none
  ne : q.1 ≠ r
  sm : ∀ x ∈ q.2, x.2.1 < 1000 ∧ x.2.2 < 1000
/-- drawn rows at r, that was not there in H -/
structure RD (H : Hp) (p c r : Addr) (N : Nat) (R : Rw) (H' : Hp) : Prop where
  dr : Dr p c H H'
  nr : H r = none
  at_ : H' r = some (.lst (rrefs R))
  row : ∀ q ∈ R, RowOk H H' r q
  nd : (R.map (·.1)).Nodup
  le : wt R ≤ N
theorem RowOk.same {H H1 H2 : Hp} {r : Addr} {q : Addr × List (Addr × Pr)} (h : RowOk H H1 r q) (s : Same H1 H2) : RowOk H H2 r q := ⟨s _ _ h.at_, h.ps.same s, h.nw, h.ne, h.sm⟩
theorem RD.same {H H1 H2 : Hp} {p c r : Addr} {N : Nat} {R : Rw} (h : RD H p c r N R H1) (s : Same H1 H2) : RD H p c r N R H2 := ⟨h.dr.same s, h.nr, s _ _ h.at_, fun q hq => (h.row q hq).same s, h.nd, h.le⟩
theorem pr_ne {H : Hp} {a r : Addr} {x : Pr} {l : List V} (h : H a = some (prO x)) (hr : H r = some (.lst l)) : a ≠ r := fun z => by
  rw [z, hr] at h
  exact nomatch h
theorem PairsL.draw {H1 H2 : Hp} {p c : Addr} {l : List (Addr × Pr)} (h : PairsL H1 l) (s : StateAt H1 p c) (d : Drawn p c H1 H2) : PairsL H2 l := fun q hq => by
  obtain ⟨⟨_, e1⟩, ⟨_, e2⟩⟩ := s.some
  exact (d _ (pr_ne (h q hq) e1) (pr_ne (h q hq) e2)).trans (h q hq)
theorem RD.draw {H H1 H2 : Hp} {p c r : Addr} {N : Nat} {R : Rw} (s0 : StateAt H p c) (h : RD H p c r N R H1) (s : StateAt H2 p c) (d : Drawn p c H1 H2) : RD H p c r N R H2 :=
  ⟨h.dr.drawn s d, h.nr, (d r (s0.new h.nr).1 (s0.new h.nr).2).trans h.at_, fun q hq => ⟨(d _ (s0.new (h.row q hq).nw).1 (s0.new (h.row q hq).nw).2).trans (h.row q hq).at_, (h.row q hq).ps.draw h.dr.st d, (h.row q hq).nw, (h.row q hq).ne, (h.row q hq).sm⟩, h.nd, h.le⟩
theorem PairsL.updL {H : Hp} {l : List (Addr × Pr)} {r : Addr} {x y : List V} (h : PairsL H l) (e : H r = some (.lst x)) : PairsL (upd H r (.lst y)) l := fun q hq => by
  rw [upd_ne (pr_ne (h q hq) e)]
  exact h q hq
/-- other rows at the same list -/
theorem RD.set {H H1 : Hp} {p c r : Addr} {N M : Nat} {R S : Rw} (s0 : StateAt H p c) (h : RD H p c r N R H1) (k : ∀ q ∈ S, RowOk H H1 r q) (nd : (S.map (·.1)).Nodup) (le : wt S ≤ M) : RD H p c r M S (upd H1 r (.lst (rrefs S))) := by
  refine ⟨⟨h.dr.st.upd (s0.new h.nr), fun b o n1 n2 e => ?_⟩, h.nr, upd_same, fun q hq => ⟨?_, (k q hq).ps.updL h.at_, (k q hq).nw, (k q hq).ne, (k q hq).sm⟩, nd, le⟩
  · rw [upd_ne (ne_of_none e h.nr)]
    exact h.dr.ou b o n1 n2 e
  · rw [upd_ne (k q hq).ne]
    exact (k q hq).at_
/-- .. at a new list -/
theorem RD.new {H H1 : Hp} {p c r r2 : Addr} {N M : Nat} {R S : Rw} (h : RD H p c r N R H1) (n2 : H1 r2 = none) (k : ∀ q ∈ S, RowOk H H1 r q) (nd : (S.map (·.1)).Nodup) (le : wt S ≤ M) : RD H p c r2 M S (upd H1 r2 (.lst (rrefs S))) :=
  have s := same_new (o := .lst (rrefs S)) n2
  ⟨h.dr.same s, h.dr.none n2, upd_same, fun q hq => ⟨s _ _ (k q hq).at_, (k q hq).ps.same s, (k q hq).nw, (fun z => by have := (k q hq).at_; rw [z, n2] at this; cases this), (k q hq).sm⟩, nd, le⟩
/-- a row's contents changed -/
theorem RD.put {H H1 : Hp} {p c r a : Addr} {N M m : Nat} {R : Rw} {l l' : List (Addr × Pr)} (s0 : StateAt H p c) (h : RD H p c r N R H1) (e : R[m]? = some (a, l)) (k : PairsL H1 l') (sm : ∀ x ∈ l', x.2.1 < 1000 ∧ x.2.2 < 1000) (le : wt (R.set m (a, l')) ≤ M) : RD H p c r M (R.set m (a, l')) (upd H1 a (.lst (prs l'))) := by
  have w := h.row _ (List.mem_of_getElem? e)
  have lm := (List.getElem?_eq_some_iff.mp e).1
  have er : rrefs (R.set m (a, l')) = rrefs R := by
    unfold rrefs
    rw [List.map_set]
    refine List.ext_getElem? fun i => ?_
    rw [List.getElem?_set]
    split
    · rename_i z
      subst z
      rw [if_pos (by rw [List.length_map]; exact lm), List.getElem?_map, e]
      rfl
    · rfl
  have ed : (R.set m (a, l')).map (·.1) = R.map (·.1) := by
    rw [List.map_set]
    refine List.ext_getElem? fun i => ?_
    rw [List.getElem?_set]
    split
    · rename_i z
      subst z
      rw [if_pos (by rw [List.length_map]; exact lm), List.getElem?_map, e]
      rfl
    · rfl
  refine ⟨⟨h.dr.st.upd (s0.new w.nw), fun b o n1 n2 e => ?_⟩, h.nr, ?_, fun q hq => ?_, by rw [ed]; exact h.nd, le⟩
  · rw [upd_ne (ne_of_none e w.nw)]
    exact h.dr.ou b o n1 n2 e
  · rw [er, upd_ne (Ne.symm w.ne)]
    exact h.at_
  · obtain ⟨i, hi⟩ := List.mem_iff_getElem?.mp hq
    rw [List.getElem?_set] at hi
    split at hi
    · cases hi
      exact ⟨upd_same, k.updL w.at_, w.nw, w.ne, sm⟩
    · rename_i z
      have wq := h.row q (List.mem_of_getElem? hi)
      refine ⟨?_, wq.ps.updL w.at_, wq.nw, wq.ne, wq.sm⟩
      rw [upd_ne fun y => z ?_]
      · exact wq.at_
      · have li := (List.getElem?_eq_some_iff.mp hi).1
        have e1 : (R.map (·.1))[i]? = some q.1 := by rw [List.getElem?_map, hi]; rfl
        have e2 : (R.map (·.1))[m]? = some a := by rw [List.getElem?_map, e]; rfl
        obtain ⟨q1, z1⟩ := List.getElem?_eq_some_iff.mp e1
        obtain ⟨q2, z2⟩ := List.getElem?_eq_some_iff.mp e2
        exact (List.getElem_inj h.nd).mp (by rw [z1, z2]; exact y.symm)
theorem wt_set {R : Rw} {m : Nat} {a b : Addr} {l l' : List (Addr × Pr)} (e : R[m]? = some (a, l)) : wt (R.set m (b, l')) + l.length = wt R + l'.length := by
  obtain ⟨lm, em⟩ := List.getElem?_eq_some_iff.mp e
  rw [List.set_eq_take_append_cons_drop, if_pos lm]
  have : wt R = wt (R.take m) + ((l.length + 1) + wt (R.drop (m + 1))) := by
    conv => lhs; rw [← List.take_append_drop m R, wt_app, List.drop_eq_getElem_cons lm, em]
    rfl
  rw [this, wt_app]
  show wt (R.take m) + ((l'.length + 1) + wt (R.drop (m + 1))) + l.length = _
  omega
def bndT (k : Nat) : Nat := if k = 0 then 20000 else if k = 1 then 60000 else 200000
theorem bndT_le (k : Nat) : bndT k ≤ 200000 := by
  unfold bndT
  split
  · omega
  · split <;> omega
theorem bndT_step {k n : Nat} (hk : k < 2) (h : n ≤ bndT k) : 2 * n + 2 ≤ bndT (k + 1) := by
  unfold bndT at *
  split at h <;> split <;> (try split at h) <;> (try split) <;> omega
theorem rrefs_get {R : Rw} {k : Nat} {a : Addr} {l : List (Addr × Pr)} (h : R[k]? = some (a, l)) : (rrefs R)[k]? = some (.ref a) := get_map (fun q : Addr × List (Addr × Pr) => V.ref q.1) h
theorem cut_lo {l : List V} {k : Nat} (h : k < l.length) : cutV l none (some (k : Int)) = l.take k := by
  unfold cutV
  have e1 : HT.sIx l.length 0 none = 0 := by
    unfold HT.sIx
    simp
  have e2 : HT.sIx l.length l.length (some (k : Int)) = k := by
    unfold HT.sIx
    simp
    split <;> omega
  rw [e1, e2]
  rfl
theorem cut_hi {l : List V} {k : Nat} (h : k < l.length) : cutV l (some ((k : Int) + 1)) none = l.drop (k + 1) := by
  unfold cutV
  have e1 : HT.sIx l.length 0 (some ((k : Int) + 1)) = k + 1 := by
    unfold HT.sIx
    simp
    split <;> omega
  have e2 : HT.sIx l.length l.length none = l.length := by
    unfold HT.sIx
    simp
  rw [e1, e2]
  exact List.take_of_length_le (by rw [List.length_drop]; exact Nat.le_refl _)
theorem RD.rows {H H' : Hp} {p c r : Addr} {N : Nat} {R : Rw} (h : RD H p c r N R H') : RowsV H' r (R.map fun q => q.2.map (·.2)) := by
  refine ⟨R.map (·.1), fun m => (R[m]?.map (·.2)).getD [], ?_, by rw [List.length_map, List.length_map], fun m a e => ?_⟩
  · rw [List.map_map]
    exact h.at_
  · rw [List.getElem?_map] at e
    obtain ⟨q, hq, rfl⟩ := Option.map_eq_some_iff.mp e
    have w := h.row q (List.mem_of_getElem? hq)
    simp only [hq, Option.map_some, Option.getD_some, List.getElem?_map]
    exact ⟨w.at_, w.ps, trivial⟩
section
variable {P : Program} {w : World} {K : PySem.W.Frag} {mg : Str → Option Value} {base : Heap}
def spTU : Sp := fun vs H Q _ => ∃ (p c r : Addr) (rows : List (List Pr)), vs = [.ref p, .ref r] ∧ StateAt H p c ∧ RowsV H r rows ∧ rows.length ≤ 100 ∧ rows.flatten.length ≤ 10000 ∧ (∀ row ∈ rows, ∀ p ∈ row, p.1 < 1000 ∧ p.2 < 1000) ∧ (∀ b, b = r → b ≠ p ∧ b ≠ c) ∧
  ∀ (H' : Hp) (r' : Addr) (R : Rw), RD H p c r' 200000 R H' → Q (.ref r') H'
theorem ok_TU {f fD fP : Addr} {fd fdD fdP : FuncData} (F : Fun K "_law_turned" "_law_turned" sTU f fd)
    (GD : FnOk P w K mg base CX0 1 fD fdD ["state", "many"] spDraw) (bD : Binds K fdD ["state", "many"] []) (gD : mg "_law_draw" = some (.ref fD)) (kD : PySem.W.keepIn K (.ref fD) = true)
    (GP : FnOk P w K mg base CX0 2 fP fdP ["state", "row"] spPick) (bP : Binds K fdP ["state", "row"] []) (gP : mg "_law_pick" = some (.ref fP)) (kP : PySem.W.keepIn K (.ref fP) = true)
    (m_len : mg "len" = none) (m_range : mg "range" = none) (m_list : mg "list" = none) : FnOk P w K mg base CX0 3 f fd ["state", "rows"] spTU := by
  refine F.ok scTU (fun vs H Q E h => ?_) (fun cdv A outer s H vs Q E hr h => ?_)
  · obtain ⟨p, c, r, rows, rfl, _⟩ := h
    rfl
  · obtain ⟨p, c, r, rows, rfl, st, hR, l1, l2, small, nrp, q⟩ := h
    have hu := hr.units
    have hu1 := hu_of hr
    have hr1 : Room 1 _ := hr.mono (by decide)
    have hr2 : Room 2 _ := hr.mono (by decide)
    have zl := zl
    refine ⟨_, (pss_cons (ps_set (i := 3) scTU.nd rfl (.inr rfl) (pe_lc (own := [("row", 2)]) (g := gName 2) (tt := tYes) (te := tCB (fun xs H Q => ∃ p ys, xs = [V.ref p] ∧ (SqL K H p ys ∨ SqT K H p ys) ∧ ∀ l, H l = none → Q (.ref l) (upd H l (.lst ys))) (tCons (tVar 2) tNil)) rfl scTU.nd (pi_list (pv 1)) (blkOk_by (N := nTU) (sc := defScope sTU) (by decide +kernel)) (fun _ _ _ _ _ => by exact pg_name (i := 2) scTU.nd rfl (.inl rfl)) (fun _ _ _ _ _ => pts_nil) (fun _ _ _ _ _ => by exact pe_callTy call_list_of (by rfl) m_list (by decide +kernel) (pa_cons (pv 2) pa_nil))))
      (pss_cons (ps_for PassesOwn.never rfl (pi_range1 (by rfl) m_range (pa_cons (pe_op op_add (pe_int) (pe_call GD hr1 (by rfl) gD kD bD .nil pass0 (pa_cons (pv 0) (pa_cons (pe_int) pa_nil)))) pa_nil)) (pg_name (i := 4) scTU.nd rfl (.inl rfl))
      (pss_cons (ps_set (i := 5) scTU.nd rfl (.inl rfl) (pe_call GD hr1 (by rfl) gD kD bD .nil pass0 (pa_cons (pv 0) (pa_cons (pe_int) pa_nil))))
      (pss_cons (ps_setLc (i := 6) (own := [("k", 9)]) (g := gName 9) (tt := tTest (tOp (rI0 fun i j => .bl (decide (j < i))) (tCB (fun xs H Q => ∃ p ys, xs = [V.ref p] ∧ (SqL K H p ys ∨ SqT K H p ys) ∧ Q (.int ys.length) H) (tCons (tOp (rIxL K) (tVar 3) (tVar 9)) tNil)) (tC (.int 0)))) (te := tVar 9) rfl scTU.nd rfl rfl (sw_true rfl rfl rfl (by decide +kernel)) (pi_range1 (by rfl) m_range (pa_cons (pe_callB call_len_seq (by rfl) m_len PySem.boot_len (pa_cons (pv 3) pa_nil)) pa_nil)) (blkOk_by (N := nTU) (sc := defScope sTU) (by decide +kernel)) (fun _ _ _ _ _ => by exact pg_name (i := 9) scTU.nd rfl (.inl rfl)) (fun _ _ _ _ _ => by exact pts_one (pt_cmpR op_gt (pe_callB call_len_seq (by rfl) m_len PySem.boot_len (pa_cons (pe_ix ix_list (pv 3) (pv 9) (fun _ _ => rfl)) pa_nil)) (pe_int) (nomark _))) (fun _ _ _ _ _ => by exact pv 9))
      (pss_one (ps_if (PW.pt (pw_or (pt_cmpR op_eq (pv 5) (pe_int) (nomark _)) (pw_or1 (pt_cmpR op_eq (pe_callB call_len_seq (by rfl) m_len PySem.boot_len (pa_cons (pv 6) pa_nil)) (pe_int) (nomark _)))))
      (pss_one (ps_expr (pe_bm PySem.F.plainAttrs_list PySem.F.slot_list_insert PySem.F.type_list_insert mt_insert (pv 3) (pa_cons (pe_call GD hr1 (by rfl) gD kD bD .nil pass0 (pa_cons (pv 0) (pa_cons (pe_op op_add (pe_callB call_len_seq (by rfl) m_len PySem.boot_len (pa_cons (pv 3) pa_nil)) (pe_int)) pa_nil))) (pa_cons (pe_call GP hr2 (by rfl) gP kP bP .nil pass0 (pa_cons (pv 0) (pa_cons (pe_lst (pa_cons (pe_lst (pa_nil)) (pa_cons (pe_lst (pa_cons (pe_tup (pa_cons (pe_int) (pa_cons (pe_int) pa_nil))) pa_nil)) pa_nil))) pa_nil))) pa_nil))))) (pss_one (ps_if (pt_cmpR op_eq (pv 5) (pe_int) (nomark _))
      (pss_cons (ps_set (i := 2) scTU.nd rfl (.inl rfl) (pe_ix ix_list (pv 3) (pe_call GP hr2 (by rfl) gP kP bP .nil pass0 (pa_cons (pv 0) (pa_cons (pv 6) pa_nil))) (fun _ _ => rfl)))
      (pss_one (ps_expr (pe_bm PySem.F.plainAttrs_list PySem.F.slot_list_pop PySem.F.type_list_pop mt_popAt (pv 2) (pa_cons (pe_call GD hr1 (by rfl) gD kD bD .nil pass0 (pa_cons (pv 0) (pa_cons (pe_callB call_len_seq (by rfl) m_len PySem.boot_len (pa_cons (pv 2) pa_nil)) pa_nil))) pa_nil))))) (pss_one (ps_if (pt_cmpR op_eq (pv 5) (pe_int) (nomark _))
      (pss_cons (ps_set (i := 2) scTU.nd rfl (.inl rfl) (pe_ix ix_list (pv 3) (pe_call GP hr2 (by rfl) gP kP bP .nil pass0 (pa_cons (pv 0) (pa_cons (pv 6) pa_nil))) (fun _ _ => rfl)))
      (pss_cons (ps_set (i := 7) scTU.nd rfl (.inl rfl) (pe_bm PySem.F.plainAttrs_list PySem.F.slot_list_pop PySem.F.type_list_pop mt_popAt (pv 2) (pa_cons (pe_call GD hr1 (by rfl) gD kD bD .nil pass0 (pa_cons (pv 0) (pa_cons (pe_callB call_len_seq (by rfl) m_len PySem.boot_len (pa_cons (pv 2) pa_nil)) pa_nil))) pa_nil)))
      (pss_one (ps_expr (pe_bm PySem.F.plainAttrs_list PySem.F.slot_list_append PySem.F.type_list_append mt_append (pe_ix ix_list (pv 3) (pe_call GD hr1 (by rfl) gD kD bD .nil pass0 (pa_cons (pv 0) (pa_cons (pe_callB call_len_seq (by rfl) m_len PySem.boot_len (pa_cons (pv 3) pa_nil)) pa_nil))) (fun _ _ => rfl)) (pa_cons (pv 7) pa_nil)))))) (pss_one (ps_if (pt_cmpR op_eq (pv 5) (pe_int) (nomark _))
      (pss_cons (ps_set (i := 8) scTU.nd rfl (.inl rfl) (pe_call GP hr2 (by rfl) gP kP bP .nil pass0 (pa_cons (pv 0) (pa_cons (pv 6) pa_nil))))
      (pss_one (ps_set (i := 3) scTU.nd rfl (.inr rfl) (pe_op op_cat (pe_op op_cat (pe_slice sl_list (pv 3) (po_none) (po_some (pv 8))) (pe_lc (own := [("pair", 10)]) (g := gName 10) (tt := tYes) (te := tLst (tCons (tVar 10) tNil)) rfl scTU.nd (pi_list (pe_ix ix_list (pv 3) (pv 8) (fun _ _ => rfl))) (blkOk_by (N := nTU) (sc := defScope sTU) (by decide +kernel)) (fun _ _ _ _ _ => by exact pg_name (i := 10) scTU.nd rfl (.inl rfl)) (fun _ _ _ _ _ => pts_nil) (fun _ _ _ _ _ => by exact pe_lst (pa_cons (pv 10) pa_nil)))) (pe_slice sl_list (pv 3) (po_some (pe_op op_add (pv 8) (pe_int))) (po_none)))))) (pss_one (ps_set (i := 3) scTU.nd rfl (.inr rfl) (pe_rev (pv 3) (pe_un un_neg pe_int)))))))))))))))
      (pss_one (ps_ret (pv 3))))), ?_⟩
    obtain ⟨rs0, cc, eR, lR, row⟩ := hR
    have nr0 : ∀ {b : Addr}, b = r → b ≠ p ∧ b ≠ c := fun e => nrp _ e
    -- found = [list(row) for row in rows]
    refine ⟨_, rfl, r, rfl, ⟨_, SqL.of eR⟩, fun D nD => ?_⟩
    refine lc_list (xs := rs0.map V.ref) (fun k H' => ∃ R : Rw, R.length = k ∧ RD H p c D 20000 R H' ∧ Same H H' ∧ R.map (fun q => q.2.map (·.2)) = rows.take k) ⟨[], rfl, ⟨(Dr.refl st).same (same_new nD), nD, upd_same, (fun q hq => by cases hq), List.nodup_nil, by show 0 ≤ _; omega⟩, same_new nD, rfl⟩ ?_ ?_ ?_
    · rintro k H' _ ⟨R, _, _, s, _⟩
      exact SqL.of (s _ _ eR)
    · rintro k x H1 hx1 ⟨R, lk, f1, s1, e1⟩
      obtain ⟨am, gam, rfl⟩ := map_get hx1
      obtain ⟨w1, w2, w3⟩ := row k am gam
      refine ⟨rfl, _, rfl, am, _, rfl, .inl (SqL.of (s1 _ _ w1)), fun z nz => ?_⟩
      have sz := same_new (o := .lst (prs (cc k))) nz
      have f2 := f1.same sz
      have zD : z ≠ D := fun y => by rw [y, f1.at_] at nz; cases nz
      have wz : RowOk H (upd H1 z (.lst (prs (cc k)))) D (z, cc k) := ⟨upd_same, (w2.same s1).same sz, same_none s1 nz, zD, fun x hx => small _ (List.mem_of_getElem? w3.symm) _ (List.mem_map.mpr ⟨x, hx, rfl⟩)⟩
      have e2 : (R ++ [(z, cc k)]).map (fun q => q.2.map (·.2)) = rows.take (k + 1) := by
        rw [List.map_append, e1, List.take_add_one, ← w3]
        rfl
      have lw : wt (R ++ [(z, cc k)]) ≤ 20000 := by
        have h1 : ∀ S : Rw, wt S = ((S.map fun q => q.2.map (·.2)).flatten).length + S.length := by
          intro S
          induction S with
          | nil => rfl
          | cons q S ih =>
            show (q.2.length + 1) + wt S = _
            rw [ih, List.map_cons, List.flatten_cons, List.length_append, List.length_map, List.length_cons]
            omega
        rw [h1, e2]
        have h2 : (rows.take (k + 1)).flatten.length ≤ rows.flatten.length := by
          conv => rhs; rw [← List.take_append_drop (k + 1) rows, List.flatten_append, List.length_append]
          omega
        have h3 := congrArg List.length e2
        rw [List.length_map, List.length_take] at h3
        omega
      have f3 := f2.set (S := R ++ [(z, cc k)]) (M := 20000) st (fun q hq => by
        rcases List.mem_append.mp hq with y | y
        · exact f2.row q y
        · rw [List.mem_singleton.mp y]
          exact wz) (by
        rw [List.map_append]
        refine List.nodup_append.mpr ⟨f2.nd, List.nodup_cons.mpr ⟨fun y => (by cases y), List.nodup_nil⟩, fun x hx y hy e => ?_⟩
        obtain ⟨q, hq, rfl⟩ := List.mem_map.mp hx
        have hy := List.mem_singleton.mp hy
        have := (f1.row q hq).at_
        rw [e, hy, nz] at this
        cases this) lw
      have er : rrefs (R ++ [(z, cc k)]) = rrefs R ++ [.ref z] := by
        unfold rrefs
        rw [List.map_append]
        rfl
      rw [er] at f3
      exact ⟨rrefs R, f2.at_, by rw [rrefs_len, lk]; have := (List.getElem?_eq_some_iff.mp gam).1; omega, R ++ [(z, cc k)], by rw [List.length_append, lk]; rfl, f3, same_upd nD (same_trans s1 sz), e2⟩
    · rintro H1 ⟨R0, lk, f1, s1, e1⟩
      clear e1 lk s1
      refine ⟨_, rfl, p, c, 2, rfl, by decide, f1.dr.st, fun H2 k2 _ lk2 st2 d2 => ?_⟩
      have lk2 := lk2 (by decide)
      have f2 := f1.draw st st2 d2
      refine ⟨_, _, rfl, rfl, _, rfl, by omega, by omega, for_range (fun k σ H' => ∃ (r' : Addr) (R : Rw) (y2 y4 y5 y6 y7 y8 : Option V), σ = [some (.ref p), some (.ref r), y2, some (.ref r'), y4, y5, y6, y7, y8, none, none] ∧ RD H p c r' (bndT k) R H') ⟨D, R0, none, none, none, none, none, none, rfl, f2⟩ ?_ ?_⟩
      · rintro k σ H3 hk ⟨r', R, y2, y4, y5, y6, y7, y8, rfl, f3⟩
        have hk2 : k < 2 := by omega
        have hb := bndT_le k
        have hs : ∀ n, n ≤ 2 * wt R + 2 → n ≤ bndT (k + 1) := fun n h => Nat.le_trans h (bndT_step hk2 f3.le)
        have lR := len_wt R
        have lw := f3.le
        refine ⟨_, rfl, p, c, 5, rfl, by decide, f3.dr.st, fun H4 k4 _ _ st4 d4 => ?_⟩
        have f4 := f3.draw st st4 d4
        clear f1 f2 f3 d2 st2 d4 st4
        -- full
        refine ⟨_, rfl, r', _, rfl, .inl (SqL.of f4.at_), _, rfl, by omega, by rw [rrefs_len]; omega, fun F nF => ?_⟩
        have nFp := f4.dr.st.new nF
        refine lc_range (lo := 0) (n := (((rrefs R).length : Nat) : Int).toNat) (fun j H' => ∃ l : List Nat, H' = upd H4 F (.lst (l.map fun (i : Nat) => V.int (i : Int))) ∧ l.length ≤ j ∧ ∀ i ∈ l, ∃ a b, R[i]? = some (a, b) ∧ b ≠ []) ⟨[], rfl, Nat.le_refl _, fun i hi => by cases hi⟩ ?_ ?_
        · rintro j H' hj ⟨l, rfl, ll, hl⟩
          rw [Int.toNat_natCast, rrefs_len] at hj
          obtain ⟨⟨a, b⟩, gj⟩ : ∃ q, R[j]? = some q := ⟨R[j], List.getElem?_eq_getElem hj⟩
          have w := (f4.row _ (List.mem_of_getElem? gj)).same (same_new (o := .lst (l.map fun (i : Nat) => V.int (i : Int))) nF)
          rw [show (0 : Int) + (j : Int) = (j : Int) from Int.zero_add _]
          refine ⟨rfl, _, rfl, _, rfl, r', _, _, _, rfl, rfl, SqL.of (same_new nF _ _ f4.at_), atI_nat (rrefs_get gj), a, _, rfl, .inl (SqL.of w.at_), _, _, rfl, rfl, _, rfl, ite2 (fun h1 => ?_) (fun h1 => ?_)⟩
          · have h1 := of_decide_eq_true h1
            rw [prs_len] at h1
            refine ⟨_, rfl, _, upd_same, by rw [List.length_map]; omega, l ++ [j], by rw [upd_upd, List.map_append]; rfl, by rw [List.length_append]; show _ + 1 ≤ _; omega, fun i hi => ?_⟩
            rcases List.mem_append.mp hi with z | z
            · exact hl i z
            · rw [List.mem_singleton.mp z]
              exact ⟨a, b, gj, fun e => by rw [e] at h1; exact absurd h1 (Int.lt_irrefl 0)⟩
          · exact ⟨l, rfl, by omega, hl⟩
        · rintro H' ⟨l, rfl, ll, hl⟩
          rw [Int.toNat_natCast, rrefs_len] at ll
          have f5 := f4.same (same_new (o := .lst (l.map fun (i : Nat) => V.int (i : Int))) nF)
          have eF : (upd H4 F (.lst (l.map fun (i : Nat) => V.int (i : Int)))) F = some (.lst (l.map fun (i : Nat) => V.int (i : Int))) := upd_same
          generalize upd H4 F (.lst (l.map fun (i : Nat) => V.int (i : Int))) = H5 at f5 eF
          clear f4
          dsimp only [tNext, tSeq, tIfS, tAsg, gName, tC]
          refine or_dec (p := k4 = 0) (q := l.length = 0) (fun R k => ⟨_, rfl, rfl, _, rfl, to_dec (dec_nat (j := 0)) (k _ same_refl)⟩) (fun _ H6 s6 R k => ⟨_, rfl, F, _, rfl, .inl (SqL.of (s6 _ _ eF)), rfl, _, rfl, to_dec (by rw [List.length_map]; exact dec_nat (j := 0)) (k _ same_refl)⟩) fun H6 s6 => ite2 (fun h1 => ?_) (fun h1 => ?_)
          · -- insert
            have f6 := f5.same s6
            refine ⟨_, rfl, .inl ⟨rfl, _, SqL.of f6.at_⟩, _, rfl, _, rfl, r', _, rfl, .inl (SqL.of f6.at_), _, _, rfl, rfl, p, c, R.length + 1, by rw [rrefs_len]; rfl, by omega, f6.dr.st, fun H7 k7 _ lk7 st7 d7 => ?_⟩
            have lk7 := lk7 (by omega)
            have f7 := f6.draw st st7 d7
            refine ⟨_, rfl, by show 0 ≤ sizeLine; omega, fun e1 m1 => ⟨by show 2 ≤ sizeLine; omega, fun t m2 => ⟨by show 1 ≤ sizeLine; omega, fun e2 m3 => ⟨by show 2 ≤ sizeLine; omega, fun ll nl => ?_⟩⟩⟩⟩
            have g1 := same_new (o := .lst (prs [])) m1
            have g2 := same_new (o := prO (0, 0)) m2
            have g3 := same_new (o := .lst (prs [(t, ((0, 0) : Pr))])) m3
            have g4 := same_new (o := .lst [.ref e1, .ref e2]) nl
            have f8 := (((f7.same g1).same g2).same g3).same g4
            have v1 := g4 _ _ (g3 _ _ (g2 _ _ (upd_same (H := H7) (a := e1) (o := .lst (prs [])))))
            have v2 := g4 _ _ (g3 _ _ (upd_same (H := upd H7 e1 (.lst (prs []))) (a := t) (o := prO (0, 0))))
            have v3 := g4 _ _ (upd_same (H := upd (upd H7 e1 (.lst (prs []))) t (prO (0, 0))) (a := e2) (o := .lst (prs [(t, ((0, 0) : Pr))])))
            have v4 := upd_same (H := upd (upd (upd H7 e1 (.lst (prs []))) t (prO (0, 0))) e2 (.lst (prs [(t, ((0, 0) : Pr))]))) (a := ll) (o := .lst [.ref e1, .ref e2])
            have nlp := (((f7.same g1).same g2).same g3).dr.st.new nl
            have n1 := f7.dr.none m1
            have n3 := (f7.same (same_trans g1 g2)).dr.none m3
            have old1 : ∀ q ∈ R, q.1 ≠ e1 := fun q hq z => by have := (f7.row q hq).at_; rw [z, m1] at this; cases this
            have m3' : upd (upd H7 e1 (.lst (prs []))) t (prO (0, 0)) e2 = none := m3
            have old3 : ∀ q ∈ R, q.1 ≠ e2 := fun q hq z => by
              have y := ((f7.same (same_trans g1 g2)).row q hq).at_
              rw [z] at y
              exact nomatch m3'.symm.trans y
            have r1 : e1 ≠ r' := fun z => by have := f7.at_; rw [← z, m1] at this; cases this
            have r3 : e2 ≠ r' := fun z => by
              have y := (f7.same (same_trans g1 g2)).at_
              rw [← z] at y
              exact nomatch m3'.symm.trans y
            refine ⟨p, c, ll, _, rfl, v4, nlp.1, nlp.2, by show 0 < 2; decide, by show 2 < 1000000; decide, f8.dr.st, fun H9 v hv st9 d9 => ?_⟩
            have f9 := f8.draw st st9 d9
            obtain ⟨e, b, rfl, w, hne, lb⟩ : ∃ e b, v = .ref e ∧ RowOk H H9 r' (e, b) ∧ (∀ q ∈ R, q.1 ≠ e) ∧ b.length ≤ 1 := by
              simp only [List.mem_cons, List.not_mem_nil, or_false] at hv
              rcases hv with rfl | rfl
              · have z := st.new n1
                exact ⟨e1, [], rfl, ⟨(d9 _ z.1 z.2).trans v1, (fun q hq => by cases hq), n1, r1, (fun x hx => by cases hx)⟩, old1, by decide⟩
              · have z := st.new n3
                refine ⟨e2, [(t, (0, 0))], rfl, ⟨(d9 _ z.1 z.2).trans v3, PairsL.draw (fun q hq => ?_) f8.dr.st d9, n3, r3, (fun x hx => by cases List.mem_singleton.mp hx; exact ⟨by show 0 < 1000; decide, by show 0 < 1000; decide⟩)⟩, old3, Nat.le_refl _⟩
                cases List.mem_singleton.mp hq
                exact v2
            refine ⟨r', rrefs R, (k7 : Int), _, rfl, rfl, f9.at_, by rw [rrefs_len]; omega, by omega, by omega, ?_⟩
            have f10 := f9.set (S := R.take k7 ++ [(e, b)] ++ R.drop k7) (M := bndT (k + 1)) st (fun q hq => by
              rcases List.mem_append.mp hq with z | z
              · rcases List.mem_append.mp z with y | y
                · exact f9.row q (List.mem_of_mem_take y)
                · rw [List.mem_singleton.mp y]
                  exact w
              · exact f9.row q (List.mem_of_mem_drop z)) (by
              have nd := f9.nd
              rw [← List.take_append_drop k7 R, List.map_append] at nd
              obtain ⟨a1, a2, a3⟩ := List.nodup_append.mp nd
              rw [List.map_append, List.map_append]
              refine List.nodup_append.mpr ⟨List.nodup_append.mpr ⟨a1, List.nodup_cons.mpr ⟨fun z => (by cases z), List.nodup_nil⟩, fun x hx y hy e' => ?_⟩, a2, fun x hx y hy e' => ?_⟩
              · obtain ⟨q, hq, rfl⟩ := List.mem_map.mp hx
                exact hne q (List.mem_of_mem_take hq) (e'.trans (List.mem_singleton.mp hy))
              · rcases List.mem_append.mp hx with z | z
                · exact a3 x z y hy e'
                · obtain ⟨q, hq, rfl⟩ := List.mem_map.mp hy
                  exact hne q (List.mem_of_mem_drop hq) (e'.symm.trans (List.mem_singleton.mp z))) (hs _ (by
              have z : wt R = wt (R.take k7) + wt (R.drop k7) := by rw [← wt_app, List.take_append_drop]
              rw [wt_app, wt_app]
              show wt (R.take k7) + ((b.length + 1) + 0) + wt (R.drop k7) ≤ _
              omega))
            have er : rrefs (R.take k7 ++ [(e, b)] ++ R.drop k7) = (rrefs R).take ((k7 : Int)).toNat ++ [.ref e] ++ (rrefs R).drop ((k7 : Int)).toNat := by
              rw [Int.toNat_natCast]
              unfold rrefs
              rw [List.map_append, List.map_append, List.map_take, List.map_drop]
              rfl
            rw [er] at f10
            exact ⟨r', _, _, _, _, _, _, _, rfl, f10⟩
          · have h1 : ¬ (k4 = 0 ∨ l.length = 0) := fun z => h1 (decide_eq_true z)
            have f6 := f5.same s6
            have eF6 := s6 _ _ eF
            have pick : ∀ {v : V}, v ∈ (l.map fun (i : Nat) => V.int (i : Int)) → ∃ (i : Nat) (a : Addr) (b : List (Addr × Pr)), v = .int (i : Int) ∧ R[i]? = some (a, b) ∧ b ≠ [] := fun {v} hv => by
              obtain ⟨i, hi, rfl⟩ := List.mem_map.mp hv
              obtain ⟨a, b, z1, z2⟩ := hl i hi
              exact ⟨i, a, b, rfl, z1, z2⟩
            have lF1 : 0 < (l.map fun (i : Nat) => V.int (i : Int)).length := by rw [List.length_map]; omega
            refine ⟨_, rfl, rfl, _, rfl, ite2 (fun h2 => ?_) (fun h2 => ?_)⟩
            · -- a pair left out
              refine ⟨_, rfl, _, rfl, _, rfl, p, c, F, _, rfl, eF6, nFp.1, nFp.2, lF1, by rw [List.length_map]; omega, f6.dr.st, fun H7 v hv st7 d7 => ?_⟩
              have f7 := f6.draw st st7 d7
              obtain ⟨i, a, b, rfl, gi, hb0⟩ := pick hv
              have w := f7.row _ (List.mem_of_getElem? gi)
              have mw := mem_wt (List.mem_of_getElem? gi)
              have lb : 0 < b.length := List.length_pos_iff.mpr hb0
              refine ⟨r', _, _, _, rfl, rfl, SqL.of f7.at_, atI_nat (rrefs_get gi), ?_⟩
              refine ⟨_, rfl, .inl ⟨rfl, _, SqL.of w.at_⟩, _, rfl, _, rfl, a, _, rfl, .inl (SqL.of w.at_), p, c, b.length, by rw [prs_len]; rfl, by simp only at mw; omega, f7.dr.st, fun H8 k8 _ lk8 st8 d8 => ?_⟩
              have lk8 := lk8 lb
              have f8 := f7.draw st st8 d8
              have w8 := f8.row _ (List.mem_of_getElem? gi)
              have ws := wt_set (b := a) (l' := b.eraseIdx k8) gi
              have le8 := List.length_eraseIdx_le b k8
              have f9 := f8.put (M := bndT (k + 1)) (l' := b.eraseIdx k8) st gi (w8.ps.sub fun q hq => List.mem_of_mem_eraseIdx hq) (fun x hx => w8.sm x (List.mem_of_mem_eraseIdx hx)) (hs _ (by omega))
              have er : prs (b.eraseIdx k8) = (prs b).eraseIdx k8 := by
                unfold prs
                rw [List.eraseIdx_eq_take_drop_succ, List.eraseIdx_eq_take_drop_succ, List.map_append, List.map_take, List.map_drop]
              rw [er] at f9
              refine ⟨a, prs b, (k8 : Int), k8, _, rfl, rfl, w8.at_, by omega, by simp only at mw; omega, seq_nat (by rw [prs_len]; exact lk8), get_map _ (List.getElem?_eq_getElem lk8), ?_⟩
              exact ⟨r', R.set i (a, b.eraseIdx k8), _, _, _, _, _, _, rfl, f9⟩
            · refine ⟨_, rfl, rfl, _, rfl, ite2 (fun h3 => ?_) (fun h3 => ?_)⟩
              · -- a pair put elsewhere
                refine ⟨_, rfl, _, rfl, _, rfl, p, c, F, _, rfl, eF6, nFp.1, nFp.2, lF1, by rw [List.length_map]; omega, f6.dr.st, fun H7 v hv st7 d7 => ?_⟩
                have f7 := f6.draw st st7 d7
                obtain ⟨i, a, b, rfl, gi, hb0⟩ := pick hv
                have w := f7.row _ (List.mem_of_getElem? gi)
                have mw := mem_wt (List.mem_of_getElem? gi)
                have lb : 0 < b.length := List.length_pos_iff.mpr hb0
                refine ⟨r', _, _, _, rfl, rfl, SqL.of f7.at_, atI_nat (rrefs_get gi), ?_⟩
                refine ⟨_, rfl, .inl ⟨rfl, _, SqL.of w.at_⟩, _, rfl, _, rfl, a, _, rfl, .inl (SqL.of w.at_), p, c, b.length, by rw [prs_len]; rfl, by simp only at mw; omega, f7.dr.st, fun H8 k8 _ lk8 st8 d8 => ?_⟩
                have lk8 := lk8 lb
                have f8 := f7.draw st st8 d8
                have w8 := f8.row _ (List.mem_of_getElem? gi)
                have ws := wt_set (b := a) (l' := b.eraseIdx k8) gi
                have le8 : (b.eraseIdx k8).length + 1 = b.length := by rw [List.length_eraseIdx]; split <;> omega
                have f9 := f8.put (M := 200000) (l' := b.eraseIdx k8) st gi (w8.ps.sub fun q hq => List.mem_of_mem_eraseIdx hq) (fun x hx => w8.sm x (List.mem_of_mem_eraseIdx hx)) (by omega)
                have er : prs (b.eraseIdx k8) = (prs b).eraseIdx k8 := by
                  unfold prs
                  rw [List.eraseIdx_eq_take_drop_succ, List.eraseIdx_eq_take_drop_succ, List.map_append, List.map_take, List.map_drop]
                have gb := List.getElem?_eq_getElem lk8
                have tp : H8 b[k8].1 = some (prO b[k8].2) := w8.ps _ (List.getElem_mem lk8)
                have smt := w8.sm _ (List.getElem_mem lk8)
                generalize b[k8] = tq at gb tp smt
                obtain ⟨t, pr⟩ := tq
                rw [er] at f9
                have tp9 : (upd H8 a (.lst ((prs b).eraseIdx k8))) t = some (prO pr) := by
                  rw [upd_ne (pr_ne tp w8.at_)]
                  exact tp
                refine ⟨a, prs b, (k8 : Int), k8, _, rfl, rfl, w8.at_, by omega, by simp only at mw; omega, seq_nat (by rw [prs_len]; exact lk8), get_map _ gb, ?_⟩
                generalize upd H8 a (.lst ((prs b).eraseIdx k8)) = H9 at f9 tp9
                generalize hR1 : R.set i (a, b.eraseIdx k8) = R1 at f9 ws
                have lR1 : R1.length = R.length := by rw [← hR1, List.length_set]
                have li := (List.getElem?_eq_some_iff.mp gi).1
                refine ⟨_, rfl, _, rfl, _, rfl, r', _, rfl, .inl (SqL.of f9.at_), p, c, R1.length, by rw [rrefs_len]; rfl, by omega, f9.dr.st, fun H10 k10 _ lk10 st10 d10 => ?_⟩
                have lk10 := lk10 (by omega)
                have f10 := f9.draw st st10 d10
                obtain ⟨⟨a2, b2⟩, g2⟩ : ∃ q, R1[k10]? = some q := ⟨R1[k10], List.getElem?_eq_getElem lk10⟩
                have w2 := f10.row _ (List.mem_of_getElem? g2)
                have mw2 := mem_wt (List.mem_of_getElem? g2)
                have ws2 := wt_set (b := a2) (l' := b2 ++ [(t, pr)]) g2
                rw [List.length_append] at ws2
                have ws3 : wt (R1.set k10 (a2, b2 ++ [(t, pr)])) = wt R1 + 1 := by
                  have z : ([(t, pr)] : List (Addr × Pr)).length = 1 := rfl
                  omega
                have tp10 : H10 t = some (prO pr) := (PairsL.draw (l := [(t, pr)]) (fun q hq => by cases List.mem_singleton.mp hq; exact tp9) f9.dr.st d10) _ (List.mem_singleton.mpr rfl)
                have f11 := f10.put (M := bndT (k + 1)) (l' := b2 ++ [(t, pr)]) st g2 (w2.ps.append fun q hq => by cases List.mem_singleton.mp hq; exact tp10) (fun x hx => (List.mem_append.mp hx).elim (w2.sm x) fun z => by cases List.mem_singleton.mp z; exact smt) (hs _ (by omega))
                have er2 : prs (b2 ++ [(t, pr)]) = prs b2 ++ [.ref t] := by
                  unfold prs
                  rw [List.map_append]
                  rfl
                rw [er2] at f11
                refine ⟨r', _, _, _, rfl, rfl, SqL.of f10.at_, atI_nat (rrefs_get g2), .inl ⟨rfl, _, SqL.of w2.at_⟩, _, rfl, a2, prs b2, _, rfl, rfl, w2.at_, by rw [prs_len]; simp only at mw2; omega, ?_⟩
                exact ⟨r', _, _, _, _, _, _, _, rfl, f11⟩
              · refine ⟨_, rfl, rfl, _, rfl, ite2 (fun h4 => ?_) (fun h4 => ?_)⟩
                · -- a row in pieces
                  refine ⟨_, rfl, _, rfl, p, c, F, _, rfl, eF6, nFp.1, nFp.2, lF1, by rw [List.length_map]; omega, f6.dr.st, fun H7 v hv st7 d7 => ?_⟩
                  have f7 := f6.draw st st7 d7
                  obtain ⟨i, a, b, rfl, gi, hb0⟩ := pick hv
                  have li := (List.getElem?_eq_some_iff.mp gi).1
                  have lir : i < (rrefs R).length := by rw [rrefs_len]; exact li
                  refine ⟨_, rfl, _, rfl, _, rfl, r', _, rfl, SqL.of f7.at_, fun t1 n1 => ?_⟩
                  rw [cut_lo lir]
                  have g1 := same_new (o := .lst ((rrefs R).take i)) n1
                  have f8 := f7.same g1
                  have v1 := upd_same (H := H7) (a := t1) (o := .lst ((rrefs R).take i))
                  generalize upd H7 t1 (.lst ((rrefs R).take i)) = H8 at f8 v1
                  clear n1 g1
                  have w := f8.row _ (List.mem_of_getElem? gi)
                  refine ⟨_, rfl, _, rfl, r', _, _, _, rfl, rfl, SqL.of f8.at_, atI_nat (rrefs_get gi), a, rfl, ⟨_, SqL.of w.at_⟩, fun G nG => ?_⟩
                  have mw := mem_wt (List.mem_of_getElem? gi)
                  simp only at mw
                  refine lc_list (xs := prs b) (fun j H' => ∃ R3 : Rw, RD H8 p c G (2 * j) R3 H' ∧ Same H8 H') ⟨[], ⟨(Dr.refl f8.dr.st).same (same_new nG), nG, upd_same, (fun q hq => by cases hq), List.nodup_nil, Nat.le_refl _⟩, same_new nG⟩ ?_ ?_ ?_
                  · rintro j H' _ ⟨R3, _, s3⟩
                    exact SqL.of (s3 _ _ w.at_)
                  · rintro j x H' hx1 ⟨R3, f3, s3⟩
                    obtain ⟨⟨t, pr⟩, gt, rfl⟩ := map_get hx1
                    have lj := (List.getElem?_eq_some_iff.mp gt).1
                    refine ⟨rfl, _, rfl, by show 1 ≤ sizeLine; omega, fun z nz => ?_⟩
                    have sz := same_new (o := .lst (prs [(t, pr)])) nz
                    have f4 := f3.same sz
                    have zG : z ≠ G := fun y => by have := f3.at_; rw [← y, nz] at this; cases this
                    have tp := sz _ _ (s3 _ _ (w.ps _ (List.mem_of_getElem? gt)))
                    have l3 := len_wt R3
                    have l4 := f3.le
                    have f5' := f4.set (S := R3 ++ [(z, [(t, pr)])]) (M := 2 * (j + 1)) f8.dr.st (fun q hq => by
                      rcases List.mem_append.mp hq with y | y
                      · exact f4.row q y
                      · rw [List.mem_singleton.mp y]
                        exact ⟨upd_same, (fun q hq => by cases List.mem_singleton.mp hq; exact tp), same_none s3 nz, zG, (fun x hx => by cases List.mem_singleton.mp hx; exact w.sm _ (List.mem_of_getElem? gt))⟩) (by
                      rw [List.map_append]
                      refine List.nodup_append.mpr ⟨f4.nd, List.nodup_cons.mpr ⟨fun y => (by cases y), List.nodup_nil⟩, fun x hx y hy e => ?_⟩
                      obtain ⟨q, hq, rfl⟩ := List.mem_map.mp hx
                      have hy := List.mem_singleton.mp hy
                      have := (f3.row q hq).at_
                      rw [e, hy, nz] at this
                      cases this) (by
                      rw [wt_app]
                      show wt R3 + ((1 + 1) + 0) ≤ _
                      omega)
                    have er : rrefs (R3 ++ [(z, [(t, pr)])]) = rrefs R3 ++ [.ref z] := by
                      unfold rrefs
                      rw [List.map_append]
                      rfl
                    rw [er] at f5'
                    exact ⟨rrefs R3, f4.at_, by rw [rrefs_len]; omega, _, f5', same_upd nG (same_trans s3 sz)⟩
                  · rintro H9 ⟨R3, fG, sG⟩
                    rw [prs_len] at fG
                    have f9 := f8.same sG
                    have v9 := sG _ _ v1
                    have l3 := len_wt R3
                    have l4 := fG.le
                    have k3 : ∀ q ∈ R3, RowOk H H9 r' q := fun q hq => ⟨(fG.row q hq).at_, (fG.row q hq).ps, f8.dr.none (fG.row q hq).nw, (fun z => by have := (fG.row q hq).nw; rw [z, f8.at_] at this; cases this), (fG.row q hq).sm⟩
                    refine ⟨t1, G, _, _, rfl, rfl, v9, fG.at_, by rw [List.length_take, rrefs_len, rrefs_len]; omega, fun c1 nc1 => ?_⟩
                    have g1 := same_new (o := .lst ((rrefs R).take i ++ rrefs R3)) nc1
                    have f10 := f9.same g1
                    have vc := upd_same (H := H9) (a := c1) (o := .lst ((rrefs R).take i ++ rrefs R3))
                    refine ⟨_, rfl, _, rfl, _, _, rfl, rfl, _, rfl, r', _, rfl, SqL.of f10.at_, fun t2 n2 => ?_⟩
                    rw [cut_hi lir]
                    have g2 := same_new (o := .lst ((rrefs R).drop (i + 1))) n2
                    have f11 := f10.same g2
                    refine ⟨c1, t2, _, _, rfl, rfl, g2 _ _ vc, upd_same, by rw [List.length_append, List.length_take, List.length_drop, rrefs_len, rrefs_len]; omega, fun c2 nc2 => ?_⟩
                    have er : (rrefs R).take i ++ rrefs R3 ++ (rrefs R).drop (i + 1) = rrefs (R.take i ++ R3 ++ R.drop (i + 1)) := by
                      unfold rrefs
                      rw [List.map_append, List.map_append, List.map_take, List.map_drop]
                    rw [er]
                    refine ⟨c2, R.take i ++ R3 ++ R.drop (i + 1), _, _, _, _, _, _, rfl, f11.new nc2 (fun q hq => ?_) ?_ (hs _ ?_)⟩
                    · rcases List.mem_append.mp hq with z | z
                      · rcases List.mem_append.mp z with y | y
                        · exact f11.row q (List.mem_of_mem_take y)
                        · exact (k3 q y).same (same_trans g1 g2)
                      · exact f11.row q (List.mem_of_mem_drop z)
                    · have nd := f11.nd
                      have dis : ∀ q ∈ R, ∀ q3 ∈ R3, q.1 ≠ q3.1 := fun q hq q3 h3 z => by
                        have := (f8.row q hq).at_
                        rw [z, (fG.row q3 h3).nw] at this
                        cases this
                      have sub : ((R.take i).map (·.1) ++ (R.drop (i + 1)).map (·.1)).Nodup := by
                        rw [← List.map_append]
                        refine (List.Sublist.map _ ?_).nodup nd
                        conv => rhs; rw [← List.take_append_drop i R]
                        exact (List.Sublist.refl _).append (List.drop_sublist_drop_left _ (Nat.le_succ i))
                      obtain ⟨a1, a2, a3⟩ := List.nodup_append.mp sub
                      rw [List.map_append, List.map_append]
                      refine List.nodup_append.mpr ⟨List.nodup_append.mpr ⟨a1, fG.nd, fun x hx y hy e => ?_⟩, a2, fun x hx y hy e => ?_⟩
                      · obtain ⟨q, hq, rfl⟩ := List.mem_map.mp hx
                        obtain ⟨q3, h3, rfl⟩ := List.mem_map.mp hy
                        exact dis q (List.mem_of_mem_take hq) q3 h3 e
                      · rcases List.mem_append.mp hx with z | z
                        · exact a3 x z y hy e
                        · obtain ⟨q3, h3, rfl⟩ := List.mem_map.mp z
                          obtain ⟨q, hq, rfl⟩ := List.mem_map.mp hy
                          exact dis q (List.mem_of_mem_drop hq) q3 h3 e.symm
                    · have z : wt R = wt (R.take i) + ((b.length + 1) + wt (R.drop (i + 1))) := by
                        obtain ⟨lm, em⟩ := List.getElem?_eq_some_iff.mp gi
                        conv => lhs; rw [← List.take_append_drop i R, wt_app, List.drop_eq_getElem_cons lm, em]
                        rfl
                      rw [wt_app, wt_app]
                      omega
                · -- turned round
                  refine ⟨_, rfl, _, rfl, rfl, r', _, rfl, SqL.of f6.at_, fun r2 n2 => ?_⟩
                  have er : (rrefs R).reverse = rrefs R.reverse := by
                    unfold rrefs
                    rw [List.map_reverse]
                  rw [er]
                  exact ⟨r2, R.reverse, _, _, _, _, _, _, rfl, f6.new n2 (fun q hq => f6.row q (List.mem_reverse.mp hq)) (by rw [List.map_reverse]; exact (List.reverse_perm _).nodup_iff.mpr f6.nd) (hs _ (by
                    have : wt R.reverse = wt R := by
                      unfold wt
                      rw [List.map_reverse, List.sum_reverse]
                    omega))⟩
      · rintro σ H3 ⟨r', R, y2, y4, y5, y6, y7, y8, rfl, f3⟩
        exact ⟨_, rfl, q H3 r' R ⟨f3.dr, f3.nr, f3.at_, f3.row, f3.nd, Nat.le_trans f3.le (bndT_le _)⟩⟩
end
end K15
/-! repr in a law's body: a def that is called by the caller alone, and the law's end for it -/
namespace GX
open PySem PySem.Spec PyProof.Rows L2 GxR
/-- repr(x), x plain data of lists and tuples -/
def rRepr (K : PySem.W.Frag) : List V → Hp → VK → Prop := fun xs H Q => ∃ (p : Addr) (d : PyData), xs = [.ref p] ∧ Dp K H (.ref p) d ∧ d.showable = true ∧ d.hasDict = false ∧ d.depth ≤ 60 ∧ d.shown.length ≤ sizeLine ∧ Q (.str d.shown) H
theorem cr_repr {X : Cx} (hg : X.A.guards = some []) (hu : X.A.units + 64 < cLine) : CallR X (.builtin "repr") (rRepr X.K) := by
  intro pins s σ H xs us Q I r ⟨p, d, ex, hd, h1, h2, h3, h4, q⟩
  subst ex
  obtain ⟨u, rfl, rx⟩ := vals1 r
  obtain ⟨as, rd⟩ := Dp.reads I d (.ref p) u hd rx
  obtain rfl : u = Value.ref p := rx
  exact repr_of_reads' (hsz := h4) rd h1 (fun z => by rw [h2] at z; cases z) hg (by omega) (fun _ _ e => e) fun h' u tk hk => ⟨.str d.shown, H, I.kept (t' := tk) hk, ⟨u, rfl⟩, q⟩
/-- what a def does when the caller calls it -/
structure FnC (P : Program) (w : World) (K : PySem.W.Frag) (mg : Str → Option Value) (base : Heap) (f : Addr) (fd : FuncData) (ps : List Str) (sp : Sp) : Prop where
  run : ∀ (s : Shared) (H : Hp) (args : Args) (us : List Value) (vs : List V) (Q : VK) (E : XK), Env0 P w K mg base callerA [] s H → BindsTo s fd args (ps.zip us) → Vals vs us → sp vs H Q E →
    codeAny (model P w) callerA (.call (.ref f) args) (CR CX0 [] P w H s Q E) s
theorem fn_C {P : Program} {w : World} {K : PySem.W.Frag} {mg : Str → Option Value} {base : Heap} {k : Nat} {f : Addr} {name qual : Str} {params : Arguments} {body : List Stmt} {scope : Scope} {dV kV doc pm cdv ct oc : Value} {an od : Option Addr}
    {osl : Array (Option Value)} {N ps : List Str} {sp : Sp} (hk : Room (k + 1) callerA) (lk : K.lookup f = some ⟨oc, od, .func (PySem.W.fnOf name qual params body scope dV kV doc pm an cdv ct), osl⟩) (hcd : PySem.W.codeIn K cdv qual = true) (S : FnScope N ps scope)
    (len : ∀ vs H Q E, sp vs H Q E → vs.length = ps.length)
    (hbody : ∀ (A : Around) (outer : List Env) (s : Shared) (H : Hp) (vs : List V) (Q : VK) (E : XK), A.guards = some [] → Room k (A.deeper (envOfC qual scope s.heap.objs.size f cdv)) → sp vs H Q E →
      ∃ t, PSs (cxOf CX0 P w K mg base N qual scope f cdv A outer s H E).nox body t ∧ t { nx := fun _ H' => Q .non H', rt := Q } (start N vs) H) :
    FnC P w K mg base f (PySem.W.fnOf name qual params body scope dV kV doc pm an cdv ct) ps sp where
  run := fun s H args us vs Q E e0 hb r hsp => by
    have bk := fun b o e => (e0.bs b o e).1
    have KX : K.In s.heap := e0.mod.kin.keeps bk
    obtain ⟨t, ht, hq⟩ := hbody callerA [] s H vs Q E rfl (hk.deeper _) hsp
    refine codeAny_call_function hk.depth (KX _ _ lk) rfl S.co S.gen rfl (PySem.W.codeRec_of KX hcd) (hb _ _ _ _ (wpAny_newFunctionEnv_cells S.kind (fun ⟨n, v⟩ hy => ?_) fun env he s1 x => ?_))
    · exact (S.par n (List.of_mem_zip hy).1).imp id fun q => ⟨q, PySem.W.cellsFrom_some _ _ _ (.inl q)⟩
    · subst he
      refine ⟨(e0.mod.nolimit.keeps bk).keeps x.toInCall.keep, codeAny_func (wpAny_mono (ht.nox.run [] s1 (start N vs) H _ (inv_start S hk.hd e0 (len _ _ _ _ hsp) r x) hq) (fun fl s' hs => ?_) fun e s' hs => hs)⟩
      cases fl with
      | ret u => exact let ⟨v, σ', H', J, rv, q⟩ := hs; ⟨v, H', J.os, J.bare, J.base, J.hok, rv, q⟩
      | next => exact let ⟨σ', H', J, q⟩ := hs; ⟨.non, H', J.os, J.bare, J.base, J.hok, rfl, q⟩
      | brk => exact let ⟨_, _, _, q⟩ := hs; q.elim
      | cont => exact let ⟨_, _, _, q⟩ := hs; q.elim
end GX
/-! the end of a law whose body the caller alone calls; ts: the tables of code objects that may grow -/
namespace GX
open PySem PySem.Spec PyProof.Rows L2 GxR
section
variable {P : Program} {w : World} {K : PySem.W.Frag} {mg mb : Str → Option Value} {fa a : Addr} {cs : List (Addr × Addr)} {fd : FuncData} {x : Str} {sp : Sp} {s₁ : Shared} {vs : List Value} {ns : List Int}
/-- what is known at the law's entry: the tables, the script where it is no object of the module -/
def atE (K : PySem.W.Frag) (cs : List (Addr × Addr)) (a : Addr) (vs : List Value) (ns : List Int) : Hp := fun b =>
  if b ∈ cs.map (·.2) then some (.tbl #[]) else if b = a ∧ K.lookup a = none then some (.frz { cls := .type "list", data := .seq vs.toArray } (.lst (ns.map V.int))) else none
theorem law_callC (KX : K.In s₁.heap) (hns : s₁.heap.Ns mainGlobals mg) (hb : s₁.heap.Ns builtinsNs mb) (hbb : ∀ x : Str, x ≠ "__name__" → mb x = bootBuiltins x) (hlim : s₁.heap.NoLimit) (hg : s₁.gens = #[])
    (hT : ∀ p ∈ cs, s₁.heap.get? p.2 = some { cls := .none, data := .fields #[] }) (nT : ∀ p ∈ cs, K.lookup p.2 = none) (C : ∀ p ∈ cs, PySem.W.CodeHd s₁.heap p.1 p.2)
    (hbm : ∃ (bm : Addr) (ob : Obj), mg "__builtins__" = some (.ref bm) ∧ bm ≠ builtinsNs ∧ s₁.heap.get? bm = some ob ∧ ob.cls = .type "module" ∧ ob.dict = some builtinsNs ∧ ob.data = .plain)
    (ha : s₁.heap.get? a = some { cls := .type "list", data := .seq vs.toArray }) (hi : IntsAre vs ns) (hl : ns.length ≤ sizeLine)
    (F : ∀ base : Heap, K.In base → base.Ns mainGlobals mg → (∀ p ∈ cs, TabB base mg p.1 p.2) → FnC P w K mg base fa fd [x] sp) (hbind : ∀ (s : Shared) (u : Value), BindsTo s fd ⟨[u], []⟩ [(x, u)])
    (hsp : ∀ H : Hp, (∀ p ∈ cs, H p.2 = some (.tbl #[])) → SqL K H a (ns.map V.int) → sp [.ref a] H (fun v _ => v = .bl true) fun _ _ _ => False) :
    codeAny (model P w) callerA (.call (.ref fa) ⟨[.ref a], []⟩) (fun r s' => r = .ok (.ret (.bool true)) ∧ OldK s₁.heap s'.heap ∧ s'.os = s₁.os ∧ AllBare s'.gens) s₁ := by
  have tabOf : ∀ b ∈ cs.map (·.2), s₁.heap.get? b = some { cls := .none, data := .fields #[] } := fun b hb => by
    obtain ⟨p, hp, rfl⟩ := List.mem_map.mp hb
    exact hT p hp
  have aOut : a ∉ cs.map (·.2) := fun z => by
    have := tabOf a z
    rw [ha] at this
    exact nomatch congrArg Obj.data (Option.some.inj this)
  have tabIn : ∀ p ∈ cs, p.2 ∈ cs.map (·.2) := fun p hp => List.mem_map.mpr ⟨p, hp, rfl⟩
  generalize hH : atE K cs a vs ns = H
  have H1 : ∀ p ∈ cs, H p.2 = some (.tbl #[]) := fun p hp => by
    rw [← hH]
    exact if_pos (tabIn p hp)
  have H2 : K.lookup a = none → H a = some (.frz { cls := .type "list", data := .seq vs.toArray } (.lst (ns.map V.int))) := fun z => by
    rw [← hH]
    exact (if_neg aOut).trans (if_pos ⟨rfl, z⟩)
  have H3 : ∀ b u, H b = some u → (b ∈ cs.map (·.2) ∧ u = .tbl #[]) ∨ (b = a ∧ K.lookup a = none ∧ u = .frz { cls := .type "list", data := .seq vs.toArray } (.lst (ns.map V.int))) := fun b u e => by
    rw [← hH] at e
    unfold atE at e
    split at e
    · rename_i z
      exact .inl ⟨z, (Option.some.inj e).symm⟩
    · split at e
      · rename_i z
        exact .inr ⟨z.1, z.2, (Option.some.inj e).symm⟩
      · cases e
  -- what is no list and no empty table is not tracked; nor is an object of the module
  have free : ∀ {b : Addr} {o : Obj}, s₁.heap.get? b = some o → (∀ vs n, o.data ≠ .seq vs n) → o.data ≠ .fields #[] → H b = none := fun {b o} e n1 n2 => by
    cases q : H b with
    | none => rfl
    | some u =>
      rcases H3 b u q with ⟨z, _⟩ | ⟨z, _⟩
      · rw [tabOf b z] at e
        cases e
        exact absurd rfl n2
      · rw [z, ha] at e
        cases e
        exact absurd rfl (n1 _ _)
  have freeK : ∀ b o, K.lookup b = some o → H b = none := fun b o e => by
    cases q : H b with
    | none => rfl
    | some u =>
      rcases H3 b u q with ⟨z, _⟩ | ⟨z, y, _⟩
      · obtain ⟨p, hp, rfl⟩ := List.mem_map.mp z
        rw [nT p hp] at e
        cases e
      · rw [z, y] at e
        cases e
  have inB : ∀ {b : Addr} {o : Obj}, s₁.heap.get? b = some o → H b = none → (hidT s₁.heap H).get? b = some o := fun e n => hidT_get e n
  have nsB : ∀ {b : Addr} {m : Str → Option Value}, s₁.heap.Ns b m → (hidT s₁.heap H).Ns b m := fun {b m} ⟨o, es, ep, e, d, r⟩ =>
    ⟨o, es, ep, inB e (free e (fun _ _ z => by rw [d] at z; cases z) fun z => by rw [d] at z; cases z), d, r⟩
  have kB : K.In (hidT s₁.heap H) := fun b o e => inB (KX b o e) (freeK b o e)
  have mo : L2.Mod K mg (hidT s₁.heap H) := ⟨kB, nsB hns, ⟨mb, nsB hb, hbb⟩, hlim.imp fun _ z => ⟨nsB z.1, z.2⟩⟩
  have okH : HOk P w H s₁.heap := fun b u e => by
    rcases H3 b u e with ⟨z, rfl⟩ | ⟨rfl, _, rfl⟩
    · exact tabOf b z
    · exact ⟨ha, by rw [List.length_map]; exact hl, vs, _, vals_ints hi, ha⟩
  have tB : ∀ p ∈ cs, TabB (hidT s₁.heap H) mg p.1 p.2 := fun p hp => by
    have gp := hT p hp
    obtain ⟨og, eg, epg, e1, d1, _⟩ := id hns
    refine ⟨?_, ?_, fun z => by rw [z, gp] at e1; cases e1; cases d1⟩
    · obtain ⟨o, us, file, tf, flags, tg, inF, text, tt, c1, r1, r2, r3, r⟩ := C p hp
      exact ⟨o, us, file, tf, flags, tg, inF, text, tt, inB c1 (free c1 (fun _ _ z => by rw [r2] at z; cases z) (fun z => by rw [r2] at z; cases z; simp at r3)), r1, r2, r3, r⟩
    · obtain ⟨bm, ob, b1, b2, b3, b4, b5, b6⟩ := hbm
      exact ⟨bm, ob, b1, b2, (fun z => by rw [z, e1] at b3; cases b3; rw [d1] at b6; cases b6), (fun z => by rw [z, gp] at b3; cases b3; cases b6), inB b3 (free b3 (fun _ _ z => by rw [b6] at z; cases z) (fun z => by rw [b6] at z; cases z)), b4, b5, b6⟩
  have sq : SqL K H a (ns.map V.int) := by
    cases e : K.lookup a with
    | none => exact .inl (.inr ⟨_, H2 e⟩)
    | some o =>
      have z := KX a o e
      rw [ha] at z
      cases z
      exact .inr ⟨_, vs.toArray, _, e, rfl, rfl, rfl, by rw [List.size_toArray, hi.length]; exact hl, by simpa using vals_ints hi⟩
  refine codeAny_mono ((F _ kB (nsB hns) tB).run s₁ H ⟨[.ref a], []⟩ [.ref a] [.ref a] _ _ ⟨rfl, mo, fun b o e => of_hidT e, Nat.le_of_eq (hidT_size _ _), trivial, (fun b z => nomatch z), okH, .of_eq hg⟩ (hbind s₁ (.ref a)) (.cons rfl .nil) (hsp H H1 sq)) fun r s' h => ?_
  match r, h with
  | .error e, h => exact False.elim h
  | .ok .next, h => exact False.elim h
  | .ok .brk, h => exact False.elim h
  | .ok .cont, h => exact False.elim h
  | .ok (.ret u), ⟨v, H', os, bare, un, ok', rv, q⟩ =>
    obtain rfl : v = .bl true := q
    obtain rfl : u = Value.bool true := rv
    have stay : ∀ b o, b ∉ cs.map (·.2) → s₁.heap.get? b = some o → s'.heap.get? b = some o := fun b o nb e => by
      cases q : H b with
      | none => exact un.keep b o e q (fun z => nomatch z) (fun z => nomatch z)
      | some y =>
        rcases H3 b y q with ⟨z, _⟩ | ⟨_, _, rfl⟩
        · exact absurd z nb
        · have e1 := (okH b _ q).1
          rw [e] at e1
          cases e1
          exact (ok' b _ (un.frzs b _ _ q)).1
    have grow : ∀ b ∈ cs.map (·.2), ∃ (p : Addr × Addr) (more : Array Value), p ∈ cs ∧ p.2 = b ∧ s'.heap.get? b = some { cls := .none, data := .fields (#[] ++ more) } := fun b hb => by
      obtain ⟨p, hp, rfl⟩ := List.mem_map.mp hb
      obtain ⟨more, z⟩ := un.tbls p.2 #[] (H1 p hp)
      exact ⟨p, more, hp, rfl, ok' p.2 _ z⟩
    refine ⟨rfl, ⟨fun b o e => ?_, fun b o e => ?_⟩, os, bare⟩
    · by_cases hb : b ∈ cs.map (·.2)
      · obtain ⟨p, more, hp, rfl, hm⟩ := grow b hb
        rw [hT p hp] at e
        cases e
        exact .inr (.inl ⟨((C p hp).tab (hT p hp)).isCodeTable, rfl, #[], more, rfl, hm⟩)
      · exact .inl (stay b o hb e)
    · by_cases hb : b ∈ cs.map (·.2)
      · obtain ⟨p, more, _, _, hm⟩ := grow b hb
        exact ⟨_, hm⟩
      · exact ⟨o, stay b o hb e⟩
end
/-- what is known of the law's promise at the head's heap h -/
def LawC (l : PySem.W.OpenLaw) (w : World) (K : PySem.W.Frag) (n : Nat) (x : Str) (mg : Str → Option Value) (fa : Addr) (h : Heap) : Prop :=
  ∃ (fd : FuncData) (cs : List (Addr × Addr)) (sp : Sp), (∀ p ∈ cs, h.get? p.2 = some { cls := .none, data := .fields #[] }) ∧ (∀ p ∈ cs, K.lookup p.2 = none) ∧ (∀ p ∈ cs, PySem.W.CodeHd h p.1 p.2) ∧ (∀ (s : Shared) (u : Value), BindsTo s fd ⟨[u], []⟩ [(x, u)]) ∧
    (∀ (H : Hp) (a : Addr) (ns : List Int), ns.length ≤ n → (∀ z ∈ ns, Builtin.Int.intBits z ≤ 1048576) → (∀ p ∈ cs, H p.2 = some (.tbl #[])) → SqL K H a (ns.map V.int) → sp [.ref a] H (fun v _ => v = .bl true) fun _ _ _ => False) ∧
    ∀ base : Heap, K.In base → base.Ns mainGlobals mg → (∀ p ∈ cs, TabB base mg p.1 p.2) → FnC l.prog w K mg base fa fd [x] sp
theorem walk_ofC {l : PySem.W.OpenLaw} {n : Nat} {q : Program} {loose : List Str} {XP : (Str → Option Value) → Heap → Prop} {YP : World → Heap → Prop} {d : DefRec} {K : Params → PySem.W.Frag} {x : Str}
    (hn : l.most = some n) (hn2 : n ≤ sizeLine) (hdf : d.params.defaults = []) (hY : ∀ (w : World) (h : Heap), YP w h → (K w.params).In h)
    (F : ∀ (w : World) (mg : Str → Option Value) (fa : Addr) (h : Heap), YP w h → (K w.params).In h → h.Ns mainGlobals mg → mg d.name = some (.ref fa) → LawC l w (K w.params) n x mg fa h) :
    PySem.W.WalkO q loose XP YP l.row.toRowW d [] (fun f vs => PySem.call f vs) := by
  refine Att.attach_callB hn hdf fun w s₀ s₁ mg mb fa o pm cd doc a vs ns G Y ho hd hcd hmg hobj hints hlen hbits hg => ?_
  have KX := hY w _ Y
  obtain ⟨fd, cs, sp, hT, nT, C, hb, hsp, hF⟩ := F w mg fa _ Y KX G.T.g hmg
  exact law_callC KX G.T.g G.T.b G.T.builtins G.T.nolimit hg hT nT C G.T.bmain hobj hints (Nat.le_trans hlen hn2) hF hb fun H hH hS => hsp H a ns hlen hbits hH hS
end GX
namespace K15
open PySem PySem.Spec PyProof.Rows L2 QR
open PySem.W (Datum)
/-! the text of levels -/
theorem shown_small : ∀ n : Nat, n < 1000 → (PyData.shown (.int (n : Int))).length ≤ 8 ∧ ((n : Int)).natAbs.log2 < 1920 := by
  have h : ((List.range 1000).all fun n => decide ((PyData.shown (.int (n : Int))).length ≤ 8) && decide (((n : Int)).natAbs.log2 < 1920)) = true := by decide +kernel
  intro n hn
  have := List.all_eq_true.mp h n (List.mem_range.mpr hn)
  simpa using this
def rowD (row : List Pr) : PyData := .list (row.map prD)
def rowsD (rows : List (List Pr)) : PyData := .list (rows.map rowD)
def Small (row : List Pr) : Prop := ∀ p ∈ row, p.1 < 1000 ∧ p.2 < 1000
theorem prD_facts {p : Pr} (h : p.1 < 1000 ∧ p.2 < 1000) : PyData.leavesShort 8 (prD p) = true ∧ PyData.showable (prD p) = true ∧ PyData.hasDict (prD p) = false ∧ PyData.bulk (prD p) = 2 ∧ PyData.depth (prD p) ≤ 1 := by
  obtain ⟨a1, a2⟩ := shown_small p.1 h.1
  obtain ⟨b1, b2⟩ := shown_small p.2 h.2
  refine ⟨?_, ?_, ?_, ?_, ?_⟩
  · simp only [prD, PyData.leavesShort, PyData.leavesShortAll, Bool.and_true, Bool.and_eq_true, decide_eq_true_eq]
    exact ⟨a1, b1⟩
  · simp only [prD, PyData.showable, PyData.showableAll, Bool.and_true, Bool.and_eq_true, decide_eq_true_eq]
    exact ⟨a2, b2⟩
  · simp only [prD, PyData.hasDict, PyData.hasDictAll, Bool.or_false]
  · simp only [prD, PyData.bulk, PyData.bulkAll]
  · simp [prD, PyData.depth, PyData.depthAll]
theorem row_facts : ∀ {row : List Pr}, Small row → PyData.leavesShortAll 8 (row.map prD) = true ∧ PyData.showableAll (row.map prD) = true ∧ PyData.hasDictAll (row.map prD) = false ∧ PyData.bulkAll (row.map prD) = 3 * row.length ∧ PyData.depthAll (row.map prD) ≤ 1
  | [], _ => ⟨rfl, rfl, rfl, rfl, Nat.zero_le _⟩
  | p :: row, h => by
    obtain ⟨a1, a2, a3, a4, a5⟩ := prD_facts (h p List.mem_cons_self)
    obtain ⟨b1, b2, b3, b4, b5⟩ := row_facts fun q hq => h q (List.mem_cons_of_mem _ hq)
    rw [List.map_cons]
    refine ⟨?_, ?_, ?_, ?_, ?_⟩
    · rw [PyData.leavesShortAll, a1, b1]
      rfl
    · rw [PyData.showableAll, a2, b2]
      rfl
    · rw [PyData.hasDictAll, a3, b3]
      rfl
    · rw [PyData.bulkAll, a4, b4, List.length_cons]
      omega
    · rw [PyData.depthAll]
      omega
theorem rows_facts : ∀ {rows : List (List Pr)}, (∀ row ∈ rows, Small row) → PyData.leavesShortAll 8 (rows.map rowD) = true ∧ PyData.showableAll (rows.map rowD) = true ∧ PyData.hasDictAll (rows.map rowD) = false ∧ PyData.bulkAll (rows.map rowD) = 3 * rows.flatten.length + rows.length ∧ PyData.depthAll (rows.map rowD) ≤ 2
  | [], _ => ⟨rfl, rfl, rfl, rfl, Nat.zero_le _⟩
  | row :: rows, h => by
    obtain ⟨a1, a2, a3, a4, a5⟩ := row_facts (h row List.mem_cons_self)
    obtain ⟨b1, b2, b3, b4, b5⟩ := rows_facts fun q hq => h q (List.mem_cons_of_mem _ hq)
    rw [List.map_cons]
    refine ⟨?_, ?_, ?_, ?_, ?_⟩
    · rw [PyData.leavesShortAll, rowD, PyData.leavesShort, a1, b1]
      rfl
    · rw [PyData.showableAll, rowD, PyData.showable, a2, b2]
      rfl
    · rw [PyData.hasDictAll, rowD, PyData.hasDict, a3, b3]
      rfl
    · rw [PyData.bulkAll, rowD, PyData.bulk, a4, b4, List.length_cons, List.flatten_cons, List.length_append]
      omega
    · rw [PyData.depthAll, rowD, PyData.depth]
      omega
theorem rowsD_facts {rows : List (List Pr)} (h : ∀ row ∈ rows, Small row) (l : rows.flatten.length + rows.length ≤ 200000) : (rowsD rows).showable = true ∧ (rowsD rows).hasDict = false ∧ (rowsD rows).depth ≤ 60 ∧ (rowsD rows).shown.length ≤ sizeLine := by
  obtain ⟨a1, a2, a3, a4, a5⟩ := rows_facts h
  have z : sizeLine = 16777216 := sizeLine_eq
  refine ⟨?_, ?_, ?_, ?_⟩
  · rw [rowsD, PyData.showable]; exact a2
  · rw [rowsD, PyData.hasDict]; exact a3
  · rw [rowsD, PyData.depth]; omega
  · have := PyData.shown_le_bulk 8 (Nat.le_refl _) (rowsD rows) (by rw [rowsD, PyData.leavesShort]; exact a1)
    have e : (rowsD rows).bulk = 3 * rows.flatten.length + rows.length := by rw [rowsD, PyData.bulk]; exact a4
    rw [e] at this
    omega
theorem dp_rows {K : PySem.W.Frag} {H : Hp} {r : Addr} {rows : List (List Pr)} (h : RowsV H r rows) : Dp K H (.ref r) (rowsD rows) := by
  obtain ⟨rs, c, e1, e2, e3⟩ := h
  have key : ∀ (rs : List Addr) (rows : List (List Pr)) (c : Nat → List (Addr × Pr)), rs.length = rows.length → (∀ m a, rs[m]? = some a → H a = some (.lst (prs (c m))) ∧ PairsL H (c m) ∧ some ((c m).map (·.2)) = rows[m]?) → DpAll K H (rs.map V.ref) (rows.map rowD) := by
    intro rs
    induction rs with
    | nil =>
      intro rows c h _
      cases rows with
      | nil => exact .nil
      | cons _ _ => cases h
    | cons a rs ih =>
      intro rows c h k
      cases rows with
      | nil => cases h
      | cons row rows =>
        obtain ⟨z1, z2, z3⟩ := k 0 a rfl
        have er : (c 0).map (·.2) = row := Option.some.inj z3
        refine .cons ?_ (ih rows (fun m => c (m + 1)) (Nat.succ.inj h) fun m b e => k (m + 1) b e)
        rw [← er]
        exact .lst (SqL.of z1) (dp_prs z2)
  exact .lst (SqL.of e1) (key rs rows c e2 e3)
end K15
namespace K15
open PySem PySem.Spec PyProof.Rows L2 QR
open GxR (TabB TabG Tabbed)
open PySem.W (Datum)
abbrev sLaw : Stmt := topS 20
abbrev nLaw : List Str := ["script", "state", "one", "other", "due", "rows", "steps", "worse", "turn", "turned", "kept_before", "told", "row", "said", "leads"]
theorem scLaw : FnScope nLaw ["script"] (defScope sLaw) := ⟨rfl, rfl, rfl, by decide +kernel, rfl, by decide +kernel, by decide +kernel⟩
/-- draws were made, objects laid, code written into two tables -/
structure LS (p c T1 T2 : Addr) (H H' : Hp) : Prop where
  st : StateAt H' p c
  ou : ∀ b o, b ≠ p → b ≠ c → b ≠ T1 → b ≠ T2 → H b = some o → H' b = some o
  g1 : TabG H' T1
  g2 : TabG H' T2
theorem tab_ne {H : Hp} {T b : Addr} {o : HO} (g : TabG H T) (e : H b = some o) (n : ∀ ps, o ≠ .tbl ps) : b ≠ T := fun z => by
  obtain ⟨ps, e1, _⟩ := g
  rw [z, e1] at e
  exact n ps (Option.some.inj e).symm
theorem st_ne {H : Hp} {T p c : Addr} (g : TabG H T) (s : StateAt H p c) : p ≠ T ∧ c ≠ T := by
  obtain ⟨⟨_, e1⟩, ⟨_, e2⟩⟩ := s.some
  exact ⟨tab_ne g e1 (fun ps z => nomatch z), tab_ne g e2 (fun ps z => nomatch z)⟩
section
variable {p c T1 T2 : Addr} {H H1 H2 : Hp}
theorem LS.same (h : LS p c T1 T2 H H1) (s : Same H1 H2) : LS p c T1 T2 H H2 := ⟨h.st.same s, fun b o n1 n2 n3 n4 e => s _ _ (h.ou b o n1 n2 n3 n4 e), tabG_same h.g1 s, tabG_same h.g2 s⟩
theorem LS.dr (h : LS p c T1 T2 H H1) (d : Dr p c H1 H2) : LS p c T1 T2 H H2 := by
  have a := st_ne h.g1 h.st
  have b := st_ne h.g2 h.st
  obtain ⟨p1, e1, o1⟩ := h.g1
  obtain ⟨p2, e2, o2⟩ := h.g2
  exact ⟨d.st, fun x o n1 n2 n3 n4 e => d.ou x o n1 n2 (h.ou x o n1 n2 n3 n4 e), ⟨p1, d.ou T1 _ (Ne.symm a.1) (Ne.symm a.2) e1, o1⟩, ⟨p2, d.ou T2 _ (Ne.symm b.1) (Ne.symm b.2) e2, o2⟩⟩
theorem LS.tb (h : LS p c T1 T2 H H1) (t : Tb2 T1 T2 H1 H2) : LS p c T1 T2 H H2 := by
  have a := st_ne h.g1 h.st
  have b := st_ne h.g2 h.st
  exact ⟨h.st.mono (fun o e => t.sm _ _ a.1 b.1 e) (fun o e => t.sm _ _ a.2 b.2 e), fun x o n1 n2 n3 n4 e => t.sm x o n3 n4 (h.ou x o n1 n2 n3 n4 e), t.t1, t.t2⟩
theorem LS.refl (s : StateAt H p c) (g1 : TabG H T1) (g2 : TabG H T2) : LS p c T1 T2 H H := ⟨s, fun _ _ _ _ _ _ e => e, g1, g2⟩
theorem LS.trans (h : LS p c T1 T2 H H1) (k : LS p c T1 T2 H1 H2) : LS p c T1 T2 H H2 := ⟨k.st, fun b o n1 n2 n3 n4 e => k.ou b o n1 n2 n3 n4 (h.ou b o n1 n2 n3 n4 e), k.g1, k.g2⟩
/-- what stood and is neither the state nor a table -/
theorem LS.at_ (h : LS p c T1 T2 H H1) (g1 : TabG H T1) (g2 : TabG H T2) {b : Addr} {o : HO} (e : H b = some o) (n : ∀ ps, o ≠ .tbl ps) (np : b ≠ p) (nc : b ≠ c) : H1 b = some o := h.ou b o np nc (tab_ne g1 e n) (tab_ne g2 e n) e
theorem LS.steps (h : LS p c T1 T2 H H1) (g1 : TabG H T1) (g2 : TabG H T2) (s : StateAt H p c) {ps : List (Addr × Step)} (k : StepsL H ps) : StepsL H1 ps := fun q hq => by
  obtain ⟨⟨_, e1⟩, ⟨_, e2⟩⟩ := s.some
  exact h.at_ g1 g2 (k q hq) (stepO_tbl _) (step_ne (k q hq) e1) (step_ne (k q hq) e2)
theorem LS.rows (h : LS p c T1 T2 H H1) (g1 : TabG H T1) (g2 : TabG H T2) (s : StateAt H p c) {H0 : Hp} (s0 : StateAt H0 p c) {r : Addr} {rows : List (List Pr)} (nr : H0 r = none) (nw : NewRows H0 H r) (k : RowsV H r rows) : RowsV H1 r rows := by
  obtain ⟨rs, cc, e1, e2, e3⟩ := k
  obtain ⟨⟨_, z1⟩, ⟨_, z2⟩⟩ := s.some
  have n := s0.new nr
  refine ⟨rs, cc, h.at_ g1 g2 e1 (fun ps z => nomatch z) n.1 n.2, e2, fun m a e => ?_⟩
  obtain ⟨w1, w2, w3⟩ := e3 m a e
  obtain ⟨a', ea, na⟩ := nw _ e1 (.ref a) (List.mem_map.mpr ⟨a, List.mem_of_getElem? e, rfl⟩)
  cases ea
  have n := s0.new na
  exact ⟨h.at_ g1 g2 w1 (fun ps z => nomatch z) n.1 n.2, fun q hq => h.at_ g1 g2 (w2 q hq) (fun ps z => nomatch z) (pr_ne (w2 q hq) z1) (pr_ne (w2 q hq) z2), w3⟩
end
instance : Datum Pr where
  toD := prD
  plain _ := rfl
  eqv := prD_eqv
  depth := 1
  depth_le p := by simp [prD, PyData.depth, PyData.depthAll]
theorem eqP_len {xs : List (Option Str)} {ys : List Str} (hx : xs.length ≤ 100) (hy : ys.length ≤ 100) : (eqP xs ys).length ≤ 10000 := by
  have h1 := eqTo_len xs ys xs.length
  rw [eqTo_all] at h1
  have := Nat.mul_le_mul hx hy
  omega
theorem rowsL_mem {xs : List (Option Str)} {ys : List Str} {row : List Pr} (h : row ∈ rowsL xs ys) : row.length ≤ (eqP xs ys).length ∧ ∀ p ∈ row, p.1 < xs.length ∧ p.2 < ys.length := by
  obtain ⟨k, _, rfl⟩ := List.mem_map.mp h
  exact ⟨List.length_filter_le _ _, fun p hp => eqAt_lt (mem_eqP.mp (List.mem_filter.mp hp).1)⟩
theorem rows_wt : ∀ R : Rw, wt R = ((R.map fun q => q.2.map (·.2)).flatten).length + (R.map fun q => q.2.map (·.2)).length
  | [] => rfl
  | q :: R => by
    show (q.2.length + 1) + wt R = _
    rw [rows_wt R, List.map_cons, List.flatten_cons, List.length_append, List.length_cons]
    have z : (q.2.map (·.2)).length = q.2.length := List.length_map _
    omega
theorem NewRows.stay {H0 H H' : Hp} {r : Addr} {l : List V} (h : NewRows H0 H r) (e : H r = some (.lst l)) (e' : H' r = some (.lst l)) : NewRows H0 H' r := fun xs y v hv => by
  rw [e'] at y
  exact h xs (e.trans y) v hv
theorem cut_last (ps : List (Addr × Step)) : cutV (refs ps) none (some (-1)) = refs ps.dropLast := by
  unfold cutV
  have e1 : HT.sIx (refs ps).length 0 none = 0 := by
    unfold HT.sIx
    simp
  have e2 : HT.sIx (refs ps).length (refs ps).length (some (-1)) = (refs ps).length - 1 := by
    unfold HT.sIx
    simp
    omega
  rw [e1, e2, List.drop_zero, Nat.sub_zero, ← List.dropLast_eq_take]
  unfold refs
  rw [List.map_dropLast]
/-- whether a row of steps leads, as the law has it -/
theorem leads_right {xs : List (Option Str)} {ys : List Str} {ss ws : List Step} (hw : right xs ys ws 0 0 = true) (h : right xs ys ss 0 0 = true ∨ ss = ws.dropLast) : right xs ys ss 0 0 = (!decide (ss = ws.dropLast) || decide (ws.length = 0)) := by
  rcases List.eq_nil_or_concat ws with e | ⟨l, x, e⟩
  · subst e
    rw [show decide (([] : List Step).length = 0) = true from rfl, Bool.or_true]
    rcases h with h | h
    · exact h
    · rw [h]
      exact hw
  · have e' : ws = l ++ [x] := by rw [e]; simp
    subst e'
    have short := right_short l x 0 0 hw
    rw [List.dropLast_concat, decide_eq_false (by simp : ¬ (l ++ [x]).length = 0), Bool.or_false]
    by_cases z : ss = l
    · rw [z, short, decide_eq_true rfl]
      rfl
    · rw [decide_eq_false z]
      rcases h with h | h
      · exact h
      · rw [List.dropLast_concat] at h
        exact absurd h z
section
variable {P : Program} {w : World} {K : PySem.W.Frag} {mg : Str → Option Value} {base : Heap}
def spLaw (K : PySem.W.Frag) (T1 T2 : Addr) : Sp := fun vs H Q _ => ∃ (a : Addr) (ns : List Int), vs = [.ref a] ∧ SqL K H a (ns.map V.int) ∧ ns.length ≤ 63 ∧ TabG H T1 ∧ TabG H T2 ∧ T1 ≠ T2 ∧ ∀ H', Q (.bl true) H'
theorem ok_LAW {T1 T2 f fS fLL fVL fLV fSB fLR fFW fFE fTU fRT fKP fMO : Addr} {fdS fdLL fdVL fdLV fdSB fdLR fdFW fdFE fdTU fdRT fdKP fdMO : FuncData} {oc kV doc pm cdv ct : Value} {od an : Option Addr} {osl : Array (Option Value)} (lk : K.lookup f = some ⟨oc, od, .func (PySem.W.fnOf "law" "law" (defArgs sLaw) (defBody sLaw) (defScope sLaw) .none kV doc pm an cdv ct), osl⟩)
    (hcd : PySem.W.codeIn K cdv "law" = true)
    (GS : FnOk P w K mg base CX0 1 fS fdS ["script"] (spState K)) (bS : Binds K fdS ["script"] []) (gS : mg "_law_state" = some (.ref fS)) (kS : PySem.W.keepIn K (.ref fS) = true)
    (GLL : FnOk P w K mg base CX0 3 fLL fdLL ["state"] spLL) (bLL : Binds K fdLL ["state"] []) (gLL : mg "_law_lists" = some (.ref fLL)) (kLL : PySem.W.keepIn K (.ref fLL) = true)
    (GVL : FnOk P w K mg base CX0 1 fVL fdVL ["one", "other"] spVL) (bVL : Binds K fdVL ["one", "other"] []) (gVL : mg "_law_levels" = some (.ref fVL)) (kVL : PySem.W.keepIn K (.ref fVL) = true)
    (GLV : FnOk P w K mg base CX0 2 fLV fdLV ["one", "other"] spLV) (bLV : Binds K fdLV ["one", "other"] []) (gLV : mg "levels" = some (.ref fLV)) (kLV : PySem.W.keepIn K (.ref fLV) = true)
    (GSB : FnOk P w K mg base CX0 2 fSB fdSB ["one", "other"] spSB) (bSB : Binds K fdSB ["one", "other"] []) (gSB : mg "steps_between" = some (.ref fSB)) (kSB : PySem.W.keepIn K (.ref fSB) = true)
    (GLR : FnOk P w K mg base CX0 4 fLR fdLR ["one", "other", "rows"] (spLR T1 T2)) (bLR : Binds K fdLR ["one", "other", "rows"] []) (gLR : mg "levels_right" = some (.ref fLR)) (kLR : PySem.W.keepIn K (.ref fLR) = true)
    (GFW : FnOk P w K mg base CX0 5 fFW fdFW ["one", "other", "steps", "rows"] (spFW T1 T2)) (bFW : Binds K fdFW ["one", "other", "steps", "rows"] []) (gFW : mg "fewest" = some (.ref fFW)) (kFW : PySem.W.keepIn K (.ref fFW) = true)
    (GFE : FnOk P w K mg base CX0 2 fFE fdFE ["state", "steps"] spFE) (bFE : Binds K fdFE ["state", "steps"] []) (gFE : mg "_law_fewer" = some (.ref fFE)) (kFE : PySem.W.keepIn K (.ref fFE) = true)
    (GTU : FnOk P w K mg base CX0 3 fTU fdTU ["state", "rows"] spTU) (bTU : Binds K fdTU ["state", "rows"] []) (gTU : mg "_law_turned" = some (.ref fTU)) (kTU : PySem.W.keepIn K (.ref fTU) = true)
    (GRT : FnOk P w K mg base CX0 1 fRT fdRT ["one", "other", "rows"] spRT) (bRT : Binds K fdRT ["one", "other", "rows"] []) (gRT : mg "_law_right" = some (.ref fRT)) (kRT : PySem.W.keepIn K (.ref fRT) = true)
    (GKP : FnOk P w K mg base CX0 1 fKP fdKP ["steps"] spKP) (bKP : Binds K fdKP ["steps"] []) (gKP : mg "kept" = some (.ref fKP)) (kKP : PySem.W.keepIn K (.ref fKP) = true)
    (GMO : FnOk P w K mg base CX0 1 fMO fdMO ["one", "other"] spMO) (bMO : Binds K fdMO ["one", "other"] []) (gMO : mg "_law_most" = some (.ref fMO)) (kMO : PySem.W.keepIn K (.ref fMO) = true)
    (m_len : mg "len" = none) (m_range : mg "range" = none) (m_repr : mg "repr" = none) (m_isinstance : mg "isinstance" = none) (m_bool : mg "bool" = none) :
    GX.FnC P w K mg base f (PySem.W.fnOf "law" "law" (defArgs sLaw) (defBody sLaw) (defScope sLaw) .none kV doc pm an cdv ct) ["script"] (spLaw K T1 T2) := by
  refine GX.fn_C (k := 6) ⟨rfl, by decide +kernel, by decide +kernel⟩ lk hcd scLaw (fun vs H Q E h => ?_) fun A outer s H vs Q E hg hr h => ?_
  · obtain ⟨a, ns, rfl, _⟩ := h
    rfl
  · obtain ⟨a0, ns, rfl, hS, hl, g1, g2, neT, q⟩ := h
    have hu := hr.units
    have hu1 := hu_of hr
    have hr1 : Room 1 _ := hr.mono (by decide)
    have hr2 : Room 2 _ := hr.mono (by decide)
    have hr3 : Room 3 _ := hr.mono (by decide)
    have hr4 : Room 4 _ := hr.mono (by decide)
    have hr5 : Room 5 _ := hr.mono (by decide)
    have zl := zl
    have hgd : (A.deeper (envOfC "law" (defScope sLaw) s.heap.objs.size f cdv)).guards = some [] := hg
    refine ⟨_, (pss_cons (ps_set (i := 1) scLaw.nd rfl (.inl rfl) (pe_call GS hr1 (by rfl) gS kS bS .nil pass0 (pa_cons (pv 0) pa_nil)))
      (pss_cons (ps_asg (pe_call GLL hr3 (by rfl) gLL kLL bLL .nil pass0 (pa_cons (pv 1) pa_nil)) (pg_tup (by rfl) (pgs_cons (pg_name (i := 2) scLaw.nd rfl (.inl rfl)) (pgs_cons (pg_name (i := 3) scLaw.nd rfl (.inl rfl)) pgs_nil))))
      (pss_cons (ps_set (i := 4) scLaw.nd rfl (.inl rfl) (pe_call GVL hr1 (by rfl) gVL kVL bVL .nil pass0 (pa_cons (pv 2) (pa_cons (pv 3) pa_nil))))
      (pss_cons (ps_set (i := 5) scLaw.nd rfl (.inl rfl) (pe_call GLV hr2 (by rfl) gLV kLV bLV .nil pass0 (pa_cons (pv 2) (pa_cons (pv 3) pa_nil))))
      (pss_cons (ps_set (i := 6) scLaw.nd rfl (.inl rfl) (pe_call GSB hr2 (by rfl) gSB kSB bSB .nil pass0 (pa_cons (pv 2) (pa_cons (pv 3) pa_nil))))
      (pss_cons (ps_if (PW.pt (pw_or (pt_cmpR (op_neP hu) (pv 5) (pv 4) (nomark _)) (pw_or (pt_cmpR op_isnot_bl (pe_call GLR hr4 (by rfl) gLR kLR bLR .nil pass0 (pa_cons (pv 2) (pa_cons (pv 3) (pa_cons (pv 5) pa_nil)))) (pe_bl) (nomark _)) (pw_or1 (pt_cmpR op_isnot_bl (pe_call GFW hr5 (by rfl) gFW kFW bFW .nil pass0 (pa_cons (pv 2) (pa_cons (pv 3) (pa_cons (pv 6) (pa_cons (pv 5) pa_nil))))) (pe_bl) (nomark _))))))
      (pss_one (ps_ret (pe_bl))) pss_nil)
      (pss_cons (ps_set (i := 7) scLaw.nd rfl (.inl rfl) (pe_call GFE hr2 (by rfl) gFE kFE bFE .nil pass0 (pa_cons (pv 1) (pa_cons (pv 6) pa_nil))))
      (pss_cons (ps_for PassesOwn.never rfl (pi_range1 (by rfl) m_range (pa_cons (pe_int) pa_nil)) (pg_name (i := 8) scLaw.nd rfl (.inl rfl))
      (pss_cons (ps_set (i := 9) scLaw.nd rfl (.inl rfl) (pe_call GTU hr3 (by rfl) gTU kTU bTU .nil pass0 (pa_cons (pv 1) (pa_cons (pv 4) pa_nil))))
      (pss_cons (ps_set (i := 10) scLaw.nd rfl (.inl rfl) (pe_callB (GX.cr_repr hgd hu) (by rfl) m_repr (by decide +kernel) (pa_cons (pv 9) pa_nil)))
      (pss_cons (ps_set (i := 11) scLaw.nd rfl (.inl rfl) (pe_call GLR hr4 (by rfl) gLR kLR bLR .nil pass0 (pa_cons (pv 2) (pa_cons (pv 3) (pa_cons (pv 9) pa_nil)))))
      (pss_cons (ps_if (PW.pt (pw_or (pt_not (pt_val (pe_callB call_isi (by rfl) m_isinstance (by decide +kernel) (pa_cons (pv 11) (pa_cons (pe_bltn (v := V.ty "bool") (u := .type "bool") (by rfl) m_bool (by decide +kernel) rfl) pa_nil))))) (pw_or (pt_cmpR op_ne (pv 11) (pe_call GRT hr1 (by rfl) gRT kRT bRT .nil pass0 (pa_cons (pv 2) (pa_cons (pv 3) (pa_cons (pv 9) pa_nil)))) (nomark _)) (pw_or1 (pt_cmpR op_ne (pe_callB (GX.cr_repr hgd hu) (by rfl) m_repr (by decide +kernel) (pa_cons (pv 9) pa_nil)) (pv 10) (nomark _))))))
      (pss_one (ps_ret (pe_bl))) pss_nil)
      (pss_cons (ps_for PassesOwn.never rfl (pi_list (pe_lst (pa_cons (pv 6) (pa_cons (pv 7) (pa_cons (pe_slice sl_list (pv 7) (po_none) (po_some (pe_un un_neg (pe_int)))) pa_nil))))) (pg_name (i := 12) scLaw.nd rfl (.inl rfl))
      (pss_cons (ps_set (i := 13) scLaw.nd rfl (.inl rfl) (pe_call GFW hr5 (by rfl) gFW kFW bFW .nil pass0 (pa_cons (pv 2) (pa_cons (pv 3) (pa_cons (pv 12) (pa_cons (pv 9) pa_nil))))))
      (pss_cons (ps_set (i := 14) scLaw.nd rfl (.inl rfl) (pe_or (pe_cmpR (op_neP hu) (pv 12) (pe_slice sl_list (pv 7) (po_none) (po_some (pe_un un_neg (pe_int)))) (nomark _)) (pe_one (pe_cmpR op_eq (pe_callB call_len_seq (by rfl) m_len PySem.boot_len (pa_cons (pv 7) pa_nil)) (pe_int) (nomark _)))))
      (pss_one (ps_if (PW.pt (pw_or (pt_not (pt_val (pe_callB call_isi (by rfl) m_isinstance (by decide +kernel) (pa_cons (pv 13) (pa_cons (pe_bltn (v := V.ty "bool") (u := .type "bool") (by rfl) m_bool (by decide +kernel) rfl) pa_nil))))) (pw_or1 (pt_cmpR op_ne (pv 13) (pe_and (pv 11) (pe_and (pv 14) (pe_one (pe_cmpR op_eq (pe_call GKP hr1 (by rfl) gKP kKP bKP .nil pass0 (pa_cons (pv 12) pa_nil)) (pe_callB call_len_seq (by rfl) m_len PySem.boot_len (pa_cons (pv 9) pa_nil)) (nomark _))))) (nomark _)))))
      (pss_one (ps_ret (pe_bl))) pss_nil)))))
      (pss_one (ps_if (PW.pt (pw_and (pt_val (pv 11)) (pw_and1 (pt_cmpR op_gt (pe_call GKP hr1 (by rfl) gKP kKP bKP .nil pass0 (pa_cons (pv 6) pa_nil)) (pe_callB call_len_seq (by rfl) m_len PySem.boot_len (pa_cons (pv 9) pa_nil)) (nomark _)))))
      (pss_one (ps_ret (pe_bl))) pss_nil))))))))
      (pss_one (ps_ret (pe_cmpR op_eq (pe_dget hu1 (pe_call GMO hr1 (by rfl) gMO kMO bMO .nil pass0 (pa_cons (pv 2) (pa_cons (pv 3) pa_nil))) (pe_tup (pa_cons (pe_int) (pa_cons (pe_int) pa_nil))) (fun _ _ => rfl)) (pe_callB call_len_seq (by rfl) m_len PySem.boot_len (pa_cons (pv 5) pa_nil)) (nomark _)))))))))))), ?_⟩
    refine ⟨_, rfl, a0, ns, rfl, hS, hl, fun H1 p c sm1 np nc st => ?_⟩
    have l1 : LS p c T1 T2 H1 H1 := LS.refl st (tabG_same g1 sm1) (tabG_same g2 sm1)
    refine ⟨_, rfl, p, c, rfl, st, fun H2 t a b xs ys dr2 et ea eb nt na nb lx ly => ?_⟩
    have nap := st.new na
    have nbp := st.new nb
    refine ⟨t, _, rfl, SqT.of et, rfl, _, _, rfl, _, _, rfl, rfl, ?_⟩
    have l2 := l1.dr dr2
    have h2 := l2.g1
    have h2' := l2.g2
    have s2 := l2.st
    -- due, rows, steps
    refine ⟨_, rfl, _, rfl, a, b, xs, ys, rfl, ea, eb, by omega, by omega, fun H3 rd s3 nrd nwd rvd => ?_⟩
    refine ⟨_, rfl, _, rfl, a, b, xs, ys, rfl, s3 _ _ ea, s3 _ _ eb, by omega, by omega, fun H4 rr s4 nrr nwr rvr => ?_⟩
    have s24 := same_trans s3 s4
    refine ⟨_, rfl, _, rfl, a, b, xs, ys, rfl, s24 _ _ ea, s24 _ _ eb, by omega, by omega, fun H5 r1 ps1 s5 nr1 er1 st1 hp1 => ?_⟩
    have l5 := l2.same (same_trans s24 s5)
    have ea5 := s5 _ _ (s24 _ _ ea)
    have eb5 := s5 _ _ (s24 _ _ eb)
    have rvd5 := rvd.same (same_trans s4 s5)
    have rvr5 := rvr.same s5
    have nr1p := (l2.same s24).st.new nr1
    have lE := eqP_len lx ly
    have rowl : ∀ row ∈ rowsL xs ys, row.length ≤ 1000000 := fun row hr => Nat.le_trans (rowsL_mem hr).1 (by omega)
    have lst : (steps xs ys 0 0).length ≤ 200 := Nat.le_trans (steps_len (xs.length + ys.length) 0 0 (by omega)) (by omega)
    have lp1 : ps1.length ≤ 200 := by
      rw [← hp1, List.length_map] at lst
      exact lst
    have rgt : right xs ys (ps1.map (·.2)) 0 0 = true := by
      rw [hp1]
      exact steps_right (xs.length + ys.length) 0 0 (by omega) (Nat.zero_le _) (Nat.zero_le _)
    have kps : keeps (ps1.map (·.2)) = lcs xs ys := by
      rw [hp1, steps_keeps (xs.length + ys.length) 0 0 (by omega)]
      unfold L
      rw [List.drop_zero, List.drop_zero]
    -- the first test
    dsimp only [tNext, tSeq, tIfS, tAsg, gName, tC]
    refine ⟨_, rfl, _, rfl, ne_dat (a := rowsL xs ys) (b := rowsL xs ys) (dp_rows rvr5) (dp_rows rvd5) (by decide) ⟨_, rfl, ?_⟩⟩
    rw [decide_eq_true rfl]
    refine iteF ?_
    refine ⟨_, rfl, _, rfl, _, rfl, a, b, rr, xs, ys, rowsL xs ys, rfl, ea5, eb5, by omega, by omega, rvr5, rowl, l5.g1, l5.g2, neT, fun H6 t6 => ⟨_, _, rfl, rfl, _, rfl, ?_⟩⟩
    rw [rightB_iff.mpr rowsL_right]
    refine iteF ?_
    have l6 := l5.tb t6
    have ea6 := t6.at_ l5.g1 l5.g2 ea5 (fun ps z => nomatch z)
    have eb6 := t6.at_ l5.g1 l5.g2 eb5 (fun ps z => nomatch z)
    have er6 := t6.at_ l5.g1 l5.g2 er1 (fun ps z => nomatch z)
    have st6 := st1.tb l5.g1 l5.g2 t6
    have rvr6 := rvr5.tb l5.g1 l5.g2 t6
    have rvd6 := rvd5.tb l5.g1 l5.g2 t6
    have fB : fewestB xs ys (ps1.map (·.2)) (rowsL xs ys) = true := by
      unfold fewestB
      rw [rgt, rightB_iff.mpr rowsL_right, kps, rowsL_len, decide_eq_true rfl]
      rfl
    refine ⟨_, rfl, _, rfl, _, rfl, _, rfl, a, b, r1, rr, xs, ys, ps1, rowsL xs ys, rfl, ea6, eb6, by omega, by omega, er6, st6, by omega, rvr6, rowl, l6.g1, l6.g2, neT, fun H7 t7 => ⟨_, _, rfl, rfl, _, rfl, ?_⟩⟩
    rw [fB]
    refine iteF ?_
    have l7 := l6.tb t7
    have ea7 := t7.at_ l6.g1 l6.g2 ea6 (fun ps z => nomatch z)
    have eb7 := t7.at_ l6.g1 l6.g2 eb6 (fun ps z => nomatch z)
    have er7 := t7.at_ l6.g1 l6.g2 er6 (fun ps z => nomatch z)
    have st7 := st6.tb l6.g1 l6.g2 t7
    have rvr7 := rvr6.tb l6.g1 l6.g2 t7
    have rvd7 := rvd6.tb l6.g1 l6.g2 t7
    -- worse
    refine ⟨_, rfl, _, rfl, p, c, r1, ps1, rfl, l7.st, nr1p.1, nr1p.2, er7, st7, by omega, fun H8 rw1 ps2 l f8 e81 e82 => ?_⟩
    have l8 := l7.dr f8.dr
    have ea8 := f8.dr.ou a _ nap.1 nap.2 ea7
    have eb8 := f8.dr.ou b _ nbp.1 nbp.2 eb7
    have er8 := f8.dr.ou r1 _ nr1p.1 nr1p.2 er7
    have st8 := ((LS.refl l7.st l7.g1 l7.g2).dr f8.dr).steps l7.g1 l7.g2 l7.st st7
    have nrdp := l2.st.new nrd
    obtain ⟨ld, eld⟩ : ∃ ld, H3 rd = some (.lst ld) := by
      obtain ⟨rs, _, z, _⟩ := rvd
      exact ⟨_, z⟩
    have eld7 := t7.at_ l6.g1 l6.g2 (t6.at_ l5.g1 l5.g2 (s5 _ _ (s4 _ _ eld)) (fun ps z => nomatch z)) (fun ps z => nomatch z)
    have eld8 := f8.dr.ou rd _ nrdp.1 nrdp.2 eld7
    have nwd7 := nwd.stay eld eld7
    have nwd8 := nwd.stay eld eld8
    have rvd8 := ((LS.refl l7.st l7.g1 l7.g2).dr f8.dr).rows l7.g1 l7.g2 l7.st l2.st nrd nwd7 rvd7
    obtain ⟨rsr, ccr, err7, lrr, _⟩ := rvr7
    have nrrp := (l2.same s3).st.new nrr
    have err8 := f8.dr.ou rr _ nrrp.1 nrrp.2 err7
    have nw1p := l7.st.new f8.nr
    have rgtw : right xs ys (ps2.map (·.2)) 0 0 = true := by
      rw [e82]
      exact cutUp_right l 0 0 (by rw [e81]; exact rgt)
    have lp2 := f8.le
    have hL : lcs xs ys ≤ 100 := Nat.le_trans (lcs_le xs ys) lx
    -- for turn in range(4)
    refine ⟨_, rfl, by decide, by decide, for_range (n := 4) (fun k σ H' => ∃ y8 y9 y10 y11 y12 y13 y14 : Option V, σ = [some (.ref a0), some (.ref p), some (.ref a), some (.ref b), some (.ref rd), some (.ref rr), some (.ref r1), some (.ref rw1), y8, y9, y10, y11, y12, y13, y14] ∧ LS p c T1 T2 H8 H') ⟨none, none, none, none, none, none, none, rfl, LS.refl l8.st l8.g1 l8.g2⟩ ?_ ?_⟩
    · rintro k σ H9 hk ⟨y8, y9, y10, y11, y12, y13, y14, rfl, l9⟩
      have ea9 := l9.at_ l8.g1 l8.g2 ea8 (fun ps z => nomatch z) nap.1 nap.2
      have eb9 := l9.at_ l8.g1 l8.g2 eb8 (fun ps z => nomatch z) nbp.1 nbp.2
      have er9 := l9.at_ l8.g1 l8.g2 er8 (fun ps z => nomatch z) nr1p.1 nr1p.2
      have ew9 := l9.at_ l8.g1 l8.g2 f8.at_ (fun ps z => nomatch z) nw1p.1 nw1p.2
      have st9 := l9.steps l8.g1 l8.g2 l8.st st8
      have sw9 := l9.steps l8.g1 l8.g2 l8.st f8.st
      have rvd9 := l9.rows l8.g1 l8.g2 l8.st l2.st nrd nwd8 rvd8
      -- turned
      refine ⟨_, rfl, _, rfl, p, c, rd, rowsL xs ys, rfl, l9.st, rvd9, by rw [rowsL_len]; exact hL, by rw [rowsL_right.len]; exact lE, fun row hr p hp => by have := (rowsL_mem hr).2 p hp; omega, fun b e => by rw [e]; exact l2.st.new nrd, fun H10 rt R rdd => ?_⟩
      have l10 := l9.dr rdd.dr
      have ea10 := rdd.dr.ou a _ nap.1 nap.2 ea9
      have eb10 := rdd.dr.ou b _ nbp.1 nbp.2 eb9
      have er10 := rdd.dr.ou r1 _ nr1p.1 nr1p.2 er9
      have ew10 := rdd.dr.ou rw1 _ nw1p.1 nw1p.2 ew9
      have st10 := ((LS.refl l9.st l9.g1 l9.g2).dr rdd.dr).steps l9.g1 l9.g2 l9.st st9
      have sw10 := ((LS.refl l9.st l9.g1 l9.g2).dr rdd.dr).steps l9.g1 l9.g2 l9.st sw9
      have rv10 := rdd.rows
      have sm10 : ∀ row ∈ R.map (fun q => q.2.map (·.2)), Small row := fun row hr p hp => by
        obtain ⟨q', hq, rfl⟩ := List.mem_map.mp hr
        obtain ⟨x, hx, rfl⟩ := List.mem_map.mp hp
        exact (rdd.row q' hq).sm x hx
      have lw10 : (R.map fun q => q.2.map (·.2)).flatten.length + (R.map fun q => q.2.map (·.2)).length ≤ 200000 := by
        rw [← rows_wt]
        exact rdd.le
      have rl10 : ∀ row ∈ R.map (fun q => q.2.map (·.2)), row.length ≤ 1000000 := fun row hr => by
        obtain ⟨q', hq, rfl⟩ := List.mem_map.mp hr
        have := mem_wt hq
        have := rdd.le
        rw [List.length_map]
        omega
      generalize R.map (fun q => q.2.map (·.2)) = rows at rv10 sm10 lw10 rl10
      obtain ⟨F1, F2, F3, F4⟩ := rowsD_facts sm10 lw10
      -- kept_before, told
      refine ⟨_, rfl, rt, rowsD rows, rfl, dp_rows rv10, F1, F2, F3, F4, ?_⟩
      refine ⟨_, rfl, _, rfl, _, rfl, a, b, rt, xs, ys, rows, rfl, ea10, eb10, by omega, by omega, rv10, rl10, l10.g1, l10.g2, neT, fun H11 t11 => ?_⟩
      have l11 := l10.tb t11
      have ea11 := t11.at_ l10.g1 l10.g2 ea10 (fun ps z => nomatch z)
      have eb11 := t11.at_ l10.g1 l10.g2 eb10 (fun ps z => nomatch z)
      have er11 := t11.at_ l10.g1 l10.g2 er10 (fun ps z => nomatch z)
      have ew11 := t11.at_ l10.g1 l10.g2 ew10 (fun ps z => nomatch z)
      have st11 := st10.tb l10.g1 l10.g2 t11
      have sw11 := sw10.tb l10.g1 l10.g2 t11
      have rv11 := rv10.tb l10.g1 l10.g2 t11
      dsimp only [tNext, tSeq, tIfS, tAsg, gName, tC]
      refine or_dec (p := False) (q := False ∨ False) (fun R k => ⟨_, rfl, _, _, _, _, true, rfl, .ty _, .base (.bl _), kit_ty (by decide +kernel), _, rfl, to_dec (by simp) (k _ same_refl)⟩)
        (fun _ H12 s12 R k => or_dec (p := False) (q := False) (fun R k => ⟨_, rfl, _, rfl, _, rfl, _, rfl, a, b, rt, xs, ys, rows, rfl, s12 _ _ ea11, s12 _ _ eb11, by omega, by omega, rv11.same s12, by omega, fun H13 s13 => ⟨rfl, _, rfl, to_dec (by simp) (k _ s13)⟩⟩)
          (fun _ H13 s13 R k => ⟨_, rfl, rt, rowsD rows, rfl, dp_rows ((rv11.same s12).same s13), F1, F2, F3, F4, _, rfl, rfl, _, rfl, to_dec (by simp) (k _ same_refl)⟩) k) fun H12 s12 => ite2 (fun h2 => absurd (of_decide_eq_true h2) (by simp)) (fun h2 => ?_)
      have l12 := l11.same s12
      have ea12 := s12 _ _ ea11
      have eb12 := s12 _ _ eb11
      have er12 := s12 _ _ er11
      have ew12 := s12 _ _ ew11
      have st12 := st11.same s12
      have sw12 := sw11.same s12
      have rv12 := rv11.same s12
      -- for row in [steps, worse, worse[:-1]]
      refine ⟨_, rfl, _, rfl, _, rfl, _, rfl, _, rfl, rw1, _, rfl, SqL.of ew12, fun r3 n3 => ?_⟩
      rw [cut_last]
      have s3' := same_new (o := .lst (refs ps2.dropLast)) n3
      refine ⟨by show 3 ≤ sizeLine; omega, fun L nL => ?_⟩
      have sL := same_new (o := .lst [.ref r1, .ref rw1, .ref r3]) nL
      have s13 := same_trans s3' sL
      have l13 := l12.same s13
      have ea13 := s13 _ _ ea12
      have eb13 := s13 _ _ eb12
      have er13 := s13 _ _ er12
      have ew13 := s13 _ _ ew12
      have e313 := sL _ _ (upd_same (H := H12) (a := r3) (o := .lst (refs ps2.dropLast)))
      have eL13 := upd_same (H := upd H12 r3 (.lst (refs ps2.dropLast))) (a := L) (o := .lst [.ref r1, .ref rw1, .ref r3])
      have st13 := st12.same s13
      have sw13 := sw12.same s13
      have rv13 := rv12.same s13
      generalize upd (upd H12 r3 (.lst (refs ps2.dropLast))) L (.lst [.ref r1, .ref rw1, .ref r3]) = H13 at l13 ea13 eb13 er13 ew13 e313 eL13 st13 sw13 rv13
      refine ⟨L, rfl, ⟨_, SqL.of eL13⟩, for_list (xs := [.ref r1, .ref rw1, .ref r3]) (fun j σ H' => ∃ y12 y13 y14 : Option V, σ = [some (.ref a0), some (.ref p), some (.ref a), some (.ref b), some (.ref rd), some (.ref rr), some (.ref r1), some (.ref rw1), some (.int (0 + (k : Int))), some (.ref rt), some (.str (rowsD rows).shown), some (.bl (rightB xs ys rows)), y12, y13, y14] ∧ Tb2 T1 T2 H13 H') ⟨y12, y13, y14, rfl, Tb2.of l13.g1 l13.g2 same_refl⟩ ?_ ?_ ?_⟩
      · rintro j σ H' _ ⟨y12, y13, y14, rfl, t14⟩
        exact SqL.of (t14.at_ l13.g1 l13.g2 eL13 (fun ps z => nomatch z))
      · rintro j x σ H14 hx ⟨y12, y13, y14, rfl, t14⟩
        obtain ⟨rx, psx, rfl, ex, sx, lx2, hR⟩ : ∃ (rx : Addr) (psx : List (Addr × Step)), x = .ref rx ∧ H13 rx = some (.lst (refs psx)) ∧ StepsL H13 psx ∧ psx.length ≤ 2000 ∧ (right xs ys (psx.map (·.2)) 0 0 = true ∨ psx.map (·.2) = (ps2.map (·.2)).dropLast) := by
          have := List.mem_of_getElem? hx
          simp only [List.mem_cons, List.not_mem_nil, or_false] at this
          rcases this with rfl | rfl | rfl
          · exact ⟨r1, ps1, rfl, er13, st13, by omega, .inl rgt⟩
          · exact ⟨rw1, ps2, rfl, ew13, sw13, lp2, .inl rgtw⟩
          · exact ⟨r3, ps2.dropLast, rfl, e313, sw13.sub fun q hq => List.dropLast_subset _ hq, by rw [List.length_dropLast]; omega, .inr (by rw [List.map_dropLast])⟩
        have l14 := l13.tb t14
        have ea14 := t14.at_ l13.g1 l13.g2 ea13 (fun ps z => nomatch z)
        have eb14 := t14.at_ l13.g1 l13.g2 eb13 (fun ps z => nomatch z)
        have ex14 := t14.at_ l13.g1 l13.g2 ex (fun ps z => nomatch z)
        have ew14 := t14.at_ l13.g1 l13.g2 ew13 (fun ps z => nomatch z)
        have sx14 := sx.tb l13.g1 l13.g2 t14
        have sw14 := sw13.tb l13.g1 l13.g2 t14
        have rv14 := rv13.tb l13.g1 l13.g2 t14
        -- said
        refine ⟨_, rfl, _, rfl, _, rfl, _, rfl, a, b, rx, rt, xs, ys, psx, rows, rfl, ea14, eb14, by omega, by omega, ex14, sx14, by omega, rv14, rl10, l14.g1, l14.g2, neT, fun H15 t15 => ?_⟩
        have ex15 := t15.at_ l14.g1 l14.g2 ex14 (fun ps z => nomatch z)
        have ew15 := t15.at_ l14.g1 l14.g2 ew14 (fun ps z => nomatch z)
        have sx15 := sx14.tb l14.g1 l14.g2 t15
        have sw15 := sw14.tb l14.g1 l14.g2 t15
        have rv15 := rv14.tb l14.g1 l14.g2 t15
        have t25 := t14.trans t15
        -- leads
        refine ⟨_, rfl, _, rfl, _, rfl, _, rfl, rw1, _, rfl, SqL.of ew15, fun r4 n4 => ?_⟩
        rw [cut_last]
        have s4' := same_new (o := .lst (refs ps2.dropLast)) n4
        have e416 := upd_same (H := H15) (a := r4) (o := .lst (refs ps2.dropLast))
        have ex16 := s4' _ _ ex15
        have ew16 := s4' _ _ ew15
        have sx16 := sx15.same s4'
        have sw16 := sw15.same s4'
        have rv16 := rv15.same s4'
        have t26 := t25.same s4'
        generalize upd H15 r4 (.lst (refs ps2.dropLast)) = H16 at e416 ex16 ew16 sx16 sw16 rv16 t26
        refine ne_dat (a := psx.map (·.2)) (b := ps2.dropLast.map (·.2)) (dp_steps ex16 sx16) (dp_steps e416 (sw16.sub fun q hq => List.dropLast_subset _ hq)) (by decide) ?_
        have hld := leads_right (ss := psx.map (·.2)) rgtw hR
        rw [← List.map_dropLast, List.length_map] at hld
        refine ⟨_, rfl, ite2 (fun c1 => ?u) (fun c1 => ⟨_, rfl, rw1, _, rfl, .inl (SqL.of ew16), rfl, ?v⟩)⟩
        case' u =>
          obtain ⟨vv, hvv⟩ : ∃ vv, vv = V.bl true := ⟨_, rfl⟩
          rw [← hvv]
          have hv : vv = V.bl (right xs ys (psx.map (·.2)) 0 0) := by rw [hvv, hld, c1, Bool.true_or]
        case' v =>
          obtain ⟨vv, hvv⟩ : ∃ vv, vv = V.bl (decide (V.int (((refs ps2).length : Nat) : Int) = V.int 0)) := ⟨_, rfl⟩
          rw [← hvv]
          have hv : vv = V.bl (right xs ys (psx.map (·.2)) 0 0) := by
            rw [hvv, hld, Bool.eq_false_iff.mpr c1, Bool.false_or, refs_len]
            exact congrArg V.bl (dec_nat (j := 0))
        all_goals
          subst hv
          dsimp only [tNext, tSeq, tIfS, tAsg, gName, tC]
          refine or_dec (p := False) (q := False) (fun R k => ⟨_, rfl, _, _, _, _, true, rfl, .ty _, .base (.bl _), kit_ty (by decide +kernel), _, rfl, to_dec (by simp) (k _ same_refl)⟩)
            (fun _ H17 s17 R kk => ⟨_, rfl, _, rfl, _, rfl, ?_⟩) fun H17 s17 => ite2 (fun h3 => absurd (of_decide_eq_true h3) (by simp)) (fun h3 => ⟨_, _, _, rfl, t26.same s17⟩)
          by_cases b1 : rightB xs ys rows = true
          · rw [b1]
            refine iteT ⟨_, rfl, _, rfl, ?_⟩
            by_cases b2 : right xs ys (psx.map (·.2)) 0 0 = true
            · rw [b2]
              obtain ⟨rsx, ccx, q1, q2, q3⟩ := rv16.same s17
              refine iteT ⟨_, rfl, rx, psx, rfl, s17 _ _ ex16, sx16.same s17, by omega, fun H18 s18 => ⟨_, rfl, rt, _, rfl, .inl (SqL.of (s18 _ _ q1)), rfl, rfl, _, rfl, to_dec ?_ (kk _ s18)⟩⟩
              unfold fewestB
              rw [b1, b2, dec_nat, List.length_map, q2]
              simp
            · rw [Bool.eq_false_iff.mpr b2]
              refine iteF ⟨rfl, _, rfl, to_dec ?_ (kk _ same_refl)⟩
              unfold fewestB
              rw [Bool.eq_false_iff.mpr b2]
              simp
          · rw [Bool.eq_false_iff.mpr b1]
            refine iteF ⟨rfl, _, rfl, to_dec ?_ (kk _ same_refl)⟩
            unfold fewestB
            rw [Bool.eq_false_iff.mpr b1]
            simp
      · rintro σ H14 ⟨y12, y13, y14, rfl, t14⟩
        have l14 := l13.tb t14
        have er14 := t14.at_ l13.g1 l13.g2 er13 (fun ps z => nomatch z)
        have st14 := st13.tb l13.g1 l13.g2 t14
        have rv14 := rv13.tb l13.g1 l13.g2 t14
        dsimp only [tNext, tSeq, tIfS, tAsg, gName, tC]
        refine and_dec (p := rightB xs ys rows = true) (q := False) (fun R k => ⟨_, rfl, _, rfl, to_dec (by cases rightB xs ys rows <;> rfl) (k _ same_refl)⟩) (fun b1 H15 s15 R kk => ?_) fun H15 s15 => ite2 (fun h3 => absurd (of_decide_eq_true h3) (by simp)) (fun h3 => ⟨_, _, _, _, _, _, _, rfl, l14.same s15⟩)
        have kl := kept_le (rightB_iff.mp b1) rgt
        refine ⟨_, rfl, r1, ps1, rfl, s15 _ _ er14, st14.same s15, by omega, fun H16 s16 => ?_⟩
        obtain ⟨rsx, ccx, q1, q2, q3⟩ := (rv14.same s15).same s16
        refine ⟨_, rfl, rt, _, rfl, .inl (SqL.of q1), _, _, rfl, rfl, _, rfl, to_dec ?_ (kk _ s16)⟩
        rw [List.length_map, q2]
        exact decide_eq_decide.mpr ⟨fun z => by omega, fun z => z.elim⟩
    · rintro σ H9 ⟨y8, y9, y10, y11, y12, y13, y14, rfl, l9⟩
      have ea9 := l9.at_ l8.g1 l8.g2 ea8 (fun ps z => nomatch z) nap.1 nap.2
      have eb9 := l9.at_ l8.g1 l8.g2 eb8 (fun ps z => nomatch z) nbp.1 nbp.2
      have err9 := l9.at_ l8.g1 l8.g2 err8 (fun ps z => nomatch z) nrrp.1 nrrp.2
      refine ⟨_, rfl, _, rfl, a, b, xs, ys, rfl, ea9, eb9, by omega, by omega, fun H10 d kvs s10 nd ed hh => ?_⟩
      have v0 := hh 0 0 trivial (Nat.zero_le _) (Nat.zero_le _)
      refine ⟨by show 2 ≤ sizeLine; omega, fun u nu => ⟨d, _, rfl, dget2 (same_new nu _ _ ed) upd_same v0, _, rfl, rr, _, rfl, .inl (SqL.of (same_new nu _ _ (s10 _ _ err9))), rfl, ?_⟩⟩
      have e0 : L xs ys 0 0 = lcs xs ys := by
        unfold L
        rw [List.drop_zero, List.drop_zero]
      rw [e0, List.length_map, lrr, rowsL_len, decide_eq_true rfl]
      exact q _
end
end K15
/-! the end of a law that the caller alone calls, where the program's own defs hold generator expressions -/
namespace GX
open PySem PySem.Spec PyProof.Rows L2 GxR
/-- each def of the view q has an empty table -/
def AllTabs (q : Program) (K : PySem.W.Frag) (mg : Str → Option Value) (h : Heap) : Prop :=
  ∀ (x : Str) (f : Addr), ((recsOf q).any fun e => e.name == x) = true → mg x = some (.ref f) → LamX.OwnTab K f h
theorem walk_tabsC {l : PySem.W.OpenLaw} {n : Nat} {q : Program} {loose : List Str} {XP : (Str → Option Value) → Heap → Prop} {YP : World → Heap → Prop} {d : DefRec} {K : Params → PySem.W.Frag} {x : Str}
    (hn : l.most = some n) (hn2 : n ≤ sizeLine) (hdf : d.params.defaults = []) (hY : ∀ (w : World) (h : Heap), YP w h → (K w.params).In h)
    (F : ∀ (w : World) (mg : Str → Option Value) (fa : Addr) (h : Heap), YP w h → (K w.params).In h → h.Ns mainGlobals mg → mg d.name = some (.ref fa) → AllTabs q (K w.params) mg h → LawC l w (K w.params) n x mg fa h) :
    PySem.W.WalkO q loose XP YP l.row.toRowW d [] (fun f vs => PySem.call f vs) := by
  refine Att.attach_callB hn hdf fun w s₀ s₁ mg mb fa o pm cd doc a vs ns G Y ho hd hcd hmg hobj hints hlen hbits hg => ?_
  have KX := hY w _ Y
  have tabs : AllTabs q (K w.params) mg s₁.heap := by
    intro y f hy hf c P o1 f1 e dd ws sl i1 i2 i3 i4 i5
    obtain ⟨r, hr, hr2⟩ := List.any_eq_true.mp hy
    have nm : r.name = y := beq_iff_eq.mp hr2
    obtain ⟨a2, o2, f2, c2, P2, j1, j2, j3, j4, j5, ⟨oc, vc, t1, _, t3, t4⟩, empty⟩ := G.T.tab r hr
    rw [nm, hf] at j1
    cases j1
    have at1 := KX _ _ i1
    rw [at1] at j2
    cases j2
    rw [i2] at j3
    cases j3
    rw [i3] at j4
    cases j4
    have at2 := KX _ _ i4
    rw [at2] at t1
    cases t1
    cases t3
    rw [i5] at t4
    cases t4
    exact empty
  obtain ⟨fd, cs, sp, hT, nT, C, hb, hsp, hF⟩ := F w mg fa _ Y KX G.T.g hmg tabs
  exact law_callC KX G.T.g G.T.b G.T.builtins G.T.nolimit hg hT nT C G.T.bmain hobj hints (Nat.le_trans hlen hn2) hF hb fun H hH hS => hsp H a ns hlen hbits hH hS
end GX
namespace K15
open PySem PySem.Spec PyProof.Rows L2 QR
theorem all_mk {l : PySem.W.OpenLaw} {q : Program} {w : World} {K : PySem.W.Frag} {h : Heap} {mg : Str → Option Value} {fa : Addr} (X : K.In h) (G : h.Ns mainGlobals mg) (hfa : mg "law" = some (.ref fa)) (tabs : GX.AllTabs q K mg h) (hrecT1 : ((recsOf q).any fun e => e.name == ("is_level" : Str)) = true) (hrecT2 : ((recsOf q).any fun e => e.name == ("levels_right" : Str)) = true)
    {fS fD fP fLL fVL fKB fEP fLV fSB fFE fTU fIL fLR fSR fKP fFW fMO fRT fLAW : Addr} {odS anS odD anD odP anP odLL anLL odVL anVL odKB anKB odEP anEP odLV anLV odSB anSB odFE anFE odTU anTU odIL anIL odLR anLR odSR anSR odKP anKP odFW anFW odMO anMO odRT anRT odLAW anLAW : Option Addr} {slS slD slP slLL slVL slKB slEP slLV slSB slFE slTU slIL slLR slSR slKP slFW slMO slRT slLAW : Array (Option Value)}
    {ocS kVS dcS pmS ctS cdS ocD kVD dcD pmD ctD cdD ocP kVP dcP pmP ctP cdP ocLL kVLL dcLL pmLL ctLL cdLL ocVL kVVL dcVL pmVL ctVL cdVL ocKB kVKB dcKB pmKB ctKB cdKB ocEP kVEP dcEP pmEP ctEP cdEP ocLV kVLV dcLV pmLV ctLV cdLV ocSB kVSB dcSB pmSB ctSB cdSB ocFE kVFE dcFE pmFE ctFE cdFE ocTU kVTU dcTU pmTU ctTU cdTU ocIL kVIL dcIL pmIL ctIL ocLR kVLR dcLR pmLR ctLR ocSR kVSR dcSR pmSR ctSR cdSR ocKP kVKP dcKP pmKP ctKP cdKP ocFW kVFW dcFW pmFW ctFW cdFW ocMO kVMO dcMO pmMO ctMO cdMO ocRT kVRT dcRT pmRT ctRT cdRT ocLAW kVLAW dcLAW pmLAW ctLAW cdLAW : Value}
    {cIL T1 cLR T2 : Addr} {eIL eLR : Value} {ddIL ddLR : Option Addr} {vsIL vsLR : Array Value} {ssIL ssLR : Array (Option Value)}
    (aS : PySem.W.nsIn K mainGlobals "_law_state" = some (some (.ref fS)))
    (lS : K.lookup fS = some ⟨ocS, odS, .func (PySem.W.fnOf "_law_state" "_law_state" (defArgs sState) (defBody sState) (defScope sState) .none kVS dcS pmS anS cdS ctS), slS⟩)
    (cS1 : PySem.W.codeIn K cdS "_law_state" = true) (kS1 : PySem.W.keepIn K (.ref fS) = true)
    (aD : PySem.W.nsIn K mainGlobals "_law_draw" = some (some (.ref fD)))
    (lD : K.lookup fD = some ⟨ocD, odD, .func (PySem.W.fnOf "_law_draw" "_law_draw" (defArgs sDraw) (defBody sDraw) (defScope sDraw) .none kVD dcD pmD anD cdD ctD), slD⟩)
    (cD1 : PySem.W.codeIn K cdD "_law_draw" = true) (kD1 : PySem.W.keepIn K (.ref fD) = true)
    (aP : PySem.W.nsIn K mainGlobals "_law_pick" = some (some (.ref fP)))
    (lP : K.lookup fP = some ⟨ocP, odP, .func (PySem.W.fnOf "_law_pick" "_law_pick" (defArgs sPick) (defBody sPick) (defScope sPick) .none kVP dcP pmP anP cdP ctP), slP⟩)
    (cP1 : PySem.W.codeIn K cdP "_law_pick" = true) (kP1 : PySem.W.keepIn K (.ref fP) = true)
    (aLL : PySem.W.nsIn K mainGlobals "_law_lists" = some (some (.ref fLL)))
    (lLL : K.lookup fLL = some ⟨ocLL, odLL, .func (PySem.W.fnOf "_law_lists" "_law_lists" (defArgs sLL) (defBody sLL) (defScope sLL) .none kVLL dcLL pmLL anLL cdLL ctLL), slLL⟩)
    (cLL1 : PySem.W.codeIn K cdLL "_law_lists" = true) (kLL1 : PySem.W.keepIn K (.ref fLL) = true)
    (aVL : PySem.W.nsIn K mainGlobals "_law_levels" = some (some (.ref fVL)))
    (lVL : K.lookup fVL = some ⟨ocVL, odVL, .func (PySem.W.fnOf "_law_levels" "_law_levels" (defArgs sVL) (defBody sVL) (defScope sVL) .none kVVL dcVL pmVL anVL cdVL ctVL), slVL⟩)
    (cVL1 : PySem.W.codeIn K cdVL "_law_levels" = true) (kVL1 : PySem.W.keepIn K (.ref fVL) = true)
    (aKB : PySem.W.nsIn K mainGlobals "kept_behind" = some (some (.ref fKB)))
    (lKB : K.lookup fKB = some ⟨ocKB, odKB, .func (PySem.W.fnOf "kept_behind" "kept_behind" (defArgs sKB) (defBody sKB) (defScope sKB) .none kVKB dcKB pmKB anKB cdKB ctKB), slKB⟩)
    (cKB1 : PySem.W.codeIn K cdKB "kept_behind" = true) (kKB1 : PySem.W.keepIn K (.ref fKB) = true)
    (aEP : PySem.W.nsIn K mainGlobals "equal_pairs" = some (some (.ref fEP)))
    (lEP : K.lookup fEP = some ⟨ocEP, odEP, .func (PySem.W.fnOf "equal_pairs" "equal_pairs" (defArgs sEP) (defBody sEP) (defScope sEP) .none kVEP dcEP pmEP anEP cdEP ctEP), slEP⟩)
    (cEP1 : PySem.W.codeIn K cdEP "equal_pairs" = true) (kEP1 : PySem.W.keepIn K (.ref fEP) = true)
    (aLV : PySem.W.nsIn K mainGlobals "levels" = some (some (.ref fLV)))
    (lLV : K.lookup fLV = some ⟨ocLV, odLV, .func (PySem.W.fnOf "levels" "levels" (defArgs sLV) (defBody sLV) (defScope sLV) .none kVLV dcLV pmLV anLV cdLV ctLV), slLV⟩)
    (cLV1 : PySem.W.codeIn K cdLV "levels" = true) (kLV1 : PySem.W.keepIn K (.ref fLV) = true)
    (aSB : PySem.W.nsIn K mainGlobals "steps_between" = some (some (.ref fSB)))
    (lSB : K.lookup fSB = some ⟨ocSB, odSB, .func (PySem.W.fnOf "steps_between" "steps_between" (defArgs sSB) (defBody sSB) (defScope sSB) .none kVSB dcSB pmSB anSB cdSB ctSB), slSB⟩)
    (cSB1 : PySem.W.codeIn K cdSB "steps_between" = true) (kSB1 : PySem.W.keepIn K (.ref fSB) = true)
    (aFE : PySem.W.nsIn K mainGlobals "_law_fewer" = some (some (.ref fFE)))
    (lFE : K.lookup fFE = some ⟨ocFE, odFE, .func (PySem.W.fnOf "_law_fewer" "_law_fewer" (defArgs sFE) (defBody sFE) (defScope sFE) .none kVFE dcFE pmFE anFE cdFE ctFE), slFE⟩)
    (cFE1 : PySem.W.codeIn K cdFE "_law_fewer" = true) (kFE1 : PySem.W.keepIn K (.ref fFE) = true)
    (aTU : PySem.W.nsIn K mainGlobals "_law_turned" = some (some (.ref fTU)))
    (lTU : K.lookup fTU = some ⟨ocTU, odTU, .func (PySem.W.fnOf "_law_turned" "_law_turned" (defArgs sTU) (defBody sTU) (defScope sTU) .none kVTU dcTU pmTU anTU cdTU ctTU), slTU⟩)
    (cTU1 : PySem.W.codeIn K cdTU "_law_turned" = true) (kTU1 : PySem.W.keepIn K (.ref fTU) = true)
    (aIL : PySem.W.nsIn K mainGlobals "is_level" = some (some (.ref fIL)))
    (lIL : K.lookup fIL = some ⟨ocIL, odIL, .func (PySem.W.fnOf "is_level" "is_level" (defArgs sIL) (defBody sIL) (defScope sIL) .none kVIL dcIL pmIL anIL (.ref cIL) ctIL), slIL⟩)
    (cIL1 : PySem.W.codeIn K (.ref cIL) "is_level" = true) (kIL1 : PySem.W.keepIn K (.ref fIL) = true)
    (aLR : PySem.W.nsIn K mainGlobals "levels_right" = some (some (.ref fLR)))
    (lLR : K.lookup fLR = some ⟨ocLR, odLR, .func (PySem.W.fnOf "levels_right" "levels_right" (defArgs sLR) (defBody sLR) (defScope sLR) .none kVLR dcLR pmLR anLR (.ref cLR) ctLR), slLR⟩)
    (cLR1 : PySem.W.codeIn K (.ref cLR) "levels_right" = true) (kLR1 : PySem.W.keepIn K (.ref fLR) = true)
    (aSR : PySem.W.nsIn K mainGlobals "script_right" = some (some (.ref fSR)))
    (lSR : K.lookup fSR = some ⟨ocSR, odSR, .func (PySem.W.fnOf "script_right" "script_right" (defArgs sSR) (defBody sSR) (defScope sSR) .none kVSR dcSR pmSR anSR cdSR ctSR), slSR⟩)
    (cSR1 : PySem.W.codeIn K cdSR "script_right" = true) (kSR1 : PySem.W.keepIn K (.ref fSR) = true)
    (aKP : PySem.W.nsIn K mainGlobals "kept" = some (some (.ref fKP)))
    (lKP : K.lookup fKP = some ⟨ocKP, odKP, .func (PySem.W.fnOf "kept" "kept" (defArgs sKP) (defBody sKP) (defScope sKP) .none kVKP dcKP pmKP anKP cdKP ctKP), slKP⟩)
    (cKP1 : PySem.W.codeIn K cdKP "kept" = true) (kKP1 : PySem.W.keepIn K (.ref fKP) = true)
    (aFW : PySem.W.nsIn K mainGlobals "fewest" = some (some (.ref fFW)))
    (lFW : K.lookup fFW = some ⟨ocFW, odFW, .func (PySem.W.fnOf "fewest" "fewest" (defArgs sFW) (defBody sFW) (defScope sFW) .none kVFW dcFW pmFW anFW cdFW ctFW), slFW⟩)
    (cFW1 : PySem.W.codeIn K cdFW "fewest" = true) (kFW1 : PySem.W.keepIn K (.ref fFW) = true)
    (aMO : PySem.W.nsIn K mainGlobals "_law_most" = some (some (.ref fMO)))
    (lMO : K.lookup fMO = some ⟨ocMO, odMO, .func (PySem.W.fnOf "_law_most" "_law_most" (defArgs sMO) (defBody sMO) (defScope sMO) .none kVMO dcMO pmMO anMO cdMO ctMO), slMO⟩)
    (cMO1 : PySem.W.codeIn K cdMO "_law_most" = true) (kMO1 : PySem.W.keepIn K (.ref fMO) = true)
    (aRT : PySem.W.nsIn K mainGlobals "_law_right" = some (some (.ref fRT)))
    (lRT : K.lookup fRT = some ⟨ocRT, odRT, .func (PySem.W.fnOf "_law_right" "_law_right" (defArgs sRT) (defBody sRT) (defScope sRT) .none kVRT dcRT pmRT anRT cdRT ctRT), slRT⟩)
    (cRT1 : PySem.W.codeIn K cdRT "_law_right" = true) (kRT1 : PySem.W.keepIn K (.ref fRT) = true)
    (aLAW : PySem.W.nsIn K mainGlobals "law" = some (some (.ref fLAW)))
    (lLAW : K.lookup fLAW = some ⟨ocLAW, odLAW, .func (PySem.W.fnOf "law" "law" (defArgs sLaw) (defBody sLaw) (defScope sLaw) .none kVLAW dcLAW pmLAW anLAW cdLAW ctLAW), slLAW⟩)
    (cLAW1 : PySem.W.codeIn K cdLAW "law" = true) (kLAW1 : PySem.W.keepIn K (.ref fLAW) = true)
    (tILc : K.lookup cIL = some ⟨eIL, ddIL, .fields vsIL, ssIL⟩) (tILv : vsIL[11]? = some (.ref T1)) (tILh : PySem.W.codeHdIn K cIL T1 = true) (tILn : K.lookup T1 = none)
    (tLRc : K.lookup cLR = some ⟨eLR, ddLR, .fields vsLR, ssLR⟩) (tLRv : vsLR[11]? = some (.ref T2)) (tLRh : PySem.W.codeHdIn K cLR T2 = true) (tLRn : K.lookup T2 = none)
    (neT1T2 : T1 ≠ T2)
    (z_len : PySem.W.nsIn K mainGlobals "len" = some none)
    (z_range : PySem.W.nsIn K mainGlobals "range" = some none)
    (z_reversed : PySem.W.nsIn K mainGlobals "reversed" = some none)
    (z_max : PySem.W.nsIn K mainGlobals "max" = some none)
    (z_int : PySem.W.nsIn K mainGlobals "int" = some none)
    (z_abs : PySem.W.nsIn K mainGlobals "abs" = some none)
    (z_list : PySem.W.nsIn K mainGlobals "list" = some none)
    (z_isinstance : PySem.W.nsIn K mainGlobals "isinstance" = some none)
    (z_bool : PySem.W.nsIn K mainGlobals "bool" = some none)
    (z_sorted : PySem.W.nsIn K mainGlobals "sorted" = some none)
    (z_enumerate : PySem.W.nsIn K mainGlobals "enumerate" = some none)
    (z_all : PySem.W.nsIn K mainGlobals "all" = some none)
    (z_repr : PySem.W.nsIn K mainGlobals "repr" = some none)
    : GX.LawC l w K 63 "script" mg fa h := by
  have e := hfa.symm.trans (PySem.W.mg_of X G aLAW)
  cases e
  have FS := fun_mk (st := sState) lS cS1 kS1
  have bS := FS.binds (ps := ["script"]) fun _ _ _ _ _ _ us hl => match us, hl with | [_], _ => rfl
  have gS := PySem.W.mg_of X G aS
  have FD := fun_mk (st := sDraw) lD cD1 kD1
  have bD := FD.binds (ps := ["state", "many"]) fun _ _ _ _ _ _ us hl => match us, hl with | [_, _], _ => rfl
  have gD := PySem.W.mg_of X G aD
  have FP := fun_mk (st := sPick) lP cP1 kP1
  have bP := FP.binds (ps := ["state", "row"]) fun _ _ _ _ _ _ us hl => match us, hl with | [_, _], _ => rfl
  have gP := PySem.W.mg_of X G aP
  have FLL := fun_mk (st := sLL) lLL cLL1 kLL1
  have bLL := FLL.binds (ps := ["state"]) fun _ _ _ _ _ _ us hl => match us, hl with | [_], _ => rfl
  have gLL := PySem.W.mg_of X G aLL
  have FVL := fun_mk (st := sVL) lVL cVL1 kVL1
  have bVL := FVL.binds (ps := ["one", "other"]) fun _ _ _ _ _ _ us hl => match us, hl with | [_, _], _ => rfl
  have gVL := PySem.W.mg_of X G aVL
  have FKB := fun_mk (st := sKB) lKB cKB1 kKB1
  have bKB := FKB.binds (ps := ["one", "other"]) fun _ _ _ _ _ _ us hl => match us, hl with | [_, _], _ => rfl
  have gKB := PySem.W.mg_of X G aKB
  have FEP := fun_mk (st := sEP) lEP cEP1 kEP1
  have bEP := FEP.binds (ps := ["one", "other"]) fun _ _ _ _ _ _ us hl => match us, hl with | [_, _], _ => rfl
  have gEP := PySem.W.mg_of X G aEP
  have FLV := fun_mk (st := sLV) lLV cLV1 kLV1
  have bLV := FLV.binds (ps := ["one", "other"]) fun _ _ _ _ _ _ us hl => match us, hl with | [_, _], _ => rfl
  have gLV := PySem.W.mg_of X G aLV
  have FSB := fun_mk (st := sSB) lSB cSB1 kSB1
  have bSB := FSB.binds (ps := ["one", "other"]) fun _ _ _ _ _ _ us hl => match us, hl with | [_, _], _ => rfl
  have gSB := PySem.W.mg_of X G aSB
  have FFE := fun_mk (st := sFE) lFE cFE1 kFE1
  have bFE := FFE.binds (ps := ["state", "steps"]) fun _ _ _ _ _ _ us hl => match us, hl with | [_, _], _ => rfl
  have gFE := PySem.W.mg_of X G aFE
  have FTU := fun_mk (st := sTU) lTU cTU1 kTU1
  have bTU := FTU.binds (ps := ["state", "rows"]) fun _ _ _ _ _ _ us hl => match us, hl with | [_, _], _ => rfl
  have gTU := PySem.W.mg_of X G aTU
  have bIL : Binds K (PySem.W.fnOf "is_level" "is_level" (defArgs sIL) (defBody sIL) (defScope sIL) .none kVIL dcIL pmIL anIL (.ref cIL) ctIL) ["row"] [] := .all fun us hl => match us, hl with | [_], _ => rfl
  have gIL := PySem.W.mg_of X G aIL
  have bLR : Binds K (PySem.W.fnOf "levels_right" "levels_right" (defArgs sLR) (defBody sLR) (defScope sLR) .none kVLR dcLR pmLR anLR (.ref cLR) ctLR) ["one", "other", "rows"] [] := .all fun us hl => match us, hl with | [_, _, _], _ => rfl
  have gLR := PySem.W.mg_of X G aLR
  have FSR := fun_mk (st := sSR) lSR cSR1 kSR1
  have bSR := FSR.binds (ps := ["one", "other", "steps"]) fun _ _ _ _ _ _ us hl => match us, hl with | [_, _, _], _ => rfl
  have gSR := PySem.W.mg_of X G aSR
  have FKP := fun_mk (st := sKP) lKP cKP1 kKP1
  have bKP := FKP.binds (ps := ["steps"]) fun _ _ _ _ _ _ us hl => match us, hl with | [_], _ => rfl
  have gKP := PySem.W.mg_of X G aKP
  have FFW := fun_mk (st := sFW) lFW cFW1 kFW1
  have bFW := FFW.binds (ps := ["one", "other", "steps", "rows"]) fun _ _ _ _ _ _ us hl => match us, hl with | [_, _, _, _], _ => rfl
  have gFW := PySem.W.mg_of X G aFW
  have FMO := fun_mk (st := sMO) lMO cMO1 kMO1
  have bMO := FMO.binds (ps := ["one", "other"]) fun _ _ _ _ _ _ us hl => match us, hl with | [_, _], _ => rfl
  have gMO := PySem.W.mg_of X G aMO
  have FRT := fun_mk (st := sRT) lRT cRT1 kRT1
  have bRT := FRT.binds (ps := ["one", "other", "rows"]) fun _ _ _ _ _ _ us hl => match us, hl with | [_, _, _], _ => rfl
  have gRT := PySem.W.mg_of X G aRT
  have gLAW := PySem.W.mg_of X G aLAW
  have m_len := PySem.W.mg_none_of X G z_len
  have m_range := PySem.W.mg_none_of X G z_range
  have m_reversed := PySem.W.mg_none_of X G z_reversed
  have m_max := PySem.W.mg_none_of X G z_max
  have m_int := PySem.W.mg_none_of X G z_int
  have m_abs := PySem.W.mg_none_of X G z_abs
  have m_list := PySem.W.mg_none_of X G z_list
  have m_isinstance := PySem.W.mg_none_of X G z_isinstance
  have m_bool := PySem.W.mg_none_of X G z_bool
  have m_sorted := PySem.W.mg_none_of X G z_sorted
  have m_enumerate := PySem.W.mg_none_of X G z_enumerate
  have m_all := PySem.W.mg_none_of X G z_all
  have m_repr := PySem.W.mg_none_of X G z_repr
  have emIL : h.get? T1 = some { cls := .none, data := .fields #[] } := tabs "is_level" fIL hrecT1 gIL cIL T1 _ _ _ _ _ _ lIL rfl rfl tILc tILv
  have emLR : h.get? T2 = some { cls := .none, data := .fields #[] } := tabs "levels_right" fLR hrecT2 gLR cLR T2 _ _ _ _ _ _ lLR rfl rfl tLRc tLRv
  have all_ : ∀ {P : Addr × Addr → Prop}, P (cIL, T1) → P (cLR, T2) →  (∀ p ∈ ([(cIL, T1), (cLR, T2)] : List (Addr × Addr)), P p) := fun xIL xLR p hp => by
    simp only [List.mem_cons, List.not_mem_nil, or_false] at hp
    rcases hp with rfl | rfl
    · exact xIL
    · exact xLR
  refine ⟨PySem.W.fnOf "law" "law" (defArgs sLaw) (defBody sLaw) (defScope sLaw) .none kVLAW dcLAW pmLAW anLAW cdLAW ctLAW, [(cIL, T1), (cLR, T2)], spLaw K T1 T2, all_ emIL emLR, all_ tILn tLRn, all_ (PySem.W.codeHd_of_K X tILh) (PySem.W.codeHd_of_K X tLRh), fun s v => .of_eq rfl, ?_, ?_⟩
  · intro H a ns hl hbits hH hS
    have qIL := hH (cIL, T1) (by simp)
    have qLR := hH (cLR, T2) (by simp)
    exact ⟨a, ns, rfl, hS, hl, ⟨#[], qIL, trivial⟩, ⟨#[], qLR, trivial⟩, neT1T2, fun _ => rfl⟩
  · intro base _ _ hT
    have TBIL := hT (cIL, T1) (by simp)
    have TBLR := hT (cLR, T2) (by simp)
    have GS := ok_state (P := l.prog) (w := w) (base := base) FS m_abs m_int
    have GD := ok_draw (P := l.prog) (w := w) (base := base) FD m_len m_int
    have GP := ok_pick (P := l.prog) (w := w) (base := base) FP GD bD gD kD1 m_len
    have GLL := ok_LL (P := l.prog) (w := w) (base := base) FLL GP bP gP kP1 GD bD gD kD1 m_range
    have GVL := ok_VL (P := l.prog) (w := w) (base := base) FVL m_len m_range m_max
    have GKB := ok_KB (P := l.prog) (w := w) (base := base) FKB m_len m_range m_reversed m_max
    have GEP := ok_EP (P := l.prog) (w := w) (base := base) FEP m_enumerate
    have GLV := ok_LV (P := l.prog) (w := w) (base := base) FLV GKB bKB gKB kKB1 GEP bEP gEP kEP1 m_len m_range
    have GSB := ok_SB (P := l.prog) (w := w) (base := base) FSB GKB bKB gKB kKB1 m_len
    have GFE := ok_FE (P := l.prog) (w := w) (base := base) FFE GD bD gD kD1
    have GTU := ok_TU (P := l.prog) (w := w) (base := base) FTU GD bD gD kD1 GP bP gP kP1 m_len m_range m_list
    have GIL := ok_IL (P := l.prog) (w := w) (base := base) lIL cIL1 TBIL m_len m_range m_all m_sorted
    have GLR := ok_LR (P := l.prog) (w := w) (base := base) (T1 := T1) lLR cLR1 TBLR GEP bEP gEP kEP1 GIL bIL gIL kIL1 m_all
    have GSR := ok_SR (P := l.prog) (w := w) (base := base) FSR m_len
    have GKP := ok_KP (P := l.prog) (w := w) (base := base) FKP m_len
    have GFW := ok_FW (P := l.prog) (w := w) (base := base) (T1 := T1) (T2 := T2) FFW GSR bSR gSR kSR1 GLR bLR gLR kLR1 GKP bKP gKP kKP1 m_len
    have GMO := ok_MO (P := l.prog) (w := w) (base := base) FMO m_len m_range m_max
    have GRT := ok_RT (P := l.prog) (w := w) (base := base) FRT m_len
    exact ok_LAW lLAW cLAW1 GS bS gS kS1 GLL bLL gLL kLL1 GVL bVL gVL kVL1 GLV bLV gLV kLV1 GSB bSB gSB kSB1 GLR bLR gLR kLR1 GFW bFW gFW kFW1 GFE bFE gFE kFE1 GTU bTU gTU kTU1 GRT bRT gRT kRT1 GKP bKP gKP kKP1 GMO bMO gMO kMO1 m_len m_range m_repr m_isinstance m_bool
end K15
open PySem PySem.W PyProof.Rows
set_option maxRecDepth 100000 in
set_option maxHeartbeats 0 in
theorem PySem.Challenge.cw_quiltward_k16_levels_show_the_fewest_holds : PySem.Challenge.rw_quiltward_k16_levels_show_the_fewest.Holds := by
  w_on; o_law; k_head; (case hw => w_witness2)
  k_fill
  refine GX.walk_tabsC (l := PySem.Challenge.rw_quiltward_k16_levels_show_the_fewest) (n := 63) (x := "script") rfl (by decide) rfl (fun w h Y => PySem.W.kIn_of Y) ?F
  case F =>
    intro w mg fa h Y KX G hmg tabs
    refine' K15.all_mk KX G hmg tabs ?hrecT1 ?hrecT2 ?aS ?lS ?cS1 ?kS1 ?aD ?lD ?cD1 ?kD1 ?aP ?lP ?cP1 ?kP1 ?aLL ?lLL ?cLL1 ?kLL1 ?aVL ?lVL ?cVL1 ?kVL1 ?aKB ?lKB ?cKB1 ?kKB1 ?aEP ?lEP ?cEP1 ?kEP1 ?aLV ?lLV ?cLV1 ?kLV1 ?aSB ?lSB ?cSB1 ?kSB1 ?aFE ?lFE ?cFE1 ?kFE1 ?aTU ?lTU ?cTU1 ?kTU1 ?aIL ?lIL ?cIL1 ?kIL1 ?aLR ?lLR ?cLR1 ?kLR1 ?aSR ?lSR ?cSR1 ?kSR1 ?aKP ?lKP ?cKP1 ?kKP1 ?aFW ?lFW ?cFW1 ?kFW1 ?aMO ?lMO ?cMO1 ?kMO1 ?aRT ?lRT ?cRT1 ?kRT1 ?aLAW ?lLAW ?cLAW1 ?kLAW1 ?tILc ?tILv ?tILh ?tILn ?tLRc ?tLRv ?tLRh ?tLRn ?neT1T2 ?z_len ?z_range ?z_reversed ?z_max ?z_int ?z_abs ?z_list ?z_isinstance ?z_bool ?z_sorted ?z_enumerate ?z_all ?z_repr
    (case hrecT1 => decide +kernel)
    (case hrecT2 => decide +kernel)
    (case aS => k_is)
    (case lS => k_is)
    (case cS1 => k_is)
    (case kS1 => k_is)
    (case aD => k_is)
    (case lD => k_is)
    (case cD1 => k_is)
    (case kD1 => k_is)
    (case aP => k_is)
    (case lP => k_is)
    (case cP1 => k_is)
    (case kP1 => k_is)
    (case aLL => k_is)
    (case lLL => k_is)
    (case cLL1 => k_is)
    (case kLL1 => k_is)
    (case aVL => k_is)
    (case lVL => k_is)
    (case cVL1 => k_is)
    (case kVL1 => k_is)
    (case aKB => k_is)
    (case lKB => k_is)
    (case cKB1 => k_is)
    (case kKB1 => k_is)
    (case aEP => k_is)
    (case lEP => k_is)
    (case cEP1 => k_is)
    (case kEP1 => k_is)
    (case aLV => k_is)
    (case lLV => k_is)
    (case cLV1 => k_is)
    (case kLV1 => k_is)
    (case aSB => k_is)
    (case lSB => k_is)
    (case cSB1 => k_is)
    (case kSB1 => k_is)
    (case aFE => k_is)
    (case lFE => k_is)
    (case cFE1 => k_is)
    (case kFE1 => k_is)
    (case aTU => k_is)
    (case lTU => k_is)
    (case cTU1 => k_is)
    (case kTU1 => k_is)
    (case aIL => k_is)
    (case lIL => k_is)
    (case cIL1 => k_is)
    (case kIL1 => k_is)
    (case aLR => k_is)
    (case lLR => k_is)
    (case cLR1 => k_is)
    (case kLR1 => k_is)
    (case aSR => k_is)
    (case lSR => k_is)
    (case cSR1 => k_is)
    (case kSR1 => k_is)
    (case aKP => k_is)
    (case lKP => k_is)
    (case cKP1 => k_is)
    (case kKP1 => k_is)
    (case aFW => k_is)
    (case lFW => k_is)
    (case cFW1 => k_is)
    (case kFW1 => k_is)
    (case aMO => k_is)
    (case lMO => k_is)
    (case cMO1 => k_is)
    (case kMO1 => k_is)
    (case aRT => k_is)
    (case lRT => k_is)
    (case cRT1 => k_is)
    (case kRT1 => k_is)
    (case aLAW => k_is)
    (case lLAW => k_is)
    (case cLAW1 => k_is)
    (case kLAW1 => k_is)
    (case tILc => k_is)
    (case tILv => rfl)
    (case tILh => first | rfl | kernel_rfl)
    (case tILn => first | rfl | kernel_rfl)
    (case tLRc => k_is)
    (case tLRv => rfl)
    (case tLRh => first | rfl | kernel_rfl)
    (case tLRn => first | rfl | kernel_rfl)
    (case neT1T2 => first | decide | (intro z; cases z))
    (case z_len => k_is)
    (case z_range => k_is)
    (case z_reversed => k_is)
    (case z_max => k_is)
    (case z_int => k_is)
    (case z_abs => k_is)
    (case z_list => k_is)
    (case z_isinstance => k_is)
    (case z_bool => k_is)
    (case z_sorted => k_is)
    (case z_enumerate => k_is)
    (case z_all => k_is)
    (case z_repr => k_is)
