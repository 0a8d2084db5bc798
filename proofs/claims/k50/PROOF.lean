import PyProof.Rows.All
import Wide.All
import OpenK.AllK
import Wide.FinOn
import PySem.Challenge.RW_quiltward_k50_labels_and_their_order
import HandS.ForSpec
import HandS.ForMost
import HandS.RevRange
import HandS.Style
import HandS.More
import HandS.TupLe
import HandS.StrMore
import HandS.IsInst
import HandS.Wide
import HandS.TupMul
import KE.DataEq
import KE.Datum
import KE.GoesEnum
import PyProof.Draws
import PyProof.EnumMake
import PyProof.StrOps2
import PyProof.StrLawsChain
import PyProof.StrLawsTight
import HandS.Walk
import HandS.Comp
import HandS.AnyAll
import PyProof.GenQ
import PyProof.ToksMono
import HandS.Dict
import HandS.DictTup
import HandS.DictComp
import HandS.TupLen
import PyProof.DictMoreH
import PyProof.DictTruth
import HandS.EndTab
import PyProof.ReprRoads
import HandS.EndOwn
import KE.DataCmp
import HandS.TupAny
import HandS.Text
import KE.KDictKeyed
import KE.KeyNested
import HandS.Iter
import KE.KDictCopyH
import KE.SortData
import PyProof.Transfer
import HandS.TupSets
import HandS.SetFor
import HandS.SortInts
import PyProof.ReprBulk
set_option Elab.async false
set_option linter.all false
set_option maxRecDepth 100000
set_option maxHeartbeats 4000000
/-! rules of my own over the hand layer: text * int, enumerate(text) -/
namespace TR
open PySem PySem.Spec PyProof.Rows L2
abbrev Sg (l : List Nat) : Str := ⟨l.toArray⟩
abbrev tl (s : Str) : List Nat := s.cps.toList
theorem sg_tl (s : Str) : Sg (tl s) = s := rfl
theorem ext_tl {a b : Str} (h : tl a = tl b) : a = b := by
  cases a
  cases b
  exact congrArg Str.mk (Array.toList_inj.mp h)
theorem len_tl (s : Str) : s.length = (tl s).length := rfl
/-! ### text * int -/
def repL (l : List Nat) (k : Int) : List Nat := (List.replicate k.toNat l).flatten
def rRepS : R2 := fun x y H Q => ∃ (s : Str) (k : Int), x = .str s ∧ y = .int k ∧ k ≤ 1000 ∧ -1000 ≤ k ∧ s.length ≤ 1000 ∧ Q (.str (Sg (repL (tl s) k))) H
theorem fold_cps (x : Array Nat) : ∀ (m : Nat) (b : Array Nat), ((List.replicate m x).foldl (· ++ ·) b).toList = b.toList ++ (List.replicate m x.toList).flatten
  | 0, b => by simp
  | m + 1, b => by
    rw [List.replicate_succ, List.foldl_cons, fold_cps x m, List.replicate_succ, List.flatten_cons, Array.toList_append, List.append_assoc]
theorem op_repS {X : Cx} : OpR X (binaryOp .Mult) rRepS := by
  intro pins s σ H x y v u Q I rx ry h
  obtain ⟨i, k, rfl, rfl, h1, h2, hz, q⟩ := h
  obtain ⟨t, rfl⟩ := rx
  obtain ⟨t', rfl⟩ := ry
  have hm : (i.length : Int) * k ≤ 1000000 := by
    by_cases kz : 0 ≤ k
    · have a1 : (i.length : Int) * k ≤ 1000 * k := Int.mul_le_mul_of_nonneg_right (by omega) kz
      omega
    · have a1 := Int.mul_nonneg (show (0 : Int) ≤ i.length by omega) (show (0 : Int) ≤ -k by omega)
      rw [Int.mul_neg] at a1
      omega
  refine P.mul_str (by
    rw [decide_eq_false (by omega : ¬ k < -(2 ^ 63 : Int)), decide_eq_false (by omega : ¬ k ≥ 2 ^ 63)]
    rfl) (fun hk _ => ?_) (fun hk _ => ?_) ?_
  · have := (Int.le_ediv_iff_mul_le (show 0 < k by omega)).mpr (show (i.length : Int) * k ≤ 2 ^ 63 - 1 by omega)
    omega
  · have e : i.length * k.toNat ≤ 1000000 := by
      have : ((i.length * k.toNat : Nat) : Int) = (i.length : Int) * k := by
        rw [Int.natCast_mul, Int.toNat_of_nonneg (by omega)]
      omega
    show decide (i.length * k.toNat > sizeLine) = false
    refine decide_eq_false ?_
    rw [sizeLine_eq]
    omega
  · have end_ : ∀ (z : Str), tl z = repL (tl i) k → V.str z = V.str (Sg (repL (tl i) k)) := fun z e => by rw [← e]
    by_cases h1 : k < 1
    · rw [if_pos h1]
      refine ⟨Nat.zero_le _, .str (Sg (repL (tl i) k)), H, I.tok _, ⟨s.toks, ?_⟩, q⟩
      have e : repL (tl i) k = [] := by
        unfold repL
        rw [show k.toNat = 0 by omega]
        rfl
      rw [e]
      rfl
    · rw [if_neg h1]
      cases hc : (k == 1 || i.length == 0)
      · rw [if_neg Bool.false_ne_true]
        have e := fold_cps i.cps k.toNat #[]
        rw [Array.toList_empty, List.nil_append] at e
        have e2 : (⟨(List.replicate k.toNat i.cps).foldl (· ++ ·) #[]⟩ : Str) = Sg (repL (tl i) k) := ext_tl e
        have lz : (repL (tl i) k).length ≤ sizeLine := by
          unfold repL
          rw [PyProof.Rows.lm_len_rep_flat, sizeLine_eq]
          have : ((k.toNat * (tl i).length : Nat) : Int) = (i.length : Int) * k := by
            rw [Int.natCast_mul, Int.toNat_of_nonneg (by omega), Int.mul_comm]
            rfl
          omega
        show (Made.str ⟨(List.replicate k.toNat i.cps).foldl (· ++ ·) #[]⟩).post _ _
        rw [e2]
        exact ⟨lz, .str (Sg (repL (tl i) k)), H, I.tok _, ⟨s.toks, rfl⟩, q⟩
      · rw [if_pos rfl]
        refine ⟨.str (Sg (repL (tl i) k)), H, I, ⟨t, ?_⟩, q⟩
        refine congrArg (Value.str · t) (ext_tl ?_)
        show tl i = repL (tl i) k
        unfold repL
        rcases Bool.or_eq_true_iff.mp hc with z | z
        · rw [beq_iff_eq.mp z]
          show tl i = [tl i].flatten
          simp
        · have z : (tl i) = [] := List.eq_nil_of_length_eq_zero (beq_iff_eq.mp z)
          rw [z]
          simp
/-! ### enumerate(text) -/
def Ites (x : Str) : It := ⟨fun i _ => i < x.cps.size, fun i H v H' => ∃ T c, v = .ref T ∧ H T = none ∧ H' = upd H T (.tup [.int (i : Nat), .str ⟨#[c]⟩]) ∧ x.cps[i]? = some c, fun i _ => i = x.cps.size⟩
theorem turn_enumS {P : Program} {w : World} {K : PySem.W.Frag} {elts : List Expr} {kk : Nat} {tpos : Pos} (x : Str) (t : Tok) (ty : String) (hty : ty = "str_ascii_iterator" ∨ ty = "str_iterator") (e it : Addr) :
    Turn P w K (.Tuple elts kk tpos) (Ites x) [e, it] e (fun i h => (∃ old, IsEnum h e it ((i : Nat) : Int) old) ∧ h.IsStrIter it ty x t i ∧ e ≠ it) where
  mem := by simp
  obj := fun i h st b hb => by
    obtain ⟨⟨old, he⟩, ⟨o, ho, hc, hd⟩, _⟩ := st
    have e' : b = e ∨ b = it := by simpa using hb
    rcases e' with z | z
    · rw [z]; exact ⟨_, he, fun v q => nomatch q⟩
    · rw [z]; exact ⟨o, ho, fun v q => by rw [hd] at q; cases q⟩
  keep := fun i h h' st k => let ⟨⟨old, he⟩, ⟨o, ho, r⟩, hne⟩ := st; ⟨⟨old, k e (by simp) _ he⟩, ⟨o, k it (by simp) o ho, r⟩, hne⟩
  item := by
    intro X hP hw hK hc i pins s σ H E I hf st hg
    subst hP hw hK
    obtain ⟨⟨old, he⟩, hit, hne⟩ := st
    have hel : e < s.heap.objs.size := Heap.lt_size he
    have hil : it < s.heap.objs.size := by obtain ⟨_, q, _⟩ := hit; exact Heap.lt_size q
    have D : Draws X.prog X.w X.A.in1 it [it] x.cps.size (fun i v => ∃ c u, x.cps[i]? = some c ∧ v = .str ⟨#[c]⟩ u) (fun i h => h.IsStrIter it ty x t i) := by
      rcases hty with z | z
      · rw [z]; exact Draws.strAscii (A := X.A.in1) (I.ok.hd hc) it x t
      · rw [z]; exact Draws.strWide (A := X.A.in1) (I.ok.hd hc) it x t
    refine wpAny_pyNext_enum_itemC D he hit hg hne (by simpa using hne) fun y h' tk hy ho hit' hT hsz hk => ?_
    obtain ⟨c, u, hcx, rfl⟩ := hy
    refine ⟨_, rfl, wpAny_letOwnedTupleGo_enum (s := { s with heap := h', toks := tk + 1 }) ho fun h'' he' sb => ?_⟩
    have hT2 : h''.get? s.heap.objs.size = some { cls := .type "tuple", data := .seq #[.int i tk, .str ⟨#[c]⟩ u] } := (sb.2 _ (Nat.ne_of_gt hel)).trans hT
    have new : ObjOk X.prog X.w (upd H s.heap.objs.size (.tup [.int (i : Nat), .str ⟨#[c]⟩])) h'' s.heap.objs.size (.tup [.int (i : Nat), .str ⟨#[c]⟩]) :=
      ⟨by show 2 ≤ sizeLine; decide, [.int i tk, .str ⟨#[c]⟩ u], .cons ⟨_, rfl⟩ (.cons ⟨_, rfl⟩ .nil), ⟨_, hT2, rfl, _, rfl⟩⟩
    have I1 : Inv X pins σ (upd H s.heap.objs.size (.tup [.int (i : Nat), .str ⟨#[c]⟩])) { s with heap := h'', toks := tk + 1 } :=
      I.turnedNew (ch := [e, it]) (fun b ob hb q => (sb.2 b (fun z => hb (by simp [z]))).trans (hk b ob (fun z => hb (by simp [z])) (fun z => hb (by simp [z])) q)) hf (Nat.le_refl _) new
    refine ⟨.ref s.heap.objs.size, _, I1, rfl, ⟨_, c, rfl, I.hok.fresh (Nat.le_refl _), rfl, hcx⟩, ⟨⟨.str ⟨#[c]⟩ u, ?_⟩, ?_, hne⟩, fun b hb => ?_⟩
    · have e1 : ((i + 1 : Nat) : Int) = (i : Int) + 1 := by omega
      rw [e1]; exact he'
    · obtain ⟨o, ho2, r⟩ := hit'
      exact ⟨o, (sb.2 it (Ne.symm hne)).trans ho2, r⟩
    · have hb' : b < s.heap.objs.size := by
        have e' : b = e ∨ b = it := by simpa using hb
        rcases e' with z | z
        · rw [z]; exact hel
        · rw [z]; exact hil
      rw [upd_ne (Nat.ne_of_lt hb')]
      exact (hf b hb).1
  done := by
    intro X hP hw hK hc i pins s σ H E I hf st hg
    subst hP hw hK
    obtain ⟨⟨old, he⟩, hit, hne⟩ := st
    obtain ⟨f0, f1, f2, f3, f4, f5⟩ := hf it (by simp)
    have D : Draws X.prog X.w X.A.in1 it [it] x.cps.size (fun i v => ∃ c u, x.cps[i]? = some c ∧ v = .str ⟨#[c]⟩ u) (fun i h => h.IsStrIter it ty x t i) := by
      rcases hty with z | z
      · rw [z]; exact Draws.strAscii (A := X.A.in1) (I.ok.hd hc) it x t
      · rw [z]; exact Draws.strWide (A := X.A.in1) (I.ok.hd hc) it x t
    have hg' : i = x.cps.size := hg
    subst hg'
    exact wpAny_pyNext_enum_endD D he hit fun h' eb => ⟨rfl, I.turned (t' := s.toks) (fun b o hb q => eb b o hb q) f0 f1 f3 f4 f5⟩
  self := fun A i s Q E st h => let ⟨⟨_, he⟩, _⟩ := st; wpAny_pyIter_enum he h
def iEnumS (ta : TA) : TI := fun σ H R => ta σ H fun vs H1 => ∃ x, vs = [.str x] ∧ R (Ites x) H1
theorem pi_enumS {X : Cx} {e : Expr} {ta : TA} {p pos tpos : Pos} {elts : List Expr} {kk : Nat} (hg : Gl X "enumerate") (hm : X.mg "enumerate" = none) (ha : PA X [e] ta) (hs : starEach [e] X.env = [(false, eval e X.env)] := by rfl) :
    PI X (.Tuple elts kk tpos) (.Call (.Name "enumerate" p) [e] [] pos) (iEnumS ta) := by
  refine ⟨fun pins s σ H R I h => ?_⟩
  refine Call_ (ld_blt I hg hm boot_enumerate (PyProof.Rows.callWith_type1 (thn (ha.run pos pins s σ H _ I h) fun us s1 ⟨vs, H1, I1, r1, q1⟩ => ?_) hs rfl))
  obtain ⟨x, ex, q⟩ := q1
  subst ex
  cases r1 with
  | cons r rr =>
    cases rr
    obtain ⟨t, rfl⟩ := r
    refine call_enumerate_str fun h' he hit hsz hk => wpAny_pyIter_enum he ?_
    have I2 : Inv X pins σ H1 { s1 with heap := h' } := I1.kept (t' := s1.toks) hk
    refine ⟨s1.heap.objs.size + 1, [s1.heap.objs.size + 1, s1.heap.objs.size], _, _, H1, rfl, I2, turn_enumS x t (strIterType x) (by unfold strIterType; split <;> simp) (s1.heap.objs.size + 1) s1.heap.objs.size, ⟨⟨.none, he⟩, hit, Nat.succ_ne_self _⟩, fun b hb => ?_, q⟩
    have e' : b = s1.heap.objs.size + 1 ∨ b = s1.heap.objs.size := by simpa using hb
    have hle : s1.heap.objs.size ≤ b := by
      rcases e' with z | z
      · rw [z]; exact Nat.le_add_right _ _
      · rw [z]; exact Nat.le_refl _
    exact I1.fpOk hle (I1.hok.fresh hle)
theorem walk_enumS (x : Str) : Walk (Ites x) x.cps.size (fun _ => True) (fun i H v H' => ∃ T c, v = .ref T ∧ H T = none ∧ H' = upd H T (.tup [.int (i : Nat), .str ⟨#[c]⟩]) ∧ x.cps[i]? = some c) where
  goes := fun i H h _ => h
  stops := fun H _ => rfl
  yields := fun i H v H' h _ y => y
theorem for_enumS {x : Str} {g : TG} {tb : TS} {D : Ends} {σ : L2.St} {H : Hp} (Pv : Nat → L2.St → Hp → Prop) (h0 : Pv 0 σ H)
    (hs : ∀ i c T σ H, (tl x)[i]? = some c → Pv i σ H → H T = none → g (.ref T) σ (upd H T (.tup [.int (i : Nat), .str ⟨#[c]⟩])) fun σ2 H2 => tb { D with nx := Pv (i + 1), ct := Pv (i + 1), bk := D.nx } σ2 H2) (hd : ∀ σ H, Pv (tl x).length σ H → D.nx σ H) :
    ∃ W : Nat → Nat → L2.St → Hp → Prop, (∃ m, W 0 m σ H) ∧ ∀ i m σ H, W i m σ H →
      ((Ites x).stop i H ∧ D.nx σ H) ∨ ((Ites x).go i H ∧ ∃ N : L2.St → Hp → Prop, (∀ σ' H', N σ' H' → ∃ m', m' < m ∧ W (i + 1) m' σ' H') ∧ ∀ v H', (Ites x).yld i H v H' → g v σ H' fun σ2 H2 => tb { D with nx := N, ct := N, bk := D.nx } σ2 H2) :=
  for_it (walk_enumS x) Pv h0 (fun _ _ _ _ _ => trivial) (fun i v σ H H' hi hp ⟨T, c, e1, e2, e3, e4⟩ => by
    subst e1
    subst e3
    exact hs i c T σ H (by rw [Array.getElem?_toList]; exact e4) hp e2) (fun σ H hp => hd σ H hp)
end TR
namespace QR
open PySem PySem.Spec PyProof.Rows L2
section
variable {X : Cx}
def rEqP (K : PySem.W.Frag) : R2 := fun x y H Q => ∃ d e, Dp K H x d ∧ Dp K H y e ∧ d.plain = true ∧ e.plain = true ∧ d.depth ≤ 60 ∧ Q (.bl (PyData.eqv d e)) H
def rNeP (K : PySem.W.Frag) : R2 := fun x y H Q => ∃ d e, Dp K H x d ∧ Dp K H y e ∧ d.plain = true ∧ e.plain = true ∧ d.depth ≤ 60 ∧ Q (.bl (!PyData.eqv d e)) H
theorem op_eqP (hu : X.A.units + 64 < cLine) : OpR X (compareOp .Eq) (rEqP X.K) := fun pins s σ H x y v u Q I rx ry ⟨d, e, hd, he, pd, pe, dd, q⟩ => by
  obtain ⟨as, r1⟩ := Dp.reads I d x v hd rx
  obtain ⟨bs, r2⟩ := Dp.reads I e y u he ry
  exact PySem.SeqAt.eq_plain r1 r2 pd pe (by omega) ⟨.bl _, H, I, rfl, q⟩
theorem op_neP (hu : X.A.units + 64 < cLine) : OpR X (compareOp .NotEq) (rNeP X.K) := fun pins s σ H x y v u Q I rx ry ⟨d, e, hd, he, pd, pe, dd, q⟩ => by
  obtain ⟨as, r1⟩ := Dp.reads I d x v hd rx
  obtain ⟨bs, r2⟩ := Dp.reads I e y u he ry
  exact PySem.SeqAt.ne_plain r1 r2 pd pe (by omega) ⟨.bl _, H, I, rfl, q⟩
end
/-! ### == and != of values with a Lean type -/
section
variable {α : Type} [DecidableEq α] [PySem.W.Datum α] {K : PySem.W.Frag} {H : Hp} {x y : V} {a b : α} {Q : VK}
theorem eq_dat (hx : Dp K H x (PySem.W.Datum.toD a)) (hy : Dp K H y (PySem.W.Datum.toD b)) (hd : PySem.W.Datum.depth α ≤ 60) (q : Q (.bl (decide (a = b))) H) : rEqP K x y H Q :=
  ⟨_, _, hx, hy, PySem.W.Datum.plain a, PySem.W.Datum.plain b, Nat.le_trans (PySem.W.Datum.depth_le a) hd, by rw [PySem.W.Datum.eqv]; exact q⟩
theorem ne_dat (hx : Dp K H x (PySem.W.Datum.toD a)) (hy : Dp K H y (PySem.W.Datum.toD b)) (hd : PySem.W.Datum.depth α ≤ 60) (q : Q (.bl (!decide (a = b))) H) : rNeP K x y H Q :=
  ⟨_, _, hx, hy, PySem.W.Datum.plain a, PySem.W.Datum.plain b, Nat.le_trans (PySem.W.Datum.depth_le a) hd, by rw [PySem.W.Datum.eqv]; exact q⟩
end
end QR
/-! mathematics of texts and their lines -/
namespace TR
open PySem PySem.Spec PyProof.Rows L2
/-- the parts of l between the c's -/
def cutAt (c : Nat) : List Nat → List (List Nat)
  | [] => [[]]
  | x :: l => if x = c then [] :: cutAt c l else match cutAt c l with
    | [] => [[x]]
    | p :: r => (x :: p) :: r
def joinL (c : Nat) : List (List Nat) → List Nat
  | [] => []
  | [p] => p
  | p :: q :: r => p ++ c :: joinL c (q :: r)
theorem cut_free {c : Nat} : ∀ {p : List Nat}, c ∉ p → cutAt c p = [p]
  | [], _ => rfl
  | x :: p, h => by
    have h1 : x ≠ c := fun e => h (e ▸ List.mem_cons_self)
    have h2 : c ∉ p := fun e => h (List.mem_cons_of_mem _ e)
    unfold cutAt
    rw [if_neg h1, cut_free h2]
theorem cut_app {c : Nat} {l : List Nat} : ∀ {p : List Nat}, c ∉ p → cutAt c (p ++ c :: l) = p :: cutAt c l
  | [], _ => by
    show cutAt c (c :: l) = _
    rw [cutAt, if_pos rfl]
  | x :: p, h => by
    have h1 : x ≠ c := fun e => h (e ▸ List.mem_cons_self)
    have h2 : c ∉ p := fun e => h (List.mem_cons_of_mem _ e)
    show cutAt c (x :: (p ++ c :: l)) = _
    rw [cutAt, if_neg h1, cut_app h2]
theorem cut_join {c : Nat} : ∀ {P : List (List Nat)}, P ≠ [] → (∀ p ∈ P, c ∉ p) → cutAt c (joinL c P) = P
  | [], h, _ => absurd rfl h
  | [p], _, h => cut_free (h p List.mem_cons_self)
  | p :: q :: r, _, h => by
    rw [joinL, cut_app (h p List.mem_cons_self), cut_join (List.cons_ne_nil _ _) fun x hx => h x (List.mem_cons_of_mem _ hx)]
theorem cut_ne (c : Nat) : ∀ l, cutAt c l ≠ []
  | [] => List.cons_ne_nil _ _
  | x :: l => by
    unfold cutAt
    split
    · exact List.cons_ne_nil _ _
    · split <;> exact List.cons_ne_nil _ _
theorem tl_app (a b : Str) : tl (a ++ b) = tl a ++ tl b := by
  show (a.cps ++ b.cps).toList = _
  rw [Array.toList_append]
theorem tl_join (c : Nat) : ∀ P : List Str, tl (Str.join ⟨#[c]⟩ P) = joinL c (P.map tl)
  | [] => rfl
  | [p] => rfl
  | p :: q :: r => by
    show tl (p ++ ⟨#[c]⟩ ++ Str.join ⟨#[c]⟩ (q :: r)) = _
    rw [tl_app, tl_app, tl_join c (q :: r), List.append_assoc]
    rfl
theorem split_ne (x y : Str) : Txt.split x y ≠ [] := by
  unfold Txt.split
  split
  · exact List.cons_ne_nil _ _
  · split
    · exact List.cons_ne_nil _ _
    · unfold Builtin.Str.partsBetween
      generalize Builtin.Str.occurrences x y 0 x.length (x.length + 1) = cs
      cases cs <;> exact List.cons_ne_nil _ _
theorem split_cut (x : Str) (c : Nat) : Txt.split x ⟨#[c]⟩ = (cutAt c (tl x)).map Sg := by
  have h1 : (Txt.split x ⟨#[c]⟩).map tl = cutAt c (tl x) := by
    have e := StrLaws.join_split x ⟨#[c]⟩
    have e2 := tl_join c (Txt.split x ⟨#[c]⟩)
    rw [e] at e2
    rw [e2, cut_join (by
      intro z
      exact split_ne x ⟨#[c]⟩ (List.map_eq_nil_iff.mp z))]
    intro p hp
    obtain ⟨q, hq, rfl⟩ := List.mem_map.mp hp
    exact StrLaws.split_free x c q hq
  rw [← h1, List.map_map]
  conv => lhs; rw [← List.map_id (Txt.split x ⟨#[c]⟩)]
  rfl
theorem tl_join0 : ∀ P : List Str, tl (Str.join Str.empty P) = (P.map tl).flatten
  | [] => rfl
  | [p] => by simp [Str.join]
  | p :: q :: r => by
    show tl (p ++ Str.empty ++ Str.join Str.empty (q :: r)) = _
    rw [tl_app, tl_app, tl_join0 (q :: r), List.map_cons, List.flatten_cons]
    show tl p ++ [] ++ _ = _
    rw [List.append_nil]
    simp
theorem txt_join0 (P : List Str) : Txt.join Str.empty P = Sg ((P.map tl).flatten) := by
  show Builtin.Str.glued _ _ = _
  rw [StrLaws.glued_eq_join]
  exact ext_tl (tl_join0 P)
/-- the text of lines -/
def flatN : List (List Nat) → List Nat
  | [] => []
  | p :: r => p ++ 10 :: flatN r
theorem cut_flat {z : List Nat} (hz : 10 ∉ z) : ∀ {P : List (List Nat)}, (∀ p ∈ P, 10 ∉ p) → cutAt 10 (flatN P ++ z) = P ++ [z]
  | [], _ => cut_free hz
  | p :: r, h => by
    show cutAt 10 ((p ++ 10 :: flatN r) ++ z) = _
    rw [List.append_assoc, List.cons_append, cut_app (h p List.mem_cons_self), cut_flat hz fun x hx => h x (List.mem_cons_of_mem _ hx)]
    rfl
theorem flat_flatten : ∀ P : List (List Nat), (P.map fun p => p ++ [10]).flatten = flatN P
  | [] => rfl
  | p :: r => by
    rw [List.map_cons, List.flatten_cons, flat_flatten r, List.append_assoc]
    rfl
/-- the first place where a text fails -/
def fault : List Nat → Nat → Nat → Nat → Option Nat
  | [], at_, _, size => if size = 0 then none else some at_
  | c :: l, at_, many, size => if many = 200 then some at_ else if c = 10 then fault l (at_ + 1) (many + 1) 0 else if size = 40 then some at_ else fault l (at_ + 1) many (size + 1)
theorem fault_end : ∀ {l : List Nat} {a m s : Nat}, fault l a m s = none → (l = [] ∧ s = 0) ∨ ∃ l', l = l' ++ [10]
  | [], a, m, s, h => by
    unfold fault at h
    split at h
    · rename_i e
      exact .inl ⟨rfl, e⟩
    · cases h
  | c :: l, a, m, s, h => by
    unfold fault at h
    split at h
    · cases h
    · split at h
      · rename_i e
        rcases fault_end h with ⟨e2, _⟩ | ⟨l', e2⟩
        · exact .inr ⟨[], by rw [e2, e]; rfl⟩
        · exact .inr ⟨c :: l', by rw [e2]; rfl⟩
      · split at h
        · cases h
        · rcases fault_end h with ⟨_, e2⟩ | ⟨l', e2⟩
          · cases e2
          · exact .inr ⟨c :: l', by rw [e2]; rfl⟩
theorem fault_nil {l z : List Nat} {a m s : Nat} (h : fault (l ++ z) a m s = none) (hz : 10 ∉ z) : z = [] := by
  rcases List.eq_nil_or_concat z with e | ⟨w, x, e⟩
  · exact e
  · exfalso
    rcases fault_end h with ⟨e2, _⟩ | ⟨l', e2⟩
    · rw [e] at e2
      simp at e2
    · rw [e, List.concat_eq_append, ← List.append_assoc] at e2
      have := List.append_inj_right' e2 rfl
      have e3 : x = 10 := by simpa using this
      exact hz (by rw [e, e3]; simp)
def okT (l : List Nat) : Prop := ∀ c ∈ l, c = 10 ∨ (32 ≤ c ∧ c ≤ 126)
def okL (l : List Nat) : Prop := (∀ c ∈ l, 32 ≤ c ∧ c ≤ 126) ∧ l.length ≤ 50
theorem okL.free {l : List Nat} (h : okL l) : 10 ∉ l := fun z => by
  have := h.1 10 z
  omega
theorem okT_app {a b : List Nat} (ha : okT a) (hb : okT b) : okT (a ++ b) := fun c hc => by
  rcases List.mem_append.mp hc with h | h
  · exact ha c h
  · exact hb c h
theorem okL.t {l : List Nat} (h : okL l) : okT l := fun c hc => .inr (h.1 c hc)
theorem okT_flat : ∀ {P : List (List Nat)}, (∀ p ∈ P, okL p) → okT (flatN P)
  | [], _ => fun c hc => nomatch hc
  | p :: r, h => by
    refine okT_app (h p List.mem_cons_self).t fun c hc => ?_
    rcases List.mem_cons.mp hc with e | hc
    · exact .inl e
    · exact okT_flat (fun x hx => h x (List.mem_cons_of_mem _ hx)) c hc
theorem flat_len : ∀ {P : List (List Nat)}, (∀ p ∈ P, okL p) → (flatN P).length ≤ 51 * P.length
  | [], _ => Nat.le_refl _
  | p :: r, h => by
    have a := (h p List.mem_cons_self).2
    have b := flat_len (P := r) fun x hx => h x (List.mem_cons_of_mem _ hx)
    show (p ++ 10 :: flatN r).length ≤ 51 * (r.length + 1)
    rw [List.length_append, List.length_cons]
    omega
theorem okL_rep {l : List Nat} {k : Int} (h1 : l.length = 1) (hl : ∀ c ∈ l, 32 ≤ c ∧ c ≤ 126) (hk : k ≤ 50) : okL (repL l k) := by
  refine ⟨fun c hc => ?_, ?_⟩
  · obtain ⟨x, hx, hc⟩ := List.mem_flatten.mp hc
    rw [List.eq_of_mem_replicate hx] at hc
    exact hl c hc
  · unfold repL
    rw [PyProof.Rows.lm_len_rep_flat, h1]
    omega
end TR
/-! the array of generators never shrinks -/
namespace GX
open PySem PySem.Spec PyProof.Rows L2 GxR

theorem runs_gens_le {M : Model} {Γ : PySem.Ctx} {p : Pos} {t : Sem Fin} {fs : List Frame} {s s' : Shared} {e : End} (h : Runs M Γ p t fs s e s') : s.gens.size ≤ s'.gens.size := by
  induction h <;> (try simp only [Shared.setGen, Array.size_push, Array.size_setIfInBounds] at *) <;> omega

theorem wakes_gens_le {M : Model} {Γ : PySem.Ctx} {p : Pos} {g : Nat} {r : Resume} {s s' : Shared} {res : GenResult} (h : Wakes M Γ p g r s res s') : s.gens.size ≤ s'.gens.size := by
  have sz : ∀ (z : Shared) x, (z.setGen g x).gens.size = z.gens.size := fun z x => by simp [Shared.setGen]
  unfold Wakes at h
  split at h
  · exact h.elim
  · split at h
    · obtain ⟨e₁, s₁, hr, _, _, rfl⟩ := h
      rw [sz]; exact (sz s .running) ▸ runs_gens_le hr
    · obtain ⟨_, rfl⟩ := h; first | exact Nat.le_refl _ | (rw [sz]; exact Nat.le_refl _)
    · obtain ⟨_, rfl⟩ := h; first | exact Nat.le_refl _ | (rw [sz]; exact Nat.le_refl _)
  · obtain ⟨e₁, s₁, hr, _, _, rfl⟩ := h
    rw [sz]; exact (sz s .running) ▸ runs_gens_le hr
  · obtain ⟨_, rfl⟩ := h; exact Nat.le_refl _
  · obtain ⟨_, rfl⟩ := h; exact Nat.le_refl _

theorem wp_gens {α : Type} (M : Model) (Γ : PySem.Ctx) (n : Nat) (t : Sem α) : ∀ (Q : α → Pos → Shared → Prop) (E : Value → Pos → Shared → Prop) (p : Pos) (s : Shared), n ≤ s.gens.size → Sem.wp M Γ t Q E p s →
    Sem.wp M Γ t (fun a p' s' => n ≤ s'.gens.size ∧ Q a p' s') (fun e p' s' => n ≤ s'.gens.size ∧ E e p' s') p s := by
  induction t with
  | pure a => intro Q E p s hn h; exact ⟨hn, h⟩
  | raise e => intro Q E p s hn h; exact ⟨hn, h⟩
  | unsupported _ => intro Q E p s _ h; exact h
  | finish _ => intro Q E p s _ h; exact h
  | rule _ k ih => intro Q E p s hn h; exact ih () Q E p s hn h
  | «at» p' k ih => intro Q E p s hn h; exact ih () Q E p' s hn h
  | load a _ k ih => intro Q E p s hn h; obtain ⟨o, ho, h⟩ := h; exact ⟨o, ho, ih o Q E p s hn h⟩
  | update a _ f k ih => intro Q E p s hn h; exact ⟨h.1, ih () Q E p _ hn h.2⟩
  | loadIfAlive a k ih => intro Q E p s hn h; exact ih _ Q E p s hn h
  | point _ k ih => intro Q E p s hn h; exact ih () Q E p s hn h
  | register _ _ => intro Q E p s _ h; exact h
  | alloc o k ih => intro Q E p s hn h; exact ih _ Q E p _ hn h
  | fresh k ih => intro Q E p s hn h; exact ih _ Q E p _ hn h
  | ask k ih => intro Q E p s hn h; exact ih _ Q E p s hn h
  | choose src m k ih => intro Q E p s hn h; exact ⟨h.1, ih _ Q E p _ hn h.2⟩
  | os q _ k ih => intro Q E p s hn h; exact ih _ Q E p _ hn h
  | call c hd _ _ k ih => intro Q E p s hn h; obtain ⟨r, s', hr, h⟩ := h; exact ⟨r, s', hr, ih r Q E p s' (Nat.le_trans hn (runs_gens_le hr)) h⟩
  | handled own k ih => intro Q E p s hn h; exact ih _ Q E p s hn h
  | genState g k ih => intro Q E p s hn h; obtain ⟨st, hs, h⟩ := h; exact ⟨st, hs, ih _ Q E p s hn h⟩
  | newGen c k ih => intro Q E p s hn h; exact ih _ Q E p _ (by show n ≤ (s.gens.push _).size; rw [Array.size_push]; exact Nat.le_succ_of_le hn) h
  | resume g r _ k ih => intro Q E p s hn h; obtain ⟨res, s', hw, h⟩ := h; exact ⟨res, s', hw, ih res Q E p s' (Nat.le_trans hn (wakes_gens_le hw)) h⟩
  | yield _ _ _ _ => intro Q E p s _ h; exact h
  | stack k ih => intro Q E p s hn h; exact ih _ Q E p s hn h
  | fork _ _ => intro Q E p s _ h; exact h
  | thread k ih => intro Q E p s hn h; exact ih _ Q E p s hn h
  | await _ _ _ _ _ => intro Q E p s _ h; exact h

theorem wpAny_with_gens {α : Type} {M : Model} {A : Around} {s : Shared} {t : Sem α} {Q : α → Shared → Prop} {E : Value → Shared → Prop} {n : Nat} (hn : n ≤ s.gens.size)
    (h : wpAny M A t (fun a s' => n ≤ s'.gens.size → Q a s') (fun e s' => n ≤ s'.gens.size → E e s') s) : wpAny M A t Q E s :=
  wpAny_mono (Q := fun a s' => n ≤ s'.gens.size ∧ (n ≤ s'.gens.size → Q a s')) (E := fun e s' => n ≤ s'.gens.size ∧ (n ≤ s'.gens.size → E e s')) (fun Γ p hΓ => wp_gens M Γ n t _ _ p s hn (h Γ p hΓ)) (fun _ _ x => x.2 x.1) (fun _ _ x => x.2 x.1)

/-- the invariant speaks of the heap; the generators' array is bare -/
theorem inv_heap {X : Cx} {pins : List (Addr × Obj)} {σ : L2.St} {H : Hp} {s s' : Shared} (I : Inv X pins σ H s) (h : s'.heap = s.heap) (ho : s'.os = s.os) (hb : AllBare s'.gens) : Inv X pins σ H s' := by
  obtain ⟨h1, g1, d1, t1, o1⟩ := s
  obtain ⟨h2, g2, d2, t2, o2⟩ := s'
  obtain rfl : h2 = h1 := h
  obtain rfl : o2 = o1 := ho
  exact ⟨I.ok, I.os, hb, I.base, I.loc, I.cell, I.free, I.freeC, I.pin, I.hok, I.len⟩
theorem bare_set {s : Shared} {g : Nat} {x : GenState} (h : AllBare s.gens) (hx : x.bare = true) : AllBare (s.setGen g x).gens := by
  intro y hy
  have hy : y ∈ s.gens.setIfInBounds g x := hy
  obtain ⟨i, hi, e⟩ := Array.mem_iff_getElem.mp hy
  have hi2 : i < s.gens.size := by simpa using hi
  rw [Array.getElem_setIfInBounds hi2] at e
  split at e
  · rw [← e]; exact hx
  · rw [← e]; exact h _ (Array.getElem_mem _)
end GX
namespace GX
open PySem PySem.Spec PyProof.Rows L2 GxR

/-- the context of a generator's body -/
abbrev gCx (X : Cx) (s : Shared) (H : Hp) (ce : Env) (fp : List Addr) (A' : Around) : Cx := { X with s_0 := s, H_0 := H, env := ce, outer := X.stack, stack := ce :: X.stack, ex := fp, fn := fun _ => false, pn := [], xe := fun _ _ => False, A := A' }

section
variable {X : Cx} {pins : List (Addr × Obj)} {σ : L2.St} {H : Hp} {s : Shared}
theorem gen_start {scope : Scope} {own : List (Str × Nat)} {fp : List Addr} {code : Value} {ce : Env} {a : Addr} {go : Obj} {A' : Around} {s' : Shared} {m : Str → Option Value} (I : Inv X pins σ H s) (ok : BlkOk X.N X.env.scope scope own) (nc : ∀ y ∈ scope.names, y.2 ≠ .cell)
    (hN : X.N.Nodup) (hfp : ∀ b ∈ fp, FpOk X pins H b ∧ b < s.heap.objs.size) (hd : X.calm = true → A'.handled = none) (hfr : A'.frames = some (ce :: X.stack))
    (hce : ce = genEnv scope (cloFrom X.env.cells scope.names []) s.heap.objs.size code builtinsNs X.env) (kp : ∀ b o, s.heap.get? b = some o → s'.heap.get? b = some o) (hns : s'.heap.Ns s.heap.objs.size m)
    (hgo : s'.heap.get? a = some go) (hga : s.heap.objs.size < a) (hgd : ∀ v, go.data ≠ .cell v) (hos : s'.os = s.os) (hb : AllBare s'.gens) :
    Inv (gCx X s H ce fp A') [(a, go)] (wipe σ (own.map (·.2))) H s' := by
  have hfree : ∀ y ∈ scope.names, y.2 = .free → ∃ c, X.env.cells.lookup y.1 = some c := fun y hy e => by
    rcases ok.free y hy e with k | k
    · exact I.ok.has _ (.inl k)
    · exact I.ok.has _ (.inr k)
  have hL : ce.locals = s.heap.objs.size := by rw [hce]; rfl
  have hcl : ce.cells = cloFrom X.env.cells scope.names [] := by rw [hce]; rfl
  have hsc : ce.scope = scope := by rw [hce]; rfl
  have hfm : ce.frame = some ce.locals := by rw [hce]; rfl
  have cm : ∀ {y c}, ce.cells.lookup y = some c → X.env.cells.lookup y = some c ∧ c < s.heap.objs.size := fun {y c} e => by
    rw [hcl] at e
    rcases cloFrom_mem (PySem.mem_of_lookup e) with hm | ⟨h1, rfl⟩
    · cases hm
    · obtain ⟨c, hc⟩ := hfree _ h1 rfl
      rw [hc]
      obtain ⟨w, z⟩ := I.cell _ _ hc
      exact ⟨rfl, z.lt⟩
  have look : ∀ {y}, scope.names.lookup y = some .free → ∃ c, ce.cells.lookup y = some c ∧ X.env.cells.lookup y = some c := fun {y} hl => by
    have hy : (y, NameKind.free) ∈ scope.names := PySem.mem_of_lookup hl
    obtain ⟨c', e'⟩ := mem_lookup (cloFrom_has (cells := X.env.cells) (acc := []) hy)
    rw [← hcl] at e'
    exact ⟨c', e', (cm e').1⟩
  have stk : ∀ b ∈ frs X.stack, b < s.heap.objs.size := fun b hb => by
    obtain ⟨_, o, ho, _⟩ := I.stack.mem hb
    exact Heap.lt_size ho
  have okB : (gCx X s H ce fp A').Ok := by
    refine ⟨I.ok.mod, by show ce.scope.kind = _; rw [hsc]; exact ok.kind, by show ce.globals = _; rw [hce]; exact I.ok.glob, by show ce.builtins = _; rw [hce]; rfl, by show s.heap.objs.size ≤ ce.locals; rw [hL]; exact Nat.le_refl _,
      fun y z c e1 e2 => I.ok.inj y z c (cm e1).1 (cm e2).1, fun y hy => ?_, fun y c z e => (by cases z), hd, hfr, .inr ⟨rfl, hfm⟩, fun b hb => ⟨?_, fun y c e z => (hfp b hb).1.2.2.2.2.1 y c (cm e).1 z⟩, I.bs, Nat.le_trans I.ok.bsz I.sz, fun b o e hb => ?_, fun b hb z => ?_, I.stack, I.stkFree⟩
    · show ∃ c, ce.cells.lookup y = some c
      have hy : ce.scope.names.lookup y = some .cell ∨ ce.scope.names.lookup y = some .free := hy
      rw [hsc] at hy
      rcases hy with hy | hy
      · exact absurd rfl (nc _ (PySem.mem_of_lookup hy))
      · obtain ⟨c, h1, _⟩ := look hy
        exact ⟨c, h1⟩
    · show b ≠ ce.locals
      rw [hL]; exact Nat.ne_of_lt (hfp b hb).2
    · rcases (hfp b hb).1.2.2.2.1 with z | z
      · exact I.ok.noex b o e z
      · exact absurd (Nat.lt_of_lt_of_le (Heap.lt_size e) (Nat.le_trans I.ok.bsz z)) (Nat.lt_irrefl _)
    · rcases List.mem_cons.mp (I.stkSub b z) with z | z
      · exact (hfp b hb).1.2.1 z
      · exact (hfp b hb).1.2.2.1 z
  refine ⟨okB, hos, hb, Un.kept kp, ⟨m, ?_, fun i y av e1 e2 e3 => ?_⟩, fun y c e => ?_, ?_, fun y c e => I.freeC y c (cm e).1, fun p hp => ?_, I.hok.kept kp, by rw [wipe_length]; exact I.len⟩
  · show Heap.Ns _ ce.locals _
    rw [hL]
    exact hns
  · obtain ⟨e2, hne⟩ := wipe_some e2
    have e3 : Vis ce.scope y := e3
    rw [hsc] at e3
    have no : ∀ k, scope.names.lookup y = some k → ¬ (k = .local ∨ k = .cell) := fun k e hh => by
      rcases ok.own _ (PySem.mem_of_lookup e) hh with e' | e'
      · obtain ⟨p, hp, hpy⟩ := List.mem_map.mp e'
        have e3 := ok.ix p hp
        have : p.1 = y := hpy
        rw [this] at e3
        exact hne (List.mem_map.mpr ⟨p, hp, nodup_ix hN e3 e1⟩)
      · exact e' (List.mem_of_getElem? e1)
    have hfr : scope.names.lookup y = some .free := by
      rcases e3 with e3 | e3 | e3
      · exact absurd (.inl rfl) (no _ e3)
      · exact absurd (.inr rfl) (no _ e3)
      · exact e3
    obtain ⟨m, hn, hl⟩ := I.loc
    have hvis : Vis X.env.scope y := (ok.free _ (PySem.mem_of_lookup hfr) rfl).elim (fun k => .inr (.inl k)) (fun k => .inr (.inr k))
    obtain ⟨w, r, q⟩ := hl i y av e1 e2 hvis
    obtain ⟨c, h1, h2⟩ := look hfr
    refine ⟨w, r, .inr ⟨.inr (show ce.scope.names.lookup y = _ by rw [hsc]; exact hfr), c, h1, ?_⟩⟩
    rcases q with ⟨k, _⟩ | ⟨_, c', e', z⟩
    · have k : X.env.scope.names.lookup y = some .local := k
      rcases ok.free _ (PySem.mem_of_lookup hfr) rfl with k' | k' <;> rw [show X.env.scope.names.lookup y = _ from k'] at k <;> cases k
    · rw [h2] at e'; cases e'
      exact z.keeps kp
  · obtain ⟨w, z⟩ := I.cell y c (cm e).1
    exact ⟨w, z.keeps kp⟩
  · show H ce.locals = none
    rw [hL]; exact I.hok.fresh (Nat.le_refl _)
  · have hp : p ∈ [] ++ [(a, go)] := hp
    have e : p = (a, go) := by simpa using hp
    subst e
    refine ⟨hgo, I.hok.fresh (Nat.le_of_lt hga), ?_, fun z => ?_, hgd⟩
    · show a ≠ ce.locals
      rw [hL]; exact Nat.ne_of_gt hga
    · exact absurd (Nat.lt_trans (stk a z) hga) (Nat.lt_irrefl _)
end

/-- what is wanted of a walk: W by the turn and a measure; d: the item that ends it -/
def Wk (d : Bool) (J : It) (g : TG) (tt : TT) (te : TE) (vs : List Nat) (σ : L2.St) (W : Nat → Nat → Hp → Prop) (Qe Qd : Hp → Prop) : Prop := ∀ i m H, W i m H →
  (J.stop i H ∧ Qe H) ∨ (J.go i H ∧ ∃ Nx : Hp → Prop, (∀ H', Nx H' → ∃ m', m' < m ∧ W (i + 1) m' H') ∧ ∀ x H', J.yld i H x H' → g x (wipe σ vs) H' fun σ2 H2 => wipe σ2 vs = wipe σ vs ∧ tt σ2 H2 fun b H3 =>
    if b = true then te σ2 H3 fun y H4 => ∃ c, y = .bl c ∧ if c = d then Qd H4 else Nx H4 else Nx H3)

section
variable {Y : Cx} {A : Around} {σ : L2.St} {vs : List Nat} {a : Addr} {go : Obj}
def YE (Y : Cx) (a : Addr) (go : Obj) (ws : L2.St) (Qe : Hp → Prop) (s : Shared) : Prop := ∃ H, Inv Y [(a, go)] ws H s ∧ Qe H
def YP (d : Bool) (Y : Cx) (a : Addr) (go : Obj) (ws : L2.St) (Qd : Hp → Prop) : Protocol := fun _ _ v s kap =>
  ∃ c H, v = .bool c ∧ Inv Y [(a, go)] ws H s ∧ if c = d then Qd H else ∀ s'' : Shared, s''.heap = s.heap → s''.os = s.os → AllBare s''.gens → kap (.send .none) s''
abbrev YR (Y : Cx) (a : Addr) (go : Obj) (ws : L2.St) (Qe : Hp → Prop) : GenEnd := fun n s₀ r s₁ => r = .ok .next ∧ (fun (_ : Nat) (_ s₁ : Shared) => YE Y a go ws Qe s₁) n s₀ s₁

theorem seg_gl {d : Bool} {tg elt iter : Expr} {ifs : List Expr} {scope : Scope} {pos : Pos} {it : Addr} {fp : List Addr} {tn : Nat → Heap → Prop} {J : It} {g : TG} {tt : TT} {te : TE} {W : Nat → Nat → Hp → Prop} {Qe Qd : Hp → Prop}
    (hA : Y.A = A.over (.compLoop (.GeneratorExp elt [⟨tg, iter, ifs, 0⟩] scope pos) 0 (.ref it) .none Y.env) []) (hc : Y.calm = true) (hco : Y.env.scope.isCoroutine = false) (T : Turn Y.prog Y.w Y.K tg J fp it tn)
    (hx : Y.ex = fp) (hpn : Y.pn = []) (hafp : a ∉ fp) (pg : PG Y tg g) (pt : PTs Y ifs tt) (pe : PE Y elt te) (hW : Wk d J g tt te vs σ W Qe Qd) (hxe : Y.xe = fun _ _ => False) :
    ∀ (m n : Nat), m < n → ∀ (i : Nat) (H : Hp) (s₀ s : Shared), Inv Y [(a, go)] (wipe σ vs) H s → tn i s.heap → (∀ b ∈ fp, H b = none) → W i m H →
      Seg (model Y.prog Y.w) A (YR Y a go (wipe σ vs) Qe) (YP d Y a go (wipe σ vs) Qd) n s₀
        (.compLoop (.GeneratorExp elt [⟨tg, iter, ifs, 0⟩] scope pos) 0 (.ref it) .none Y.env)
        ((model Y.prog Y.w).den (.compLoop (.GeneratorExp elt [⟨tg, iter, ifs, 0⟩] scope pos) 0 (.ref it) .none Y.env)) [] s := by
  intro m
  induction m using Nat.strongRecOn with
  | _ m ih =>
  intro n hmn i H s₀ s I st nf w
  have stat : ∀ {ps : List (Addr × Obj)} {σ' : L2.St} {H' : Hp} {s' : Shared}, Inv Y [(a, go)] σ' H' s' → (∀ b ∈ fp, H' b = none) → ∀ b ∈ fp, FpOk Y [(a, go)] H' b := fun {ps σ' H' s'} I' hn b hb =>
    ⟨hn b hb, (I'.ok.exf b (hx ▸ hb)).1, I'.ok.exfs b (hx ▸ hb), .inl (hx ▸ hb), fun x c e => (I'.ok.exf b (hx ▸ hb)).2 x c e, fun p hp => by
      rw [hpn] at hp
      have e : p = (a, go) := by simpa using hp
      rw [e]
      exact fun z => hafp (by rw [show a = b from z]; exact hb)⟩
  show Seg _ A _ _ _ s₀ _ ((compTurn (.GeneratorExp elt [⟨tg, iter, ifs, 0⟩] scope pos) 0 (.ref it) .none Y.env).onRaise (leaving Y.env)) [] s
  rw [compTurn_gen, Sem.onRaise_eq_wrap]
  refine seg_bind_wrap (wpAny_standAt ?_)
  rcases hW i m H w with ⟨stop, qe⟩ | ⟨go1, Nx, hNx, step⟩
  · refine seg_bind_wrap ?_
    rw [← hA]
    refine thnF (T.done Y rfl rfl rfl hc i _ s _ H (fun _ _ => False) I (stat (ps := []) I nf) st stop) fun r s1 ⟨hr, I1⟩ => ?_
    subst hr
    exact seg_end (.ok .next) ⟨rfl, H, I1, qe⟩
  · refine seg_bind_wrap ?_
    rw [← hA]
    refine thnF (T.item Y rfl rfl rfl hc i _ s _ H (fun _ _ => False) I (stat (ps := []) I nf) st go1) fun r s1 ⟨u, hr, h1⟩ => ?_
    subst hr
    refine seg_bind_wrap ?_
    rw [← hA]
    refine thnF h1 fun _ s2 ⟨x, H2, I2, r2, y2, st2, n2⟩ => ?_
    have I2' := I2.pinned (stat (ps := []) I2 n2) (T.obj _ _ st2)
    have pg1 := pg.run _ s2 _ H2 x u _ I2' r2 (step x H2 y2)
    rw [hxe] at pg1
    refine seg_bind_wrap ?_
    rw [← hA]
    refine thnF pg1 fun _ s3 ⟨σ3, H3, I3, hw3, q3⟩ => ?_
    have pt1 := pt.run _ s3 σ3 H3 _ I3 q3
    rw [hxe] at pt1
    refine seg_bind_wrap ?_
    rw [← hA]
    refine thnF pt1 fun b s4 ⟨H4, I4, q4⟩ => ?_
    -- the turn's end
    have fin : ∀ {s' : Shared} {H' : Hp}, Inv Y ([(a, go)] ++ pinsAt fp s2.heap) σ3 H' s' → Inv Y [(a, go)] (wipe σ vs) H' s' ∧ tn (i + 1) s'.heap ∧ (∀ b ∈ fp, H' b = none) := fun {s' H'} I' => by
      have pin' : ∀ b ∈ fp, ∀ o, s2.heap.get? b = some o → s'.heap.get? b = some o ∧ H' b = none := fun b hb o e =>
        let z := I'.pin (b, o) (List.mem_append_right _ (List.mem_append_right _ (mem_pinsAt hb e)))
        ⟨z.1, z.2.1⟩
      have hl : (wipe σ vs).length = σ3.length := by rw [← hw3, wipe_length]
      refine ⟨(I'.unpinned (pins := [(a, go)])).weak hl (fun j v e => ?_), T.keep _ _ _ st2 fun b hb o e => (pin' b hb o e).1, fun b hb => ?_⟩
      · rw [← hw3] at e
        exact (wipe_some e).1
      · obtain ⟨o, e, _⟩ := T.obj _ _ st2 b hb
        exact (pin' b hb o e).2
    cases b with
    | false =>
      simp only [Bool.false_eq_true, if_false] at q4 ⊢
      obtain ⟨m', hm, w'⟩ := hNx H4 q4
      obtain ⟨J1, J2, J3⟩ := fin I4
      exact seg_again rfl (ih m' hm n (by omega) (i + 1) H4 s₀ s4 J1 J2 J3 w')
    | true =>
      simp only [if_true] at q4 ⊢
      have hy : ∀ v, yieldOut Y.env v = yieldValue v := fun v => by simp only [yieldOut, hco, Bool.false_eq_true, if_false]
      simp only [hy]
      have pe1 := pe.run _ s4 σ3 H4 _ I4 q4
      rw [hxe] at pe1
      rw [Sem.bind_eq_wrap', Sem.bind_eq_wrap', Sem.wrap_wrap, Sem.wrap_wrap]
      refine seg_wrap ?_
      rw [← hA]
      refine thnF pe1 fun z s5 ⟨y, H5, I5, r5, c, ec, q5⟩ => ?_
      subst ec
      cases r5
      obtain ⟨J1, J2, J3⟩ := fin I5
      by_cases hcd : c = d
      · rw [if_pos hcd] at q5
        obtain ⟨n, rfl⟩ : ∃ k, n = k + 1 := ⟨n - 1, by omega⟩
        exact seg_at (seg_yield rfl rfl rfl ⟨c, H5, rfl, J1, by rw [if_pos hcd]; exact q5⟩)
      · rw [if_neg hcd] at q5
        obtain ⟨m', hm, w'⟩ := hNx H5 q5
        obtain ⟨n, rfl⟩ : ∃ k, n = k + 1 := ⟨n - 1, by omega⟩
        refine seg_at (seg_yield rfl rfl rfl ⟨c, H5, rfl, J1, ?_⟩)
        rw [if_neg hcd]
        intro s'' h1 h2 h3
        exact seg_again rfl (ih m' hm n (by omega) (i + 1) H5 s'' s'' (inv_heap J1 h1 h2 h3) (by rw [h1]; exact J2) J3 w')
end
end GX
namespace GX
open PySem PySem.Spec PyProof.Rows L2 GxR

section
variable {Y : Cx} {A : Around} {σ : L2.St} {vs : List Nat} {a : Addr} {go : Obj}
theorem seg_gs {d : Bool} {tg elt iter : Expr} {ifs : List Expr} {scope : Scope} {pos : Pos} {it : Addr} {fp : List Addr} {tn : Nat → Heap → Prop} {J : It} {g : TG} {tt : TT} {te : TE} {W : Nat → Nat → Hp → Prop} {Qe Qd : Hp → Prop}
    (hA : Y.A = A.over (.compLoop (.GeneratorExp elt [⟨tg, iter, ifs, 0⟩] scope pos) 0 (.ref it) .none Y.env) []) (hc : Y.calm = true) (hco : Y.env.scope.isCoroutine = false) (T : Turn Y.prog Y.w Y.K tg J fp it tn)
    (hx : Y.ex = fp) (hpn : Y.pn = []) (hafp : a ∉ fp) (pg : PG Y tg g) (pt : PTs Y ifs tt) (pe : PE Y elt te) (hW : Wk d J g tt te vs σ W Qe Qd) (hxe : Y.xe = fun _ _ => False)
    (m : Nat) (H : Hp) (s₀ s : Shared) (I : Inv Y [(a, go)] (wipe σ vs) H s) (st : tn 0 s.heap) (nf : ∀ b ∈ fp, H b = none) (w : W 0 m H) :
      Seg (model Y.prog Y.w) A (YR Y a go (wipe σ vs) Qe) (YP d Y a go (wipe σ vs) Qd) (m + 1) s₀
        (.compStart (.GeneratorExp elt [⟨tg, iter, ifs, 0⟩] scope pos) 0 (.ref it) .none Y.env)
        ((model Y.prog Y.w).den (.compStart (.GeneratorExp elt [⟨tg, iter, ifs, 0⟩] scope pos) 0 (.ref it) .none Y.env)) [] s := by
  have loop := seg_gl (iter := iter) (scope := scope) (pos := pos) hA hc hco T hx hpn hafp pg pt pe hW hxe m (m + 1) (Nat.lt_succ_self m) 0 H s₀ s I st nf w
  show Seg _ A _ _ _ s₀ _ ((compStart (.GeneratorExp elt [⟨tg, iter, ifs, 0⟩] scope pos) 0 (.ref it) .none Y.env).onRaise (leaving Y.env)) [] s
  unfold compStart
  rw [Sem.onRaise_eq_wrap]
  show Seg _ A _ _ _ s₀ _ ((ask >>= _).wrap _ _ _ _) [] s
  refine seg_bind_wrap (wpAny_askSetting ?_)
  split
  · exact seg_again rfl loop
  · first
      | exact seg_bind_wrap (wpAny_rule (seg_bind_wrap (wpAny_standAt (seg_bind_wrap (T.self _ 0 s _ _ st (seg_again rfl loop))))))
      | (refine seg_bind_wrap (wpAny_rule ?_); show Seg _ A _ _ _ s₀ _ ((standAt iter.pos >>= _).wrap _ _ _ _) [] s; exact seg_bind_wrap (wpAny_standAt (seg_bind_wrap (T.self _ 0 s _ _ st (seg_again rfl loop)))))

/-- the loop of all(..) -/
theorem loop_all {prog : Program} {w : World} {gn : Nat} {ws : L2.St} {Qe Qd : Hp → Prop} {Rr : Result → Shared → Prop} (hh : A.handled = none) (hroom : A.depth < recursionLimit) (hgo : ∀ h : Heap, h.get? a = some go → h.IsGen a gn)
    (hT : ∀ s₁ h', YE Y a go ws Qe s₁ → (∀ b o, s₁.heap.get? b = some o → h'.get? b = some o) → Rr (.ok (.ret (.bool true))) { s₁.setGen gn .finished with heap := h' })
    (hF : ∀ s₁ gs' H, gs'.bare = true → Inv Y [(a, go)] ws H s₁ → Qd H → Rr (.ok (.ret (.bool false))) (s₁.setGen gn gs')) :
    ∀ (n : Nat) (s : Shared) (gs : GenState), s.heap.get? a = some go → s.heap.NoLimit → AllBare s.gens → s.gens[gn]? = some gs →
      (∀ s'' : Shared, s''.heap = s.heap → s''.os = s.os → AllBare s''.gens → gs.Goes (model prog w) A.in1.in1 (YR Y a go ws Qe) (YP false Y a go ws Qd) n (.send .none) s'') →
      codeAny (model prog w) A (.builtin "all.loop" ⟨[.ref a], []⟩) Rr s := by
  intro n
  induction n with
  | zero =>
    intro s gs hg hl hb hgs hgoes
    refine codeAny_builtin F.entry_all_loop ?_
    rw [Around.under_plainId F.plain_all_loop _]
    show wpAny _ A.in1 (pyNext (.ref a) >>= _) _ _ s
    refine wpAny_bind (wpAny_pyNext_genexpQ (P := fun _ _ s₁ => YE Y a go ws Qe s₁) hh hl hroom (hgo _ hg) hgs (hgoes _ rfl rfl (bare_set hb rfl)) (fun v s₁ gs' hb' hv => ?_) (fun s₁ hp h' hk => ?_))
    · obtain ⟨c, H, rfl, I, q⟩ := hv
      cases c with
      | false =>
        rw [if_pos rfl] at q
        refine wpAny_bind (wpAny_holding (wpAny_truthy_bool (wpAny_bind (wpAny_letGo ?_))))
        refine wpAny_bind (wpAny_rule (wpAny_pure ?_))
        exact hF s₁ gs' H hb' I q
      | true =>
        rw [if_neg (by decide)] at q
        exact (q s₁ rfl rfl I.bare).elim
    · refine wpAny_bind (wpAny_rule (wpAny_pure ?_))
      exact hT s₁ h' hp hk
  | succ n ih =>
    intro s gs hg hl hb hgs hgoes
    have hlt : gn < s.gens.size := by
      rcases Nat.lt_or_ge gn s.gens.size with h' | h'
      · exact h'
      · rw [Array.getElem?_eq_none h'] at hgs; cases hgs
    refine codeAny_builtin F.entry_all_loop ?_
    rw [Around.under_plainId F.plain_all_loop _]
    show wpAny _ A.in1 (pyNext (.ref a) >>= _) _ _ s
    refine wpAny_bind (wpAny_with_gens (Nat.le_refl s.gens.size) (wpAny_pyNext_genexpQ (P := fun _ _ s₁ => YE Y a go ws Qe s₁) hh hl hroom (hgo _ hg) hgs (hgoes _ rfl rfl (bare_set hb rfl)) (fun v s₁ gs' hb' hv => ?_) (fun s₁ hp h' hk => ?_)))
    · intro hsz
      have hsz : s.gens.size ≤ s₁.gens.size := by
        have z : s.gens.size ≤ (s₁.setGen gn gs').gens.size := hsz
        simpa [Shared.setGen] using z
      obtain ⟨c, H, rfl, I, q⟩ := hv
      cases c with
      | false =>
        rw [if_pos rfl] at q
        refine wpAny_bind (wpAny_holding (wpAny_truthy_bool (wpAny_bind (wpAny_letGo ?_))))
        refine wpAny_bind (wpAny_rule (wpAny_pure ?_))
        exact hF s₁ gs' H hb' I q
      | true =>
        rw [if_neg (by decide)] at q
        refine wpAny_bind (wpAny_holding (wpAny_truthy_bool (wpAny_bind (wpAny_letGo ?_))))
        refine wpAny_pure ⟨plainId_quiet F.plain_all_loop _, ih (s₁.setGen gn gs') gs' ?_ ?_ (bare_set I.bare hb') ?_ fun s'' h1 h2 h3 => q s'' h1 h2 h3⟩
        · exact (I.pin (a, go) (List.mem_append_right _ (List.mem_singleton.mpr rfl))).1
        · exact I.nolimit
        · show (s₁.gens.setIfInBounds gn gs')[gn]? = some gs'
          rw [Array.getElem?_setIfInBounds_self_of_lt (Nat.lt_of_lt_of_le hlt hsz)]
    · intro _
      refine wpAny_bind (wpAny_rule (wpAny_pure ?_))
      exact hT s₁ h' hp hk

/-- the loop of any(..) -/
theorem loop_any {prog : Program} {w : World} {gn : Nat} {ws : L2.St} {Qe Qd : Hp → Prop} {Rr : Result → Shared → Prop} (hh : A.handled = none) (hroom : A.depth < recursionLimit) (hgo : ∀ h : Heap, h.get? a = some go → h.IsGen a gn)
    (hT : ∀ s₁ h', YE Y a go ws Qe s₁ → (∀ b o, s₁.heap.get? b = some o → h'.get? b = some o) → Rr (.ok (.ret (.bool false))) { s₁.setGen gn .finished with heap := h' })
    (hF : ∀ s₁ gs' H, gs'.bare = true → Inv Y [(a, go)] ws H s₁ → Qd H → Rr (.ok (.ret (.bool true))) (s₁.setGen gn gs')) :
    ∀ (n : Nat) (s : Shared) (gs : GenState), s.heap.get? a = some go → s.heap.NoLimit → AllBare s.gens → s.gens[gn]? = some gs →
      (∀ s'' : Shared, s''.heap = s.heap → s''.os = s.os → AllBare s''.gens → gs.Goes (model prog w) A.in1.in1 (YR Y a go ws Qe) (YP true Y a go ws Qd) n (.send .none) s'') →
      codeAny (model prog w) A (.builtin "any.loop" ⟨[.ref a], []⟩) Rr s := by
  intro n
  induction n with
  | zero =>
    intro s gs hg hl hb hgs hgoes
    refine codeAny_builtin F.entry_any_loop ?_
    rw [Around.under_plainId F.plain_any_loop _]
    show wpAny _ A.in1 (pyNext (.ref a) >>= _) _ _ s
    refine wpAny_bind (wpAny_pyNext_genexpQ (P := fun _ _ s₁ => YE Y a go ws Qe s₁) hh hl hroom (hgo _ hg) hgs (hgoes _ rfl rfl (bare_set hb rfl)) (fun v s₁ gs' hb' hv => ?_) (fun s₁ hp h' hk => ?_))
    · obtain ⟨c, H, rfl, I, q⟩ := hv
      cases c with
      | true =>
        rw [if_pos rfl] at q
        refine wpAny_bind (wpAny_holding (wpAny_truthy_bool (wpAny_bind (wpAny_letGo ?_))))
        refine wpAny_bind (wpAny_rule (wpAny_pure ?_))
        exact hF s₁ gs' H hb' I q
      | false =>
        rw [if_neg (by decide)] at q
        exact (q s₁ rfl rfl I.bare).elim
    · refine wpAny_bind (wpAny_rule (wpAny_pure ?_))
      exact hT s₁ h' hp hk
  | succ n ih =>
    intro s gs hg hl hb hgs hgoes
    have hlt : gn < s.gens.size := by
      rcases Nat.lt_or_ge gn s.gens.size with h' | h'
      · exact h'
      · rw [Array.getElem?_eq_none h'] at hgs; cases hgs
    refine codeAny_builtin F.entry_any_loop ?_
    rw [Around.under_plainId F.plain_any_loop _]
    show wpAny _ A.in1 (pyNext (.ref a) >>= _) _ _ s
    refine wpAny_bind (wpAny_with_gens (Nat.le_refl s.gens.size) (wpAny_pyNext_genexpQ (P := fun _ _ s₁ => YE Y a go ws Qe s₁) hh hl hroom (hgo _ hg) hgs (hgoes _ rfl rfl (bare_set hb rfl)) (fun v s₁ gs' hb' hv => ?_) (fun s₁ hp h' hk => ?_)))
    · intro hsz
      have hsz : s.gens.size ≤ s₁.gens.size := by
        have z : s.gens.size ≤ (s₁.setGen gn gs').gens.size := hsz
        simpa [Shared.setGen] using z
      obtain ⟨c, H, rfl, I, q⟩ := hv
      cases c with
      | true =>
        rw [if_pos rfl] at q
        refine wpAny_bind (wpAny_holding (wpAny_truthy_bool (wpAny_bind (wpAny_letGo ?_))))
        refine wpAny_bind (wpAny_rule (wpAny_pure ?_))
        exact hF s₁ gs' H hb' I q
      | false =>
        rw [if_neg (by decide)] at q
        refine wpAny_bind (wpAny_holding (wpAny_truthy_bool (wpAny_bind (wpAny_letGo ?_))))
        refine wpAny_pure ⟨plainId_quiet F.plain_any_loop _, ih (s₁.setGen gn gs') gs' ?_ ?_ (bare_set I.bare hb') ?_ fun s'' h1 h2 h3 => q s'' h1 h2 h3⟩
        · exact (I.pin (a, go) (List.mem_append_right _ (List.mem_singleton.mpr rfl))).1
        · exact I.nolimit
        · show (s₁.gens.setIfInBounds gn gs')[gn]? = some gs'
          rw [Array.getElem?_setIfInBounds_self_of_lt (Nat.lt_of_lt_of_le hlt hsz)]
    · intro _
      refine wpAny_bind (wpAny_rule (wpAny_pure ?_))
      exact hT s₁ h' hp hk
end

theorem room_over {k : Nat} {A : Around} {elt : Expr} {gs : List Comprehension} {scope : Scope} {pos : Pos} {it acc : Value} {ce : Env} (hr : Room (k + 1) A) : Room k (A.in1.in1.over (.compLoop (.GeneratorExp elt gs scope pos) 0 it acc ce) []) := by
  have h1 := hr.hd
  have h2 := hr.dp
  have h3 := hr.un
  have w : (Code.compLoop (.GeneratorExp elt gs scope pos) 0 it acc ce).weight = 1 := rfl
  have u : (Code.compLoop (.GeneratorExp elt gs scope pos) 0 it acc ce).cUnits = 3 := rfl
  refine ⟨h1, ?_, ?_⟩
  · show A.depth + 0 + _ + 3 * k + 5 < _
    rw [w]; omega
  · show A.units + 1 + 1 + 0 + _ + 16 * k + 200 < _
    rw [u]; omega
theorem frames_over {A : Around} {elt : Expr} {gs : List Comprehension} {scope : Scope} {pos : Pos} {it acc : Value} {ce : Env} {l : List Env} (hf : A.frames = some l) : (A.in1.in1.over (.compLoop (.GeneratorExp elt gs scope pos) 0 it acc ce) []).frames = some (ce :: l) := by
  show pushEnvs [ce] (pushEnvs [] A.frames) = _
  rw [hf]; rfl
end GX
namespace GX
open PySem PySem.Spec PyProof.Rows L2 GxR

/-- a generator expression's names, code, table -/
structure GenX (X : Cx) (scope : Scope) (own : List (Str × Nat)) (c P : Addr) : Prop where
  ok : BlkOk X.N X.env.scope scope own
  nc : ∀ y ∈ scope.names, y.2 ≠ .cell
  co : scope.isCoroutine = false
  dot : scope.names.lookup (".0" : Str) = some NameKind.local
  tb : TabB X.base X.mg c P
  code : X.env.code = .ref c

abbrev gEnv (X : Cx) (scope : Scope) (C : Addr) (code : Value) : Env := genEnv scope (cloFrom X.env.cells scope.names []) C code builtinsNs X.env

section
variable {X : Cx} {pins : List (Addr × Obj)} {σ : L2.St} {H : Hp} {s : Shared}
/-- the generator is made -/
def GReady (d : Bool) (X : Cx) (pins : List (Addr × Obj)) (σ : L2.St) (Qe Qd : Hp → Prop) (u : Value) (s5 : Shared) : Prop :=
  ∃ (a : Addr) (gn : Nat) (go : Obj) (Y : Cx) (ws : L2.St) (n : Nat) (gs : GenState), u = .ref a ∧ (∀ h : Heap, h.get? a = some go → h.IsGen a gn) ∧ s5.heap.get? a = some go ∧ s5.heap.NoLimit ∧ AllBare s5.gens ∧ s5.gens[gn]? = some gs ∧
    (∀ s'' : Shared, s''.heap = s5.heap → s''.os = s5.os → AllBare s''.gens → gs.Goes (model X.prog X.w) X.A.in1.in1 (YR Y a go ws Qe) (YP d Y a go ws Qd) n (.send .none) s'') ∧
    (∀ s₁ H s', Inv Y [(a, go)] ws H s₁ → s'.os = s₁.os → (∀ b o, s₁.heap.get? b = some o → s'.heap.get? b = some o) → AllBare s'.gens → Inv X pins σ H s')

theorem gen_makeG {d : Bool} {tg elt iter : Expr} {ifs : List Expr} {scope : Scope} {own : List (Str × Nat)} {gpos : Pos} {c P : Addr} {wi : TI} {g : TG} {tt : TT} {te : TE} {k : Nat} {Qe Qd : Hp → Prop}
    (hr : Room (k + 1) X.A) (hc : X.calm = true) (hN : X.N.Nodup) (G : GenX X scope own c P) (hs : ∀ v, genFold iter X.env v = pure v) (hi : PI X tg iter wi)
    (hg : ∀ (s : Shared) (H : Hp) (C : Addr) (code : Value) (fp : List Addr) (A' : Around), Room k A' → PG (gCx X s H (gEnv X scope C code) fp A') tg g)
    (ht : ∀ (s : Shared) (H : Hp) (C : Addr) (code : Value) (fp : List Addr) (A' : Around), Room k A' → PTs (gCx X s H (gEnv X scope C code) fp A') ifs tt)
    (he : ∀ (s : Shared) (H : Hp) (C : Addr) (code : Value) (fp : List Addr) (A' : Around), Room k A' → PE (gCx X s H (gEnv X scope C code) fp A') elt te)
    (I : Inv X pins σ H s)
    (h : wi σ H fun J H1 => TabG H1 P ∧ ∀ H2, Tabbed P H1 H2 → ∃ W : Nat → Nat → Hp → Prop, (∃ m, W 0 m H2) ∧ Wk d J g tt te (own.map (·.2)) σ W Qe Qd) :
    wpAny (model X.prog X.w) X.A (eval (.GeneratorExp elt [⟨tg, iter, ifs, 0⟩] scope gpos) X.env) (GReady d X pins σ Qe Qd) X.xe s := by
  have ok := G.ok
  have hfree : ∀ y ∈ scope.names, y.2 = .free → ∃ c, X.env.cells.lookup y.1 = some c := fun y hy e => by
    rcases ok.free y hy e with k | k
    · exact I.ok.has _ (.inl k)
    · exact I.ok.has _ (.inr k)
  have dp := hr.dp
  refine wpAny_GeneratorExp_make G.co (closure_ok hfree) G.nc G.dot ok.kind (by omega) (thn (hi.run pins s σ H _ I h) fun xv s1 hx => thn hx fun itv s2 h2 => ?_) hs
  obtain ⟨it, fp, tn, J, H1, e, I1, T, st1, f1, ⟨ps, hP, hps⟩, q⟩ := h2
  subst e
  refine ⟨I1.nolimit, ?_⟩
  have tb0 : s2.heap.get? P = some { cls := .none, data := .fields ps } := I1.hok P _ hP
  have code1 : PySem.W.CodeHd s2.heap c P := G.tb.code.keeps fun b o e => I1.bk b o e
  have rest : ∀ (code : Value) (h3 : Heap) (tk : Nat) (ps3 : Array Value), Heap.ExtBut P s2.heap h3 → s2.heap.objs.size ≤ h3.objs.size → h3.get? P = some { cls := .none, data := .fields ps3 } →
      (∃ q, ps3 = ps ++ q) → TriplesOk ps3.toList →
      wpAny (model X.prog X.w) X.A (builtinsFor X.env.globals X.env.builtins) (fun bi s4 => ∀ h', h'.Ns s4.heap.objs.size (fun y => if y = ".0" then some (Value.ref it) else none) → Heap.SameBut s4.heap.objs.size (s4.heap.push { cls := .type "frame", data := .dict #[] }) h' →
          GReady d X pins σ Qe Qd (.ref h'.objs.size) { s4 with
            gens := s4.gens.push (.fresh (.compStart (.GeneratorExp elt [⟨tg, iter, ifs, 0⟩] scope gpos) 0 (.ref it) .none (genEnv scope (cloFrom X.env.cells scope.names []) s4.heap.objs.size code bi X.env))),
            toks := s4.toks + 1 + 1 + 1,
            heap := h'.push { cls := .type "generator", data := .fields #[.int s4.gens.size 0, .str "<genexpr>" (s4.toks + 1), .str (X.env.qual ++ "<genexpr>") (s4.toks + 1 + 1)] } }) X.xe { s2 with heap := h3, toks := tk } := by
    intro code h3 tk ps3 ext le3 tb3 ⟨qq, hq⟩ ok3
    obtain ⟨bm, om, m1, m2, m3, m4, m5, m6, m7, m8⟩ := G.tb.bm
    have k3 : ∀ b o, b ≠ P → s2.heap.get? b = some o → h3.get? b = some o := fun b o ne e => ext b o ne e
    refine wpAny_builtinsFor (m := X.mg) ?_ m1 m2 (k3 _ _ m4 (I1.bk _ _ m5)) m6 m7 m8 ?_
    · rw [I1.ok.glob]
      exact (I1.mod.glob.keeps I1.bk).extBut ext G.tb.gP
    rw [hq] at tb3
    have I4 : Inv X pins σ (upd H1 P (.tbl (ps ++ qq))) { s2 with heap := h3, toks := tk } := inv_tab (g' := s2.gens) (d' := s2.drawn) (t' := tk) I1 hP k3 tb3 I1.bare
    generalize hH4 : upd H1 P (.tbl (ps ++ qq)) = H4 at I4
    have TbG : Tabbed P H1 H4 := by
      subst hH4
      exact ⟨⟨ps ++ qq, upd_same, by rw [← hq]; exact ok3⟩, fun b ne => upd_ne ne⟩
    have nP : ∀ b ∈ fp, b ≠ P := fun b hb z => by
      have := (f1 b hb).1
      rw [z, hP] at this
      cases this
    have sz : ∀ b ∈ fp, b < s2.heap.objs.size := fun b hb => by
      obtain ⟨o, e, _⟩ := T.obj _ _ st1 b hb
      exact Heap.lt_size e
    have f4 : ∀ b ∈ fp, FpOk X pins H4 b ∧ b < h3.objs.size := fun b hb =>
      ⟨⟨by rw [TbG.2 b (nP b hb)]; exact (f1 b hb).1, (f1 b hb).2⟩, Nat.lt_of_lt_of_le (sz b hb) le3⟩
    have st3 : tn 0 h3 := T.keep _ _ _ st1 fun b hb o e => k3 b o (nP b hb) e
    obtain ⟨W, ⟨m0, w0⟩, hW⟩ := q H4 TbG
    generalize hs4 : ({ s2 with heap := h3, toks := tk } : Shared) = s4 at I4 ⊢
    have hh4 : s4.heap = h3 := by rw [← hs4]
    have f4 : ∀ b ∈ fp, FpOk X pins H4 b ∧ b < s4.heap.objs.size := by rw [hh4]; exact f4
    have st4 : tn 0 s4.heap := by rw [hh4]; exact st3
    intro h' hn' hs'
    have hsz : h'.objs.size = s4.heap.objs.size + 1 := by rw [hs'.1, Heap.size_push]
    have keep' : ∀ b o, s4.heap.get? b = some o → h'.get? b = some o := fun b o e => hs'.extBut b o (Nat.ne_of_lt (Heap.lt_size e)) (Heap.get?_push_of_some _ e)
    generalize hgo : ({ cls := .type "generator", data := .fields #[.int s4.gens.size 0, .str "<genexpr>" (s4.toks + 1), .str (X.env.qual ++ "<genexpr>") (s4.toks + 1 + 1)] } : Obj) = go
    have gog : ∀ h : Heap, h.get? h'.objs.size = some go → h.IsGen h'.objs.size s4.gens.size := fun h e => by
      rw [← hgo] at e
      exact ⟨_, _, _, e, rfl, rfl, rfl⟩
    have keep5 : ∀ b o, s4.heap.get? b = some o → (h'.push go).get? b = some o := fun b o e => Heap.get?_push_of_some _ (keep' b o e)
    have gfree : go.isFreed = false := by rw [← hgo]; rfl
    have hgoAt : (h'.push go).get? h'.objs.size = some go := Heap.get?_push_size _ gfree
    generalize hce : genEnv scope (cloFrom X.env.cells scope.names []) s4.heap.objs.size code builtinsNs X.env = ce
    generalize hA' : X.A.in1.in1.over (.compLoop (.GeneratorExp elt [⟨tg, iter, ifs, 0⟩] scope gpos) 0 (.ref it) .none ce) [] = A'
    have rm : Room k A' := by rw [← hA']; exact room_over hr
    have fr : A'.frames = some (ce :: X.stack) := by rw [← hA']; exact frames_over I1.ok.frames
    have bare5 : ∀ (x : GenState), x.bare = true → AllBare (s4.gens.push x) := fun x hx => I4.bare.push hx
    have I5 : ∀ (gs : Array GenState) (tk5 : Nat), AllBare gs → Inv (gCx X s4 H4 ce fp A') [(h'.objs.size, go)] (wipe σ (own.map (·.2))) H4 { s4 with gens := gs, toks := tk5, heap := h'.push go } := fun gs tk5 hb =>
      gen_start (X := X) (s := s4) (H := H4) (scope := scope) (own := own) (code := code) (m := fun y => if y = ".0" then some (Value.ref it) else none) I4 ok G.nc hN f4 (fun _ => rm.hd) fr hce.symm keep5 (hn'.push _) hgoAt (by rw [hsz]; exact Nat.lt_succ_self _) (fun v z => by rw [← hgo] at z; cases z) rfl hb
    have pg := hg s4 H4 s4.heap.objs.size code fp A' rm
    have pt := ht s4 H4 s4.heap.objs.size code fp A' rm
    have pe := he s4 H4 s4.heap.objs.size code fp A' rm
    have hce' : gEnv X scope s4.heap.objs.size code = ce := hce
    rw [hce'] at pg pt pe
    have cco : ce.scope.isCoroutine = false := by rw [← hce]; exact G.co
    refine ⟨h'.objs.size, s4.gens.size, go, gCx X s4 H4 ce fp A', wipe σ (own.map (·.2)), m0 + 1, _, rfl, gog, hgoAt, I4.nolimit.keeps keep5, bare5 _ rfl, Array.getElem?_push_size .., fun s'' h1 h2 h3' => ⟨rfl, ?_⟩, fun s₁ H' s' I6 ho kk hb => ?_⟩
    · refine seg_gs (Y := gCx X s4 H4 ce fp A') (fp := fp) (tn := tn) (J := J) (W := W) hA'.symm hc cco T rfl rfl (fun z => ?_) pg pt pe hW rfl m0 H4 s'' s'' (inv_heap (I5 (s4.gens.push .finished) 0 (bare5 _ rfl)) h1 h2 h3') ?_ (fun b hb => (f4 b hb).1.1) w0
      · have z2 : h'.objs.size < s4.heap.objs.size := (f4 _ z).2
        rw [hsz] at z2
        exact absurd z2 (by omega)
      · rw [h1]
        exact T.keep _ _ _ st4 fun b _ o e => keep5 b o e
    · exact I4.call' (ch := fp) (ho.trans I6.os) (Un.trans I6.base (Un.kept kk)) (I6.hok.kept kk) hb fun b hb => ⟨(f4 b hb).1.2.2.2.1, (f4 b hb).1.2.1, (f4 b hb).1.2.2.2.2.1, (f4 b hb).1.2.2.2.2.2⟩
  cases hcd : codeAmong gpos ps.toList with
  | some cv =>
    exact wpAny_genexprCode_hit G.code (code1.code tb0 hps) hcd (rest cv _ s2.toks ps (Heap.ExtBut.refl _ _) (Nat.le_refl _) tb0 ⟨#[], (Array.append_empty).symm⟩ hps)
  | none =>
    refine wpAny_genexprCodeX G.code (code1.code tb0 hps) (code1.tab tb0) hcd ?_
    intro c' h' tk ext ge lt isC _ tab' _
    obtain ⟨o1, v1, f1, f2, f3, f4, f5, f6, f7, f8, _, _, _, _, _, _, _, _, _, okT, _⟩ := isC
    exact rest _ h' tk _ ext (Nat.le_trans ge (Nat.le_of_lt lt)) tab'.2 ⟨_, rfl⟩ okT

/-- all(elt for tg in iter if ..), any(..): W by the turn and a measure -/
def tWalk (d : Bool) (P : Addr) (wi : TI) (g : TG) (tt : TT) (te : TE) (vs : List Nat) : TE := fun σ H Q => wi σ H fun J H1 => TabG H1 P ∧ ∀ H2, Tabbed P H1 H2 → ∃ W : Nat → Nat → Hp → Prop, (∃ m, W 0 m H2) ∧
  Wk d J g tt te vs σ W (fun H => Q (.bl (!d)) H) (fun H => Q (.bl d) H)

theorem pe_allG {tg elt iter : Expr} {ifs : List Expr} {scope : Scope} {own : List (Str × Nat)} {gpos p pos : Pos} {c P : Addr} {wi : TI} {g : TG} {tt : TT} {te : TE} {k : Nat}
    (hr : Room (k + 1) X.A) (hc : X.calm = true) (hN : X.N.Nodup) (hgl : Gl X "all") (hm : X.mg "all" = none) (G : GenX X scope own c P) (hi : PI X tg iter wi)
    (hg : ∀ (s : Shared) (H : Hp) (C : Addr) (code : Value) (fp : List Addr) (A' : Around), Room k A' → PG (gCx X s H (gEnv X scope C code) fp A') tg g)
    (ht : ∀ (s : Shared) (H : Hp) (C : Addr) (code : Value) (fp : List Addr) (A' : Around), Room k A' → PTs (gCx X s H (gEnv X scope C code) fp A') ifs tt)
    (he : ∀ (s : Shared) (H : Hp) (C : Addr) (code : Value) (fp : List Addr) (A' : Around), Room k A' → PE (gCx X s H (gEnv X scope C code) fp A') elt te)
    (hs : ∀ v, genFold iter X.env v = pure v)
    (hst : starEach [.GeneratorExp elt [⟨tg, iter, ifs, 0⟩] scope gpos] X.env = (false, eval (.GeneratorExp elt [⟨tg, iter, ifs, 0⟩] scope gpos) X.env) :: starEach [] X.env := by rfl) :
    PE X (.Call (.Name "all" p) [.GeneratorExp elt [⟨tg, iter, ifs, 0⟩] scope gpos] [] pos) (tWalk false P wi g tt te (own.map (·.2))) := by
  refine ⟨fun pins s σ H Q I h => ?_⟩
  refine wpAny_Call_Name_kw (ld_blt I hgl hm (show bootBuiltins "all" = some (.builtin "all") by decide +kernel) ?_)
  refine PyProof.Rows.callWith_builtin1 ?_ hst (by rfl)
  rw [hst]
  have dp := hr.dp
  refine Calls.spliced_cons (thn (gen_makeG (d := false) hr hc hN G hs hi hg ht he I h) fun u s5 R => ?_)
  obtain ⟨a, gn, go, Y, ws, n, gs, rfl, gog, hgo, hl, hb, hgs, goes, back⟩ := R
  refine Calls.spliced_nil (call_function_tree F.kind_all F.plain_all F.entry_all (F.args_all1 _) ?_)
  unfold Builtin.«all»
  refine wpAny_bind (m := oneArg "all" _) (wpAny_pure ?_)
  refine wpAny_bind (wpAny_pyIter_gen (gog _ hgo) (wpAny_pure ⟨plainId_quiet F.plain_all_loop _, loop_all (Y := Y) (go := go) (ws := ws) (Qe := fun H => Q (.bl (!false)) H) (Qd := fun H => Q (.bl false) H) hr.hd (by omega) gog (fun s₁ h' ⟨H', I', q⟩ hk => ?_) (fun s₁ gs' H' hb' I' q => ?_) n s5 gs hgo hl hb hgs goes⟩))
  · exact ⟨.bl false, H', back s₁ H' _ I' rfl (fun _ _ e => e) (bare_set I'.bare hb'), rfl, q⟩
  · exact ⟨.bl true, H', back s₁ H' _ I' rfl hk (bare_set I'.bare rfl), rfl, q⟩

theorem pe_anyG {tg elt iter : Expr} {ifs : List Expr} {scope : Scope} {own : List (Str × Nat)} {gpos p pos : Pos} {c P : Addr} {wi : TI} {g : TG} {tt : TT} {te : TE} {k : Nat}
    (hr : Room (k + 1) X.A) (hc : X.calm = true) (hN : X.N.Nodup) (hgl : Gl X "any") (hm : X.mg "any" = none) (G : GenX X scope own c P) (hi : PI X tg iter wi)
    (hg : ∀ (s : Shared) (H : Hp) (C : Addr) (code : Value) (fp : List Addr) (A' : Around), Room k A' → PG (gCx X s H (gEnv X scope C code) fp A') tg g)
    (ht : ∀ (s : Shared) (H : Hp) (C : Addr) (code : Value) (fp : List Addr) (A' : Around), Room k A' → PTs (gCx X s H (gEnv X scope C code) fp A') ifs tt)
    (he : ∀ (s : Shared) (H : Hp) (C : Addr) (code : Value) (fp : List Addr) (A' : Around), Room k A' → PE (gCx X s H (gEnv X scope C code) fp A') elt te)
    (hs : ∀ v, genFold iter X.env v = pure v)
    (hst : starEach [.GeneratorExp elt [⟨tg, iter, ifs, 0⟩] scope gpos] X.env = (false, eval (.GeneratorExp elt [⟨tg, iter, ifs, 0⟩] scope gpos) X.env) :: starEach [] X.env := by rfl) :
    PE X (.Call (.Name "any" p) [.GeneratorExp elt [⟨tg, iter, ifs, 0⟩] scope gpos] [] pos) (tWalk true P wi g tt te (own.map (·.2))) := by
  refine ⟨fun pins s σ H Q I h => ?_⟩
  refine wpAny_Call_Name_kw (ld_blt I hgl hm (show bootBuiltins "any" = some (.builtin "any") by decide +kernel) ?_)
  refine PyProof.Rows.callWith_builtin1 ?_ hst (by rfl)
  rw [hst]
  have dp := hr.dp
  refine Calls.spliced_cons (thn (gen_makeG (d := true) hr hc hN G hs hi hg ht he I h) fun u s5 R => ?_)
  obtain ⟨a, gn, go, Y, ws, n, gs, rfl, gog, hgo, hl, hb, hgs, goes, back⟩ := R
  refine Calls.spliced_nil (call_function_tree F.kind_any F.plain_any F.entry_any (F.args_any1 _) ?_)
  unfold Builtin.«any»
  refine wpAny_bind (m := oneArg "any" _) (wpAny_pure ?_)
  refine wpAny_bind (wpAny_pyIter_gen (gog _ hgo) (wpAny_pure ⟨plainId_quiet F.plain_any_loop _, loop_any (Y := Y) (go := go) (ws := ws) (Qe := fun H => Q (.bl (!true)) H) (Qd := fun H => Q (.bl true) H) hr.hd (by omega) gog (fun s₁ h' ⟨H', I', q⟩ hk => ?_) (fun s₁ gs' H' hb' I' q => ?_) n s5 gs hgo hl hb hgs goes⟩))
  · exact ⟨.bl true, H', back s₁ H' _ I' rfl (fun _ _ e => e) (bare_set I'.bare hb'), rfl, q⟩
  · exact ⟨.bl false, H', back s₁ H' _ I' rfl hk (bare_set I'.bare rfl), rfl, q⟩
end
end GX
namespace GX
open PySem PySem.Spec PyProof.Rows L2 GxR
/-! the walks of all(..), any(..) by an invariant -/
theorem wk_range {d : Bool} {lo : Int} {n : Nat} {g : TG} {tt : TT} {te : TE} {vs : List Nat} {σ : L2.St} {Qe Qd : Hp → Prop} {H0 : Hp} (Pv : Nat → Hp → Prop) (h0 : Pv 0 H0)
    (hs : ∀ i H, i < n → Pv i H → g (.int (lo + i)) (wipe σ vs) H fun σ2 H2 => wipe σ2 vs = wipe σ vs ∧ tt σ2 H2 fun b H3 =>
      if b = true then te σ2 H3 fun y H4 => ∃ c, y = .bl c ∧ if c = d then Qd H4 else Pv (i + 1) H4 else Pv (i + 1) H3) (hd : ∀ H, Pv n H → Qe H) :
    ∃ W : Nat → Nat → Hp → Prop, (∃ m, W 0 m H0) ∧ Wk d (Itr lo n) g tt te vs σ W Qe Qd := by
  refine ⟨fun i m H => m = n - i ∧ i ≤ n ∧ Pv i H, ⟨n, by simp, Nat.zero_le _, h0⟩, ?_⟩
  rintro i m H ⟨rfl, hi, p⟩
  by_cases hlt : i < n
  · refine .inr ⟨hlt, Pv (i + 1), fun H' p' => ⟨n - (i + 1), by omega, rfl, hlt, p'⟩, fun x H' y => ?_⟩
    obtain ⟨rfl, rfl⟩ := y
    exact hs i _ hlt p
  · have e : i = n := by omega
    subst e
    exact .inl ⟨Nat.le_refl _, hd H p⟩
theorem wk_list {d : Bool} {K : PySem.W.Frag} {a : Addr} {xs : List V} {g : TG} {tt : TT} {te : TE} {vs : List Nat} {σ : L2.St} {Qe Qd : Hp → Prop} {H0 : Hp} (Pv : Nat → Hp → Prop) (h0 : Pv 0 H0) (hl : ∀ i H, i ≤ xs.length → Pv i H → SqL K H a xs)
    (hs : ∀ i x H, xs[i]? = some x → Pv i H → g x (wipe σ vs) H fun σ2 H2 => wipe σ2 vs = wipe σ vs ∧ tt σ2 H2 fun b H3 =>
      if b = true then te σ2 H3 fun y H4 => ∃ c, y = .bl c ∧ if c = d then Qd H4 else Pv (i + 1) H4 else Pv (i + 1) H3) (hd : ∀ H, Pv xs.length H → Qe H) :
    ∃ W : Nat → Nat → Hp → Prop, (∃ m, W 0 m H0) ∧ Wk d (Itl K a) g tt te vs σ W Qe Qd := by
  refine ⟨fun i m H => m = xs.length - i ∧ i ≤ xs.length ∧ Pv i H, ⟨xs.length, by simp, Nat.zero_le _, h0⟩, ?_⟩
  rintro i m H ⟨rfl, hi, p⟩
  have q := hl i H hi p
  by_cases hlt : i < xs.length
  · refine .inr ⟨⟨xs, xs[i], q, by simp [hlt]⟩, Pv (i + 1), fun H' p' => ⟨xs.length - (i + 1), by omega, rfl, hlt, p'⟩, fun x H' y => ?_⟩
    obtain ⟨rfl, e⟩ := y
    exact hs i x _ (e xs q) p
  · have e : i = xs.length := by omega
    subst e
    exact .inl ⟨⟨xs, q, Nat.le_refl _⟩, hd H p⟩
end GX
/-! dicts keyed by tuples: del, truth, comprehensions; a dict comprehension whatever its keys are -/
namespace GX
open PySem PySem.Spec PyProof.Rows L2 GxR

section
variable {X : Cx}
theorem ktDrop {H : Hp} {kvs : List (List Key × V)} {xs : List (List Key × Addr × Value)} (k : List Key) (h : KT H kvs xs) : KT H (dropK kvs k) (withoutH xs k) := DX.KT_drop k h
/-- del d[y], keys tuples -/
def sDDelT (td ty : TE) : TS := fun D σ H => td σ H fun x H1 => ty σ H1 fun y H2 => ∃ (a : Addr) (kvs : List (List Key × V)) (k : List Key) (b : Addr), x = .ref a ∧ H2 a = some (.dT kvs) ∧ y = .ref b ∧ H2 b = some (.tup (k.map kV)) ∧ (valV kvs k).isSome = true ∧ D.nx σ (upd H2 a (.dT (dropK kvs k)))
theorem ps_ddelT {o i : Expr} {pos tpos : Pos} {td ty : TE} (hu : X.A.units + 1 < cLine) (ho : PE X o td) (hi : PE X i ty) : PS X (.Delete [.Subscript o i tpos] pos) (sDDelT td ty) := by
  refine ⟨fun pins s σ H D I h => ?_⟩
  refine wpAny_Delete (wpAny_deleteEach_cons (wpAny_delete_Subscript (thn (ho.run pins s σ H _ I h) fun u s1 ⟨x, H1, I1, rx, q1⟩ => thn (hi.run pins s1 σ H1 _ I1 q1) fun iv s2 ⟨y, H2, I2, ry, a, kvs, k, b, ex, e, ey, eb, l, q2⟩ => ?_)))
  subst ex ey
  obtain rfl : u = Value.ref a := rx
  obtain rfl : iv = Value.ref b := ry
  obtain ⟨z, hd, xs, rel, dd⟩ := dt_of I2.hok e
  have hz : xs.length ≤ sizeLine := by rw [← Paired.length rel]; exact z
  have r := rel.val k
  obtain ⟨v0, ev⟩ := Option.isSome_iff_exists.mp l
  obtain ⟨w', hw, _⟩ := RelO.some_of (v := v0) (o := (atKey xs k).map (·.2)) (by rw [← ev]; exact r)
  obtain ⟨p, hp, _⟩ := Option.map_eq_some_iff.mp hw
  refine wpAny_delItem_heap (hsz := hz) (tupleKind_room_in1 hu) (key_of I2.hok eb) hd dd hp fun h' dd' hs => ?_
  obtain ⟨q, es, ep, hq, h2, h3, h4, _, h5⟩ := dd'
  refine wpAny_deleteEach_nil ⟨σ, _, d_write (ob := .dT (dropK kvs k)) I2 (by rw [e]; exact True.intro) hs ⟨q, hq⟩ ⟨Nat.le_trans (dropK_le kvs k) z, hd, _, (ktDrop k rel).keeps fun c ys ec => ?_, q, es, ep, hq, h2, h3, h4, h5⟩, q2⟩
  rw [upd_ne (ne_of ec e (fun z => nomatch z))]
  exact ec
end
section
variable {prog : Program} {w : World} {κ : Type} [DecidableEq κ] {knd : HeapKind prog w κ} {A : Around} {E : Value → Shared → Prop} {s : Shared}
/-- the truth of a dict whose keys stand in the heap -/
theorem truthy_dictH {d : Addr} {xs : List (κ × Addr × Value)} {Q : Bool → Shared → Prop} (hd : (d == sysModules) = false) (hm : s.heap.DictOfH knd d xs) (hfit : (xs.length : Int) < 2 ^ 63)
    (h : Q (!xs.isEmpty) { s with toks := s.toks + 1 + 1 }) : wpAny (model prog w) A (truthy (.ref d)) Q E s := by
  have hne : ((xs.length : Int) != 0) = !xs.isEmpty := by cases xs <;> simp <;> omega
  have len : wpAny (model prog w) A (runValue (.builtin "len" ⟨[.ref d], []⟩)) (fun r s' => r = .int xs.length (s.toks + 1) ∧ Q (!xs.isEmpty) s') E s := by
    refine wpAny_runValue (codeAny_builtin entry_len ?_)
    rw [Around.under_plainId plain_len _]
    exact wpAny_mono (wpAny_len_body_dictH (Q := fun r s' => r = .int xs.length (s.toks + 1) ∧ Q (!xs.isEmpty) s') hd hm hfit ⟨rfl, h⟩) (fun fin s' ⟨r, e, q⟩ => by subst e; exact q) fun _ _ e => e
  have fin : ∀ (r : Value) (s' : Shared), (r = .int xs.length (s.toks + 1) ∧ Q (!xs.isEmpty) s') → wpAny (model prog w) A (match r with | .int n _ => pure (n != 0) | _ => pure true) Q E s' := fun r s' ⟨e, q⟩ => by
    subst e
    exact wpAny_pure (hne ▸ q)
  unfold truthy
  first
    | refine wpAny_bind (wpAny_callSpecial?_none (name := Str.ofString "__bool__") hm.typeIs noBool_dict ?_)
    | refine wpAny_bind (wpAny_pure (wpAny_bind (wpAny_callSpecial?_none (name := Str.ofString "__bool__") hm.typeIs noBool_dict ?_)))
  first
    | refine wpAny_bind (wpAny_specialOf (name := Str.ofString "__len__") hm.typeIs F.slot_dict_len.lookup ?_)
    | refine wpAny_bind (wpAny_pure (wpAny_bind (wpAny_specialOf (name := Str.ofString "__len__") hm.typeIs F.slot_dict_len.lookup ?_)))
  first
    | exact wpAny_bind (wpAny_mono len (fun r s' ⟨e, q⟩ => by subst e; exact wpAny_pure (hne ▸ q)) fun _ _ e => e)
    | exact wpAny_bind (wpAny_pure (wpAny_bind (wpAny_mono len (fun r s' ⟨e, q⟩ => by subst e; exact wpAny_pure (hne ▸ q)) fun _ _ e => e)))
end
section
variable {X : Cx}
def tTruT (ta : TE) : TT := fun σ H Q => ta σ H fun x H1 => ∃ (a : Addr) (kvs : List (List Key × V)), x = .ref a ∧ H1 a = some (.dT kvs) ∧ Q (!kvs.isEmpty) H1
theorem pt_truT {e : Expr} {ta : TE} (ha : PE X e ta) (he : ∀ whole, isTrue e X.env whole = (do let v ← whole; standAt e.pos; holding [v] (truthy v))) : PT X e (tTruT ta) := by
  refine ⟨fun pins s σ H Q I h => ?_⟩
  refine isTrue_plain (thn (ha.run pins s σ H _ I h) fun v s1 ⟨x, H1, I1, r1, a, kvs, ex, e1, q⟩ => ?_) (he _)
  subst ex
  obtain rfl : v = Value.ref a := r1
  obtain ⟨z, hd, xs, rel, dd⟩ := dt_of I1.hok e1
  have hl : kvs.length = xs.length := Paired.length rel
  have h63 := line63
  have ee : xs.isEmpty = kvs.isEmpty := by
    cases kvs with
    | nil => cases xs with
      | nil => rfl
      | cons _ _ => cases hl
    | cons _ _ => cases xs with
      | nil => cases hl
      | cons _ _ => rfl
  exact truthy_dictH hd dd (by omega) ⟨H1, I1.tok _, by rw [ee]; exact q⟩

/-! ### a dict comprehension: o0 the empty dict, put the reading of a store -/
def PutR (put : Addr → V → V → Hp → (Hp → Prop) → Prop) (X : Cx) : Prop := ∀ (pins : List (Addr × Obj)) (s : Shared) (σ : L2.St) (H : Hp) (D : Addr) (y z : V) (u r : Value) (N : Hp → Prop), Inv X pins σ H s → RelV y u → RelV z r → put D y z H N →
  wpAny (model X.prog X.w) X.A (dictSet D u r) (fun _ s' => ∃ H', Inv X pins σ H' s' ∧ N H') (fun _ _ => False) s
def tDg (o0 : HO) (put : Addr → V → V → Hp → (Hp → Prop) → Prop) (wi : TI) (g : TG) (tt : TT) (tk tv : TE) (vs : List Nat) : TE := fun σ H Q => wi σ H fun J H1 => ∀ D, H1 D = none → ∃ W : Nat → Nat → Hp → Prop, (∃ m, W 0 m (upd H1 D o0)) ∧ ∀ i m H, W i m H →
  (J.stop i H ∧ Q (.ref D) H) ∨ (J.go i H ∧ ∃ Nx : Hp → Prop, (∀ H', Nx H' → ∃ m', m' < m ∧ W (i + 1) m' H') ∧ ∀ x H', J.yld i H x H' → g x (wipe σ vs) H' fun σ2 H2 => wipe σ2 vs = wipe σ vs ∧ tt σ2 H2 fun b H3 =>
    if b = true then tk σ2 H3 fun y H4 => tv σ2 H4 fun z H5 => put D y z H5 Nx else Nx H3)
theorem dg_core {o0 : HO} {put : Addr → V → V → Hp → (Hp → Prop) → Prop} {pins : List (Addr × Obj)} {s : Shared} {σ : L2.St} {H : Hp} {Q : VK} {kx vx tg iter : Expr} {ifs : List Expr} {scope : Scope} {own : List (Str × Nat)} {pos pos' : Pos} {wi : TI} {g : TG} {tt : TT} {tk tv : TE} {use : Option (Value → Sem Unit)} {Qf : Value → Shared → Prop}
    (he0 : ∀ (H : Hp) (h : Heap), sysModules < h.objs.size → ObjOk X.prog X.w H (h.push { cls := .type "dict", data := .dict #[] }) h.objs.size o0)
    (hc : X.calm = true) (hN : X.N.Nodup) (I : Inv X pins σ H s) (hi : PI X tg iter wi) (ok : BlkOk X.N X.env.scope scope own)
    (hg : ∀ (s : Shared) (H : Hp) (C : Addr) (cl : List (Str × Addr)) (fp : List Addr), PG (X.blk s H scope (compEnvC scope cl C X.env) fp) tg g) (ht : ∀ (s : Shared) (H : Hp) (C : Addr) (cl : List (Str × Addr)) (fp : List Addr), PTs (X.blk s H scope (compEnvC scope cl C X.env) fp) ifs tt)
    (hk : ∀ (s : Shared) (H : Hp) (C : Addr) (cl : List (Str × Addr)) (fp : List Addr), PE (X.blk s H scope (compEnvC scope cl C X.env) fp) kx tk)
    (he : ∀ (s : Shared) (H : Hp) (C : Addr) (cl : List (Str × Addr)) (fp : List Addr), PE (X.blk s H scope (compEnvC scope cl C X.env) fp) vx tv)
    (hp : ∀ (s : Shared) (H : Hp) (C : Addr) (cl : List (Str × Addr)) (fp : List Addr), PutR put (X.blk s H scope (compEnvC scope cl C X.env) fp)) (hs : ∀ x, foldedSetIterable iter X.env x = pure x)
    (h : tDg o0 put wi g tt tk tv (own.map (·.2)) σ H Q)
    (hRR : ∀ D C s' m H', Inv X pins σ H' s' → Q (.ref D) H' → s'.heap.Ns C m → FpOk X pins H' C → compPost (model X.prog X.w) X.A X.xe use Qf (.ref D) C (.ok .next) s') :
    wpAny (model X.prog X.w) X.A (comprehension (.DictComp kx vx [⟨tg, iter, ifs, 0⟩] scope pos) scope X.env pos' newDict false (eval iter X.env) use) Qf X.xe s := by
  have hfree : ∀ y ∈ scope.names, y.2 = .free → ∃ c, X.env.cells.lookup y.1 = some c := fun y hy e => (ok.free y hy e).elim (fun k => I.ok.has _ (.inl k)) fun k => I.ok.has _ (.inr k)
  refine wpAny_comprehension_free (use := use) rfl hs (closure_ok hfree) ok.kind (fun y hy e => by rw [ok.uniq y hy, e]) (thn (hi.run pins s σ H _ I h) fun xv s1 hx => thn hx fun itv s2 ⟨it, fp, tn, J, H2, e, I2, T, st2, f2, q⟩ => ?_)
  subst e
  refine wpAny_newObj_type (newEnv_comp ?_)
  obtain ⟨W, ⟨m0, w0⟩, turn⟩ := q s2.heap.objs.size (I2.hok.fresh (Nat.le_refl _))
  have I3 : Inv X pins σ (upd H2 s2.heap.objs.size o0) { s2 with heap := s2.heap.push { cls := .type "dict", data := .dict #[] } } :=
    I2.laid (t' := s2.toks) (fun b o e => Heap.get?_push_of_some _ e) (Nat.le_refl _) (he0 _ _ I2.big)
  have f3 : ∀ b ∈ fp, FpOk X pins (upd H2 s2.heap.objs.size o0) b ∧ b < (s2.heap.push { cls := .type "dict", data := .dict #[] }).objs.size := fun b hb => by
    obtain ⟨o, e, _⟩ := T.obj _ _ st2 b hb
    have hlt := Heap.lt_size e
    exact ⟨⟨by rw [upd_ne (Nat.ne_of_lt hlt)]; exact (f2 b hb).1, (f2 b hb).2⟩, by rw [Heap.size_push]; exact Nat.lt_succ_of_lt hlt⟩
  have st3 : tn 0 (s2.heap.push { cls := .type "dict", data := .dict #[] }) := T.keep _ _ _ st2 fun b _ o e => Heap.get?_push_of_some _ e
  generalize s2.heap.objs.size = D at I3 f3 w0 turn ⊢
  generalize hs3 : ({ s2 with heap := s2.heap.push { cls := .type "dict", data := .dict #[] } } : Shared) = s3 at I3 ⊢
  have h3 : s2.heap.push { cls := .type "dict", data := .dict #[] } = s3.heap := by rw [← hs3]
  rw [h3] at f3 st3
  have I4 := block_start I3 ok hN f3
  have pg := hg s3 (upd H2 D o0) s3.heap.objs.size (cellsFrom (s3.heap.objs.size + 1) scope.names (cloFrom X.env.cells scope.names [])) fp
  have pt := ht s3 (upd H2 D o0) s3.heap.objs.size (cellsFrom (s3.heap.objs.size + 1) scope.names (cloFrom X.env.cells scope.names [])) fp
  have pk := hk s3 (upd H2 D o0) s3.heap.objs.size (cellsFrom (s3.heap.objs.size + 1) scope.names (cloFrom X.env.cells scope.names [])) fp
  have pe := he s3 (upd H2 D o0) s3.heap.objs.size (cellsFrom (s3.heap.objs.size + 1) scope.names (cloFrom X.env.cells scope.names [])) fp
  have pp := hp s3 (upd H2 D o0) s3.heap.objs.size (cellsFrom (s3.heap.objs.size + 1) scope.names (cloFrom X.env.cells scope.names [])) fp
  show codeAny _ _ (.compStart (.DictComp kx vx [⟨tg, iter, ifs, 0⟩] scope pos) 0 (.ref it) (.ref D) (compEnvC scope (cellsFrom (s3.heap.objs.size + 1) scope.names (cloFrom X.env.cells scope.names [])) s3.heap.objs.size X.env)) (compPost (model X.prog X.w) X.A X.xe use Qf (.ref D) s3.heap.objs.size) { s3 with heap := pushCells (s3.heap.push { cls := .type "dict", data := .dict #[] }) scope.names }
  generalize hce : compEnvC scope (cellsFrom (s3.heap.objs.size + 1) scope.names (cloFrom X.env.cells scope.names [])) s3.heap.objs.size X.env = ce at I4 pg pt pk pe pp ⊢
  have cL : ce.locals = s3.heap.objs.size := by rw [← hce]; rfl
  have nfp : ∀ b ∈ fp, upd H2 D o0 b = none := fun b hb => (f3 b hb).1.1
  generalize upd H2 D o0 = H3 at I3 I4 pg pt pk pe pp w0 nfp f3
  have st4 : tn 0 (pushCells (s3.heap.push { cls := .type "dict", data := .dict #[] }) scope.names) := T.keep _ _ _ st3 fun b _ o e => pushCells_keeps _ _ _ _ (Heap.get?_push_of_some _ e)
  generalize hs4 : ({ s3 with heap := pushCells (s3.heap.push { cls := .type "dict", data := .dict #[] }) scope.names } : Shared) = s4 at I4 ⊢
  have st4 : tn 0 s4.heap := by rw [← hs4]; exact st4
  generalize hY : X.blk s3 H3 scope ce fp = Y at I4 pg pt pk pe pp
  have yx : Y.ex = fp ∧ Y.pn = [] ∧ Y.prog = X.prog ∧ Y.w = X.w ∧ Y.K = X.K ∧ Y.calm = true ∧ Y.A = X.A ∧ Y.env = ce ∧ Y.xe = (fun _ _ => False) ∧ Y.fs = frs X.stack ∧ Y.H_0 = H3 ∧ Y.s_0 = s3 := by
    rw [← hY]
    exact ⟨rfl, rfl, rfl, rfl, rfl, hc, rfl, rfl, rfl, rfl, rfl, rfl⟩
  obtain ⟨y1, y2, y3, y4, y5, y6, y7, y8, y9, y10, y11, y12⟩ := yx
  have T0 := T
  have T : Turn Y.prog Y.w Y.K tg J fp it tn := by rw [y3, y4, y5]; exact T
  have stat : ∀ {σ' : L2.St} {H' : Hp} {s' : Shared}, Inv Y [] σ' H' s' → (∀ b ∈ fp, H' b = none) → ∀ b ∈ fp, FpOk Y [] H' b := fun {σ' H' s'} I' hn b hb =>
    ⟨hn b hb, (I'.ok.exf b (y1 ▸ hb)).1, I'.ok.exfs b (y1 ▸ hb), .inl (y1 ▸ hb), fun x c e => (I'.ok.exf b (y1 ▸ hb)).2 x c e, fun p hp => by rw [y2] at hp; cases hp⟩
  have loop : codeAny (model X.prog X.w) X.A (.compLoop (.DictComp kx vx [⟨tg, iter, ifs, 0⟩] scope pos) 0 (.ref it) (.ref D) ce) (compPost (model X.prog X.w) X.A X.xe use Qf (.ref D) s3.heap.objs.size) s4 := by
    refine compLoop_anyD (fun n s' => ∃ i H', Inv Y [] (wipe σ (own.map (·.2))) H' s' ∧ tn i s'.heap ∧ (∀ b ∈ fp, H' b = none) ∧ W i n H') ?_ m0 ⟨0, H3, I4, st4, nfp, w0⟩
    rw [← y3, ← y4, ← y7, ← y8]
    rintro n s5 ⟨i, H5, I5, st5, n5, w5⟩
    rcases turn i n H5 w5 with ⟨stop, qq⟩ | ⟨go, Nx, hNx, step⟩
    · refine thnF (T.done Y rfl rfl rfl y6 i [] s5 _ H5 (fun _ _ => False) I5 (stat I5 n5) st5 stop) fun r s6 ⟨hr, I6⟩ => ?_
      subst hr
      have b6 := I6.base
      rw [y10, y1, y11, y12] at b6
      have o6 := I6.os
      rw [y12] at o6
      have k6 := I6.hok
      rw [y3, y4] at k6
      have I7 : Inv X pins σ H5 s6 := I3.call' (ch := fp) o6 b6 k6 I6.bare fun b hb => ⟨(f3 b hb).1.2.2.2.1, (f3 b hb).1.2.1, (f3 b hb).1.2.2.2.2.1, (f3 b hb).1.2.2.2.2.2⟩
      have nC : H5 s3.heap.objs.size = none := by
        have z := I6.free
        rw [y8, cL] at z
        exact z
      obtain ⟨m, hn, _⟩ := I6.loc
      rw [y8, cL] at hn
      show compPost _ _ _ _ _ _ _ _ _
      rw [y3, y4, y7]
      exact hRR D s3.heap.objs.size s6 m H5 I7 qq hn (I3.fpOk (Nat.le_refl _) nC)
    · refine thnF (T.item Y rfl rfl rfl y6 i [] s5 _ H5 (fun _ _ => False) I5 (stat I5 n5) st5 go) fun r s6 ⟨u, hr, h6⟩ => ?_
      subst hr
      refine thnF h6 fun _ s7 ⟨x, H7, I7, r7, yy, st7, n7⟩ => ?_
      have I7' := I7.pinned (stat I7 n7) (T.obj _ _ st7)
      have a1 := pg.run _ s7 _ H7 x u _ I7' r7 (step x H7 yy)
      rw [y9] at a1
      refine thnF a1 fun _ s8 ⟨σ8, H8, I8, hw8, q8⟩ => ?_
      have a2 := pt.run _ s8 σ8 H8 _ I8 q8
      rw [y9] at a2
      refine thnF a2 fun b s9 ⟨H9, I9, q9⟩ => ?_
      have fin : ∀ {s' : Shared} {H' : Hp}, Inv Y ([] ++ pinsAt fp s7.heap) σ8 H' s' → Nx H' → ∃ m, m < n ∧ ∃ i H', Inv Y [] (wipe σ (own.map (·.2))) H' s' ∧ tn i s'.heap ∧ (∀ b ∈ fp, H' b = none) ∧ W i m H' := fun {s' H'} I' nx => by
        obtain ⟨m', hm, w'⟩ := hNx H' nx
        have pin' : ∀ b ∈ fp, ∀ o, s7.heap.get? b = some o → s'.heap.get? b = some o ∧ H' b = none := fun b hb o e =>
          let z := I'.pin (b, o) (List.mem_append_right _ (List.mem_append_right _ (mem_pinsAt hb e)))
          ⟨z.1, z.2.1⟩
        refine ⟨m', hm, i + 1, H', (I'.unpinned (pins := [])).weak (by rw [← wipe_length σ8 (own.map (·.2)), hw8]) (fun j v e => ?_), T.keep _ _ _ st7 fun b hb o e => (pin' b hb o e).1, fun b hb => ?_, w'⟩
        · rw [← hw8] at e
          exact (wipe_some e).1
        · obtain ⟨o, e, _⟩ := T.obj _ _ st7 b hb
          exact (pin' b hb o e).2
      cases b with
      | false =>
        simp only [Bool.false_eq_true, if_false] at q9 ⊢
        exact fin I9 q9
      | true =>
        simp only [if_true] at q9 ⊢
        have a3 := pk.run _ s9 σ8 H9 _ I9 q9
        rw [y9] at a3
        refine thnF a3 fun z s10 ⟨yk, H10, I10, r10, q10⟩ => ?_
        have a4 := pe.run _ s10 σ8 H10 _ I10 q10
        rw [y9] at a4
        refine thnF a4 fun z2 s11 ⟨yv, H11, I11, r11, q11⟩ => ?_
        exact thnF (pp _ s11 σ8 H11 D yk yv z z2 Nx I11 r10 r11 q11) fun _ s12 ⟨H12, I12, nx⟩ => fin I12 nx
  exact codeAny_compStart_dict loop (T0.self X.A 0 _ _ _ st4 loop)
theorem pe_dg {o0 : HO} {put : Addr → V → V → Hp → (Hp → Prop) → Prop} {kx vx tg iter : Expr} {ifs : List Expr} {scope : Scope} {own : List (Str × Nat)} {pos : Pos} {wi : TI} {g : TG} {tt : TT} {tk tv : TE}
    (he0 : ∀ (H : Hp) (h : Heap), sysModules < h.objs.size → ObjOk X.prog X.w H (h.push { cls := .type "dict", data := .dict #[] }) h.objs.size o0) (hc : X.calm = true) (hN : X.N.Nodup) (hi : PI X tg iter wi) (ok : BlkOk X.N X.env.scope scope own)
    (hg : ∀ (s : Shared) (H : Hp) (C : Addr) (cl : List (Str × Addr)) (fp : List Addr), PG (X.blk s H scope (compEnvC scope cl C X.env) fp) tg g) (ht : ∀ (s : Shared) (H : Hp) (C : Addr) (cl : List (Str × Addr)) (fp : List Addr), PTs (X.blk s H scope (compEnvC scope cl C X.env) fp) ifs tt)
    (hk : ∀ (s : Shared) (H : Hp) (C : Addr) (cl : List (Str × Addr)) (fp : List Addr), PE (X.blk s H scope (compEnvC scope cl C X.env) fp) kx tk)
    (he : ∀ (s : Shared) (H : Hp) (C : Addr) (cl : List (Str × Addr)) (fp : List Addr), PE (X.blk s H scope (compEnvC scope cl C X.env) fp) vx tv)
    (hp : ∀ (s : Shared) (H : Hp) (C : Addr) (cl : List (Str × Addr)) (fp : List Addr), PutR put (X.blk s H scope (compEnvC scope cl C X.env) fp)) (hs : ∀ x, foldedSetIterable iter X.env x = pure x := by intro _; rfl) :
    PE X (.DictComp kx vx [⟨tg, iter, ifs, 0⟩] scope pos) (tDg o0 put wi g tt tk tv (own.map (·.2))) := by
  refine ⟨fun pins s σ H Q I h => ?_⟩
  rw [arm_eval_DictComp]
  refine dg_core he0 hc hN I hi ok hg ht hk he hp hs h fun D C s' m H' I' q hn ⟨f0, f1, f2, f3, f4, f5⟩ => ⟨m, hn, fun h'' sb => ?_⟩
  exact ⟨.ref D, H', I'.turned (t' := s'.toks) (fun b o hb e => (sb.2 b hb).trans e) f0 f1 f3 f4 f5, rfl, q⟩
theorem sw_dict {kx vx : Expr} {gs : List Comprehension} {scope : Scope} {pos py : Pos} {y : Str} {l : Nat} {env : Env} (hk : env.scope.kind = .function) (hy : env.scope.names.lookup y = some .local) (hl : (py.line == pos.line) = true)
    (ha : (scope.names.any fun (n, k) => n == y && (k == .local || k == .cell)) = false) : swapsWith (.DictComp kx vx gs scope pos) (some (.Name y py)) l env = pure true := by
  have h1 : env.kindOf y = some .local := hy
  have h2 : env.blockKind = .function := by unfold Env.blockKind; rw [hk]; rfl
  unfold swapsWith
  simp only [h2, h1, ha, Expr.pos, hl]
  rfl
/-- name = {..} on one line, the name a local -/
theorem ps_setDg {o0 : HO} {put : Addr → V → V → Hp → (Hp → Prop) → Prop} {i : Nat} {y : Str} {py : Pos} {kx vx tg iter : Expr} {ifs : List Expr} {scope : Scope} {own : List (Str × Nat)} {pos spos : Pos} {wi : TI} {g : TG} {tt : TT} {tk tv : TE}
    (he0 : ∀ (H : Hp) (h : Heap), sysModules < h.objs.size → ObjOk X.prog X.w H (h.push { cls := .type "dict", data := .dict #[] }) h.objs.size o0) (hc : X.calm = true) (hN : X.N.Nodup) (hy : X.N[i]? = some y) (hyl : X.env.scope.names.lookup y = some .local)
    (hsw : swapsWith (.DictComp kx vx [⟨tg, iter, ifs, 0⟩] scope pos) (some (.Name y py)) spos.line X.env = pure true) (hi : PI X tg iter wi) (ok : BlkOk X.N X.env.scope scope own)
    (hg : ∀ (s : Shared) (H : Hp) (C : Addr) (cl : List (Str × Addr)) (fp : List Addr), PG (X.blk s H scope (compEnvC scope cl C X.env) fp) tg g) (ht : ∀ (s : Shared) (H : Hp) (C : Addr) (cl : List (Str × Addr)) (fp : List Addr), PTs (X.blk s H scope (compEnvC scope cl C X.env) fp) ifs tt)
    (hk : ∀ (s : Shared) (H : Hp) (C : Addr) (cl : List (Str × Addr)) (fp : List Addr), PE (X.blk s H scope (compEnvC scope cl C X.env) fp) kx tk)
    (he : ∀ (s : Shared) (H : Hp) (C : Addr) (cl : List (Str × Addr)) (fp : List Addr), PE (X.blk s H scope (compEnvC scope cl C X.env) fp) vx tv)
    (hp : ∀ (s : Shared) (H : Hp) (C : Addr) (cl : List (Str × Addr)) (fp : List Addr), PutR put (X.blk s H scope (compEnvC scope cl C X.env) fp)) (hs : ∀ x, foldedSetIterable iter X.env x = pure x := by intro _; rfl) :
    PS X (.Assign [.Name y py] (.DictComp kx vx [⟨tg, iter, ifs, 0⟩] scope pos) spos) (tAsg (tDg o0 put wi g tt tk tv (own.map (·.2))) (gName i)) := by
  refine ⟨fun pins s σ H D I h => ?_⟩
  rw [exec_Assign_Name_used _ _ _ _ hsw]
  refine wpAny_bind (wpAny_standAt (wpAny_bind ?_))
  show wpAny _ X.A (do let _ ← comprehension (.DictComp kx vx [⟨tg, iter, ifs, 0⟩] scope pos) scope X.env (firstIterPos [⟨tg, iter, ifs, 0⟩] pos) newDict false (eval iter X.env) (some (assign (.Name y py) X.env))) _ _ s
  have h : tDg o0 put wi g tt tk tv (own.map (·.2)) σ H (fun x H1 => gName i x σ H1 D.nx) := h
  refine wpAny_bind (thn (dg_core (Qf := fun _ s' => SP X pins D .next s') he0 hc hN I hi ok hg ht hk he hp hs h fun L C s' m H' I' q hn ⟨f0, f1, f2, f3, f4, f5⟩ => ?_) fun _ s' hq => wpAny_pure (wpAny_pure hq))
  show wpAny _ _ (assign (.Name y py) X.env (.ref L)) _ _ _
  refine wpAny_assign_Name (store_ok2 (v := V.ref L) I' hN hy (.inl hyl) rfl (fun s2 I2 ⟨a, sb, ha⟩ => ?_) (.inr hyl))
  have haC : C ≠ a := ha.elim (fun z => by rw [z]; exact f1) fun z e => f4 y a z e.symm
  exact ⟨m, hn.sameBut sb haC, fun h3 sb3 => ⟨_, H', I2.turned (t' := s2.toks) (fun b o hb e => (sb3.2 b hb).trans e) f0 f1 f3 f4 f5, q⟩⟩
/-- keys tuples of ints and texts -/
def putT (D : Addr) (y z : V) (H : Hp) (N : Hp → Prop) : Prop := ∃ (kvs : List (List Key × V)) (k : List Key) (b : Addr), y = .ref b ∧ H b = some (.tup (k.map kV)) ∧ H D = some (.dT kvs) ∧ kvs.length < sizeLine ∧ N (upd H D (.dT (putK kvs k z)))
theorem putR_T {Y : Cx} (hu : Y.A.units < cLine) : PutR putT Y := by
  intro pins s σ H D y z u r N I ry rz ⟨kvs, k, b, ey, eb, e, l, n⟩
  subst ey
  obtain rfl : u = Value.ref b := ry
  obtain ⟨zz, hd, xs, rel, dd⟩ := dt_of I.hok e
  have hz : xs.length ≤ sizeLine := by rw [← Paired.length rel]; exact zz
  have hl : (putK kvs k z).length ≤ sizeLine := by have := length_putK kvs k z; omega
  refine wpAny_dictSet_heap (hsz := hz) hu (key_of I.hok eb) dd fun h' dd' hs => ⟨_, ?_, n⟩
  obtain ⟨q, es, ep, hq, h2, h3, h4, _, h5⟩ := dd'
  refine d_write I (by rw [e]; exact True.intro) hs ⟨q, hq⟩ ⟨hl, hd, _, (rel.put k eb rz).keeps fun c ys ec => ?_, q, es, ep, hq, h2, h3, h4, h5⟩
  rw [upd_ne (ne_of ec e (fun z => nomatch z))]
  exact ec
end
end GX
/-! repr in a law's body: a def that is called by the caller alone, and the law's end for it -/
namespace GX
open PySem PySem.Spec PyProof.Rows L2 GxR
/-- repr(x), x plain data of lists and tuples -/
def rRepr (K : PySem.W.Frag) : List V → Hp → VK → Prop := fun xs H Q => ∃ (p : Addr) (d : PyData), xs = [.ref p] ∧ Dp K H (.ref p) d ∧ d.showable = true ∧ d.hasDict = false ∧ d.depth ≤ 60 ∧ d.shown.length ≤ sizeLine ∧ Q (.str d.shown) H
theorem cr_repr {X : Cx} (hg : X.A.guards = some []) (hu : X.A.units + 64 < cLine) : CallR X (.builtin "repr") (rRepr X.K) := by
  intro pins s σ H xs us Q I r ⟨p, d, ex, hd, h1, h2, h3, h4, q⟩
  subst ex
  obtain ⟨u, rfl, rx⟩ := vals1 r
  obtain ⟨as, rd⟩ := Dp.reads I d (.ref p) u hd rx
  obtain rfl : u = Value.ref p := rx
  exact repr_of_reads' (hsz := h4) rd h1 (fun z => by rw [h2] at z; cases z) hg (by omega) (fun _ _ e => e) fun h' u tk hk => ⟨.str d.shown, H, I.kept (t' := tk) hk, ⟨u, rfl⟩, q⟩
/-- what a def does when the caller calls it -/
structure FnC (P : Program) (w : World) (K : PySem.W.Frag) (mg : Str → Option Value) (base : Heap) (f : Addr) (fd : FuncData) (ps : List Str) (sp : Sp) : Prop where
  run : ∀ (s : Shared) (H : Hp) (args : Args) (us : List Value) (vs : List V) (Q : VK) (E : XK), Env0 P w K mg base callerA [] s H → BindsTo s fd args (ps.zip us) → Vals vs us → sp vs H Q E →
    codeAny (model P w) callerA (.call (.ref f) args) (CR CX0 [] P w H s Q E) s
theorem fn_C {P : Program} {w : World} {K : PySem.W.Frag} {mg : Str → Option Value} {base : Heap} {k : Nat} {f : Addr} {name qual : Str} {params : Arguments} {body : List Stmt} {scope : Scope} {dV kV doc pm cdv ct oc : Value} {an od : Option Addr}
    {osl : Array (Option Value)} {N ps : List Str} {sp : Sp} (hk : Room (k + 1) callerA) (lk : K.lookup f = some ⟨oc, od, .func (PySem.W.fnOf name qual params body scope dV kV doc pm an cdv ct), osl⟩) (hcd : PySem.W.codeIn K cdv qual = true) (S : FnScope N ps scope)
    (len : ∀ vs H Q E, sp vs H Q E → vs.length = ps.length)
    (hbody : ∀ (A : Around) (outer : List Env) (s : Shared) (H : Hp) (vs : List V) (Q : VK) (E : XK), A.guards = some [] → Room k (A.deeper (envOfC qual scope s.heap.objs.size f cdv)) → sp vs H Q E →
      ∃ t, PSs (cxOf CX0 P w K mg base N qual scope f cdv A outer s H E).nox body t ∧ t { nx := fun _ H' => Q .non H', rt := Q } (start N vs) H) :
    FnC P w K mg base f (PySem.W.fnOf name qual params body scope dV kV doc pm an cdv ct) ps sp where
  run := fun s H args us vs Q E e0 hb r hsp => by
    have bk := fun b o e => (e0.bs b o e).1
    have KX : K.In s.heap := e0.mod.kin.keeps bk
    obtain ⟨t, ht, hq⟩ := hbody callerA [] s H vs Q E rfl (hk.deeper _) hsp
    refine codeAny_call_function hk.depth (KX _ _ lk) rfl S.co S.gen rfl (PySem.W.codeRec_of KX hcd) (hb _ _ _ _ (wpAny_newFunctionEnv_cells S.kind (fun ⟨n, v⟩ hy => ?_) fun env he s1 x => ?_))
    · exact (S.par n (List.of_mem_zip hy).1).imp id fun q => ⟨q, PySem.W.cellsFrom_some _ _ _ (.inl q)⟩
    · subst he
      refine ⟨(e0.mod.nolimit.keeps bk).keeps x.toInCall.keep, codeAny_func (wpAny_mono (ht.nox.run [] s1 (start N vs) H _ (inv_start S hk.hd e0 (len _ _ _ _ hsp) r x) hq) (fun fl s' hs => ?_) fun e s' hs => hs)⟩
      cases fl with
      | ret u => exact let ⟨v, σ', H', J, rv, q⟩ := hs; ⟨v, H', J.os, J.bare, J.base, J.hok, rv, q⟩
      | next => exact let ⟨σ', H', J, q⟩ := hs; ⟨.non, H', J.os, J.bare, J.base, J.hok, rfl, q⟩
      | brk => exact let ⟨_, _, _, q⟩ := hs; q.elim
      | cont => exact let ⟨_, _, _, q⟩ := hs; q.elim
end GX
/-! the end of a law whose body the caller alone calls; ts: the tables of code objects that may grow -/
namespace GX
open PySem PySem.Spec PyProof.Rows L2 GxR
section
variable {P : Program} {w : World} {K : PySem.W.Frag} {mg mb : Str → Option Value} {fa a : Addr} {cs : List (Addr × Addr)} {fd : FuncData} {x : Str} {sp : Sp} {s₁ : Shared} {vs : List Value} {ns : List Int}
/-- what is known at the law's entry: the tables, the script where it is no object of the module -/
def atE (K : PySem.W.Frag) (cs : List (Addr × Addr)) (a : Addr) (vs : List Value) (ns : List Int) : Hp := fun b =>
  if b ∈ cs.map (·.2) then some (.tbl #[]) else if b = a ∧ K.lookup a = none then some (.frz { cls := .type "list", data := .seq vs.toArray } (.lst (ns.map V.int))) else none
theorem law_callC (KX : K.In s₁.heap) (hns : s₁.heap.Ns mainGlobals mg) (hb : s₁.heap.Ns builtinsNs mb) (hbb : ∀ x : Str, x ≠ "__name__" → mb x = bootBuiltins x) (hlim : s₁.heap.NoLimit) (hg : s₁.gens = #[])
    (hT : ∀ p ∈ cs, s₁.heap.get? p.2 = some { cls := .none, data := .fields #[] }) (nT : ∀ p ∈ cs, K.lookup p.2 = none) (C : ∀ p ∈ cs, PySem.W.CodeHd s₁.heap p.1 p.2)
    (hbm : ∃ (bm : Addr) (ob : Obj), mg "__builtins__" = some (.ref bm) ∧ bm ≠ builtinsNs ∧ s₁.heap.get? bm = some ob ∧ ob.cls = .type "module" ∧ ob.dict = some builtinsNs ∧ ob.data = .plain)
    (ha : s₁.heap.get? a = some { cls := .type "list", data := .seq vs.toArray }) (hi : IntsAre vs ns) (hl : ns.length ≤ sizeLine)
    (F : ∀ base : Heap, K.In base → base.Ns mainGlobals mg → (∀ p ∈ cs, TabB base mg p.1 p.2) → FnC P w K mg base fa fd [x] sp) (hbind : ∀ (s : Shared) (u : Value), BindsTo s fd ⟨[u], []⟩ [(x, u)])
    (hsp : ∀ H : Hp, (∀ p ∈ cs, H p.2 = some (.tbl #[])) → SqL K H a (ns.map V.int) → sp [.ref a] H (fun v _ => v = .bl true) fun _ _ _ => False) :
    codeAny (model P w) callerA (.call (.ref fa) ⟨[.ref a], []⟩) (fun r s' => r = .ok (.ret (.bool true)) ∧ OldK s₁.heap s'.heap ∧ s'.os = s₁.os ∧ AllBare s'.gens) s₁ := by
  have tabOf : ∀ b ∈ cs.map (·.2), s₁.heap.get? b = some { cls := .none, data := .fields #[] } := fun b hb => by
    obtain ⟨p, hp, rfl⟩ := List.mem_map.mp hb
    exact hT p hp
  have aOut : a ∉ cs.map (·.2) := fun z => by
    have := tabOf a z
    rw [ha] at this
    exact nomatch congrArg Obj.data (Option.some.inj this)
  have tabIn : ∀ p ∈ cs, p.2 ∈ cs.map (·.2) := fun p hp => List.mem_map.mpr ⟨p, hp, rfl⟩
  generalize hH : atE K cs a vs ns = H
  have H1 : ∀ p ∈ cs, H p.2 = some (.tbl #[]) := fun p hp => by
    rw [← hH]
    exact if_pos (tabIn p hp)
  have H2 : K.lookup a = none → H a = some (.frz { cls := .type "list", data := .seq vs.toArray } (.lst (ns.map V.int))) := fun z => by
    rw [← hH]
    exact (if_neg aOut).trans (if_pos ⟨rfl, z⟩)
  have H3 : ∀ b u, H b = some u → (b ∈ cs.map (·.2) ∧ u = .tbl #[]) ∨ (b = a ∧ K.lookup a = none ∧ u = .frz { cls := .type "list", data := .seq vs.toArray } (.lst (ns.map V.int))) := fun b u e => by
    rw [← hH] at e
    unfold atE at e
    split at e
    · rename_i z
      exact .inl ⟨z, (Option.some.inj e).symm⟩
    · split at e
      · rename_i z
        exact .inr ⟨z.1, z.2, (Option.some.inj e).symm⟩
      · cases e
  -- what is no list and no empty table is not tracked; nor is an object of the module
  have free : ∀ {b : Addr} {o : Obj}, s₁.heap.get? b = some o → (∀ vs n, o.data ≠ .seq vs n) → o.data ≠ .fields #[] → H b = none := fun {b o} e n1 n2 => by
    cases q : H b with
    | none => rfl
    | some u =>
      rcases H3 b u q with ⟨z, _⟩ | ⟨z, _⟩
      · rw [tabOf b z] at e
        cases e
        exact absurd rfl n2
      · rw [z, ha] at e
        cases e
        exact absurd rfl (n1 _ _)
  have freeK : ∀ b o, K.lookup b = some o → H b = none := fun b o e => by
    cases q : H b with
    | none => rfl
    | some u =>
      rcases H3 b u q with ⟨z, _⟩ | ⟨z, y, _⟩
      · obtain ⟨p, hp, rfl⟩ := List.mem_map.mp z
        rw [nT p hp] at e
        cases e
      · rw [z, y] at e
        cases e
  have inB : ∀ {b : Addr} {o : Obj}, s₁.heap.get? b = some o → H b = none → (hidT s₁.heap H).get? b = some o := fun e n => hidT_get e n
  have nsB : ∀ {b : Addr} {m : Str → Option Value}, s₁.heap.Ns b m → (hidT s₁.heap H).Ns b m := fun {b m} ⟨o, es, ep, e, d, r⟩ =>
    ⟨o, es, ep, inB e (free e (fun _ _ z => by rw [d] at z; cases z) fun z => by rw [d] at z; cases z), d, r⟩
  have kB : K.In (hidT s₁.heap H) := fun b o e => inB (KX b o e) (freeK b o e)
  have mo : L2.Mod K mg (hidT s₁.heap H) := ⟨kB, nsB hns, ⟨mb, nsB hb, hbb⟩, hlim.imp fun _ z => ⟨nsB z.1, z.2⟩⟩
  have okH : HOk P w H s₁.heap := fun b u e => by
    rcases H3 b u e with ⟨z, rfl⟩ | ⟨rfl, _, rfl⟩
    · exact tabOf b z
    · exact ⟨ha, by rw [List.length_map]; exact hl, vs, _, vals_ints hi, ha⟩
  have tB : ∀ p ∈ cs, TabB (hidT s₁.heap H) mg p.1 p.2 := fun p hp => by
    have gp := hT p hp
    obtain ⟨og, eg, epg, e1, d1, _⟩ := id hns
    refine ⟨?_, ?_, fun z => by rw [z, gp] at e1; cases e1; cases d1⟩
    · obtain ⟨o, us, file, tf, flags, tg, inF, text, tt, c1, r1, r2, r3, r⟩ := C p hp
      exact ⟨o, us, file, tf, flags, tg, inF, text, tt, inB c1 (free c1 (fun _ _ z => by rw [r2] at z; cases z) (fun z => by rw [r2] at z; cases z; simp at r3)), r1, r2, r3, r⟩
    · obtain ⟨bm, ob, b1, b2, b3, b4, b5, b6⟩ := hbm
      exact ⟨bm, ob, b1, b2, (fun z => by rw [z, e1] at b3; cases b3; rw [d1] at b6; cases b6), (fun z => by rw [z, gp] at b3; cases b3; cases b6), inB b3 (free b3 (fun _ _ z => by rw [b6] at z; cases z) (fun z => by rw [b6] at z; cases z)), b4, b5, b6⟩
  have sq : SqL K H a (ns.map V.int) := by
    cases e : K.lookup a with
    | none => exact .inl (.inr ⟨_, H2 e⟩)
    | some o =>
      have z := KX a o e
      rw [ha] at z
      cases z
      exact .inr ⟨_, vs.toArray, _, e, rfl, rfl, rfl, by rw [List.size_toArray, hi.length]; exact hl, by simpa using vals_ints hi⟩
  refine codeAny_mono ((F _ kB (nsB hns) tB).run s₁ H ⟨[.ref a], []⟩ [.ref a] [.ref a] _ _ ⟨rfl, mo, fun b o e => of_hidT e, Nat.le_of_eq (hidT_size _ _), trivial, (fun b z => nomatch z), okH, .of_eq hg⟩ (hbind s₁ (.ref a)) (.cons rfl .nil) (hsp H H1 sq)) fun r s' h => ?_
  match r, h with
  | .error e, h => exact False.elim h
  | .ok .next, h => exact False.elim h
  | .ok .brk, h => exact False.elim h
  | .ok .cont, h => exact False.elim h
  | .ok (.ret u), ⟨v, H', os, bare, un, ok', rv, q⟩ =>
    obtain rfl : v = .bl true := q
    obtain rfl : u = Value.bool true := rv
    have stay : ∀ b o, b ∉ cs.map (·.2) → s₁.heap.get? b = some o → s'.heap.get? b = some o := fun b o nb e => by
      cases q : H b with
      | none => exact un.keep b o e q (fun z => nomatch z) (fun z => nomatch z)
      | some y =>
        rcases H3 b y q with ⟨z, _⟩ | ⟨_, _, rfl⟩
        · exact absurd z nb
        · have e1 := (okH b _ q).1
          rw [e] at e1
          cases e1
          exact (ok' b _ (un.frzs b _ _ q)).1
    have grow : ∀ b ∈ cs.map (·.2), ∃ (p : Addr × Addr) (more : Array Value), p ∈ cs ∧ p.2 = b ∧ s'.heap.get? b = some { cls := .none, data := .fields (#[] ++ more) } := fun b hb => by
      obtain ⟨p, hp, rfl⟩ := List.mem_map.mp hb
      obtain ⟨more, z⟩ := un.tbls p.2 #[] (H1 p hp)
      exact ⟨p, more, hp, rfl, ok' p.2 _ z⟩
    refine ⟨rfl, ⟨fun b o e => ?_, fun b o e => ?_⟩, os, bare⟩
    · by_cases hb : b ∈ cs.map (·.2)
      · obtain ⟨p, more, hp, rfl, hm⟩ := grow b hb
        rw [hT p hp] at e
        cases e
        exact .inr (.inl ⟨((C p hp).tab (hT p hp)).isCodeTable, rfl, #[], more, rfl, hm⟩)
      · exact .inl (stay b o hb e)
    · by_cases hb : b ∈ cs.map (·.2)
      · obtain ⟨p, more, _, _, hm⟩ := grow b hb
        exact ⟨_, hm⟩
      · exact ⟨o, stay b o hb e⟩
end
/-- what is known of the law's promise at the head's heap h -/
def LawC (l : PySem.W.OpenLaw) (w : World) (K : PySem.W.Frag) (n : Nat) (x : Str) (mg : Str → Option Value) (fa : Addr) (h : Heap) : Prop :=
  ∃ (fd : FuncData) (cs : List (Addr × Addr)) (sp : Sp), (∀ p ∈ cs, h.get? p.2 = some { cls := .none, data := .fields #[] }) ∧ (∀ p ∈ cs, K.lookup p.2 = none) ∧ (∀ p ∈ cs, PySem.W.CodeHd h p.1 p.2) ∧ (∀ (s : Shared) (u : Value), BindsTo s fd ⟨[u], []⟩ [(x, u)]) ∧
    (∀ (H : Hp) (a : Addr) (ns : List Int), ns.length ≤ n → (∀ z ∈ ns, Builtin.Int.intBits z ≤ 1048576) → (∀ p ∈ cs, H p.2 = some (.tbl #[])) → SqL K H a (ns.map V.int) → sp [.ref a] H (fun v _ => v = .bl true) fun _ _ _ => False) ∧
    ∀ base : Heap, K.In base → base.Ns mainGlobals mg → (∀ p ∈ cs, TabB base mg p.1 p.2) → FnC l.prog w K mg base fa fd [x] sp
theorem walk_ofC {l : PySem.W.OpenLaw} {n : Nat} {q : Program} {loose : List Str} {XP : (Str → Option Value) → Heap → Prop} {YP : World → Heap → Prop} {d : DefRec} {K : Params → PySem.W.Frag} {x : Str}
    (hn : l.most = some n) (hn2 : n ≤ sizeLine) (hdf : d.params.defaults = []) (hY : ∀ (w : World) (h : Heap), YP w h → (K w.params).In h)
    (F : ∀ (w : World) (mg : Str → Option Value) (fa : Addr) (h : Heap), YP w h → (K w.params).In h → h.Ns mainGlobals mg → mg d.name = some (.ref fa) → LawC l w (K w.params) n x mg fa h) :
    PySem.W.WalkO q loose XP YP l.row.toRowW d [] (fun f vs => PySem.call f vs) := by
  refine Att.attach_callB hn hdf fun w s₀ s₁ mg mb fa o pm cd doc a vs ns G Y ho hd hcd hmg hobj hints hlen hbits hg => ?_
  have KX := hY w _ Y
  obtain ⟨fd, cs, sp, hT, nT, C, hb, hsp, hF⟩ := F w mg fa _ Y KX G.T.g hmg
  exact law_callC KX G.T.g G.T.b G.T.builtins G.T.nolimit hg hT nT C G.T.bmain hobj hints (Nat.le_trans hlen hn2) hF hb fun H hH hS => hsp H a ns hlen hbits hH hS
end GX
/-! the end of a law that the caller alone calls, where the program's own defs hold generator expressions -/
namespace GX
open PySem PySem.Spec PyProof.Rows L2 GxR
/-- each def of the view q has an empty table -/
def AllTabs (q : Program) (K : PySem.W.Frag) (mg : Str → Option Value) (h : Heap) : Prop :=
  ∀ (x : Str) (f : Addr), ((recsOf q).any fun e => e.name == x) = true → mg x = some (.ref f) → LamX.OwnTab K f h
theorem walk_tabsC {l : PySem.W.OpenLaw} {n : Nat} {q : Program} {loose : List Str} {XP : (Str → Option Value) → Heap → Prop} {YP : World → Heap → Prop} {d : DefRec} {K : Params → PySem.W.Frag} {x : Str}
    (hn : l.most = some n) (hn2 : n ≤ sizeLine) (hdf : d.params.defaults = []) (hY : ∀ (w : World) (h : Heap), YP w h → (K w.params).In h)
    (F : ∀ (w : World) (mg : Str → Option Value) (fa : Addr) (h : Heap), YP w h → (K w.params).In h → h.Ns mainGlobals mg → mg d.name = some (.ref fa) → AllTabs q (K w.params) mg h → LawC l w (K w.params) n x mg fa h) :
    PySem.W.WalkO q loose XP YP l.row.toRowW d [] (fun f vs => PySem.call f vs) := by
  refine Att.attach_callB hn hdf fun w s₀ s₁ mg mb fa o pm cd doc a vs ns G Y ho hd hcd hmg hobj hints hlen hbits hg => ?_
  have KX := hY w _ Y
  have tabs : AllTabs q (K w.params) mg s₁.heap := by
    intro y f hy hf c P o1 f1 e dd ws sl i1 i2 i3 i4 i5
    obtain ⟨r, hr, hr2⟩ := List.any_eq_true.mp hy
    have nm : r.name = y := beq_iff_eq.mp hr2
    obtain ⟨a2, o2, f2, c2, P2, j1, j2, j3, j4, j5, ⟨oc, vc, t1, _, t3, t4⟩, empty⟩ := G.T.tab r hr
    rw [nm, hf] at j1
    cases j1
    have at1 := KX _ _ i1
    rw [at1] at j2
    cases j2
    rw [i2] at j3
    cases j3
    rw [i3] at j4
    cases j4
    have at2 := KX _ _ i4
    rw [at2] at t1
    cases t1
    cases t3
    rw [i5] at t4
    cases t4
    exact empty
  obtain ⟨fd, cs, sp, hT, nT, C, hb, hsp, hF⟩ := F w mg fa _ Y KX G.T.g hmg tabs
  exact law_callC KX G.T.g G.T.b G.T.builtins G.T.nolimit hg hT nT C G.T.bmain hobj hints (Nat.le_trans hlen hn2) hF hb fun H hH hS => hsp H a ns hlen hbits hH hS
end GX
namespace K50
open PySem PySem.Spec PyProof.Rows L2 TR QR
def topS (i : Nat) : Stmt := PySem.Challenge.pw_quiltward_k50_labels_and_their_order.main.body.getD i (.Pass ⟨0, 0, 0, 0⟩)
abbrev sState : Stmt := topS 8
abbrev nState : List Str := ["script", "cells", "cell"]
theorem scState : FnScope nState ["script"] (defScope sState) := ⟨rfl, rfl, rfl, by decide +kernel, rfl, by decide +kernel, by decide +kernel⟩
abbrev sT : Stmt := topS 9
abbrev nT : List Str := ["state", "most", "cells", "at", "cell", "mixed"]
theorem scT : FnScope nT ["state", "most"] (defScope sT) := ⟨rfl, rfl, rfl, by decide +kernel, rfl, by decide +kernel, by decide +kernel⟩
/-- the state of the draws: a number and a list -/
structure StateAt (H : Hp) (p c : Addr) : Prop where
  ex : ∃ (n : Int) (ms : List Int), H p = some (.lst [.int n, .ref c]) ∧ H c = some (.lst (ms.map V.int)) ∧ 0 < ms.length ∧ ms.length ≤ 63 ∧ (∀ m ∈ ms, 0 ≤ m) ∧ 0 ≤ n
  ne : p ≠ c
def Drawn (p c : Addr) (H H' : Hp) : Prop := ∀ b, b ≠ p → b ≠ c → H' b = H b
theorem drawn_refl {p c : Addr} {H : Hp} : Drawn p c H H := fun _ _ _ => rfl
theorem drawn_trans {p c : Addr} {H H1 H2 : Hp} (a : Drawn p c H H1) (b : Drawn p c H1 H2) : Drawn p c H H2 := fun x h1 h2 => (b x h1 h2).trans (a x h1 h2)
theorem StateAt.mono {H H' : Hp} {p c : Addr} (s : StateAt H p c) (hp : ∀ o, H p = some o → H' p = some o) (hc : ∀ o, H c = some o → H' c = some o) : StateAt H' p c := by
  obtain ⟨⟨n, ms, h1, h2, h3⟩, ne⟩ := s
  exact ⟨⟨n, ms, hp _ h1, hc _ h2, h3⟩, ne⟩
theorem zl : 2000000 ≤ sizeLine := by
  rw [sizeLine_eq]
  decide
theorem same_new {a : Addr} {H : Hp} {o : HO} (e : H a = none) : Same H (upd H a o) := fun b o' e' => by
  rw [upd_ne (ne_of_none e' e)]
  exact e'
theorem abs_nn (z : Int) : 0 ≤ (if z < 0 then -z else z) := by
  split <;> omega
theorem cutV_nn (xs : List V) (k : Nat) : cutV xs none (some (k : Int)) = xs.take k := by
  unfold cutV
  have e1 : HT.sIx xs.length 0 none = 0 := by
    unfold HT.sIx
    simp
  have e2 : HT.sIx xs.length xs.length (some (k : Int)) = min k xs.length := by
    unfold HT.sIx
    simp
    omega
  rw [e1, e2, List.drop_zero, Nat.sub_zero]
  by_cases h : k ≤ xs.length
  · rw [Nat.min_eq_left h]
  · rw [Nat.min_eq_right (by omega), List.take_of_length_le (Nat.le_refl _), List.take_of_length_le (by omega)]
section
variable {P : Program} {w : World} {K : PySem.W.Frag} {mg : Str → Option Value} {base : Heap}
def spState (K : PySem.W.Frag) : Sp := fun vs H Q _ => ∃ (a : Addr) (ns : List Int), vs = [.ref a] ∧ SqL K H a (ns.map V.int) ∧ ns.length ≤ 63 ∧
  ∀ H' p c, Same H H' → H p = none → H c = none → StateAt H' p c → Q (.ref p) H'
theorem ok_state {f : Addr} {fd : FuncData} (F : Fun K "_law_state" "_law_state" sState f fd) (m_len : mg "len" = none) (m_abs : mg "abs" = none) : FnOk P w K mg base CX0 1 f fd ["script"] (spState K) := by
  refine F.ok scState (fun vs H Q E h => ?_) (fun cdv A outer s H vs Q E hr h => ?_)
  · obtain ⟨a, ns, rfl, _⟩ := h
    rfl
  · obtain ⟨a, ns, rfl, hS, hl, q⟩ := h
    have zl := zl
    refine ⟨_, (pss_cons (ps_setLc (i := 1) (own := [("cell", 2)]) (g := gName 2) (tt := tYes) (te := _) rfl scState.nd rfl rfl (sw_true rfl rfl rfl (by decide +kernel)) (pi_list (pe_slice sl_list (pv 0) (po_none) (po_some (pe_int)))) (blkOk_by (N := nState) (sc := defScope sState) (by decide +kernel)) (fun _ _ _ _ _ => by exact pg_name (i := 2) scState.nd rfl (.inl rfl)) (fun _ _ _ _ _ => pts_nil) (fun _ _ _ _ _ => by exact pe_callB call_abs (by rfl) m_abs (by decide +kernel) (pa_cons (pv 2) pa_nil)))
      (pss_cons (ps_if (pt_cmpR op_eq (pe_callB call_len_seq (by rfl) m_len PySem.boot_len (pa_cons (pv 1) pa_nil)) (pe_int) (nomark _))
      (pss_one (ps_set (i := 1) scState.nd rfl (.inl rfl) (pe_lst (pa_cons (pe_int) pa_nil)))) pss_nil)
      (pss_one (ps_ret (pe_lst (pa_cons (pe_int) (pa_cons (pv 1) pa_nil))))))), ?_⟩
    refine ⟨_, rfl, _, rfl, a, _, rfl, hS, fun D0 n0 => ⟨D0, rfl, ⟨_, SqL.of upd_same⟩, fun D nD => ?_⟩⟩
    have ec : cutV (ns.map V.int) none (some 63) = ns.map V.int := (cutV_nn (ns.map V.int) 63).trans (List.take_of_length_le (by rw [List.length_map]; exact hl))
    rw [ec] at nD ⊢
    have s0 : Same H (upd H D0 (.lst (ns.map V.int))) := same_new n0
    have e0 : (upd H D0 (.lst (ns.map V.int))) D0 = some (.lst (ns.map V.int)) := upd_same
    have nD0 : H D = none := by
      cases e : H D with
      | none => rfl
      | some o =>
        rw [s0 _ _ e] at nD
        cases nD
    generalize upd H D0 (.lst (ns.map V.int)) = H1 at s0 e0 nD
    refine lc_list (xs := ns.map V.int) (fun i H2 => H2 = upd H1 D (.lst (((ns.take i).map fun n => if n < 0 then -n else n).map V.int))) rfl ?_ ?_ ?_
    · rintro i H2 _ rfl
      exact SqL.of (same_new nD _ _ e0)
    · rintro i x H2 hx rfl
      rw [List.getElem?_map] at hx
      obtain ⟨n, hn, rfl⟩ := Option.map_eq_some_iff.mp hx
      refine ⟨rfl, ?_⟩
      refine ⟨_, rfl, n, rfl, _, upd_same, ?_, ?_⟩
      · rw [List.length_map, List.length_map, List.length_take]
        omega
      · rw [upd_upd, List.take_add_one, hn, List.map_append, List.map_append]
        rfl
    · rintro H2 rfl
      rw [List.length_map, List.take_length]
      have eD : (upd H1 D (.lst ((ns.map fun n => if n < 0 then -n else n).map V.int))) D = some (.lst ((ns.map fun n => if n < 0 then -n else n).map V.int)) := upd_same
      have sD : Same H (upd H1 D (.lst ((ns.map fun n => if n < 0 then -n else n).map V.int))) := fun b o e => same_new nD _ _ (s0 b o e)
      have nn : ∀ m ∈ (ns.map fun n => if n < 0 then -n else n), 0 ≤ m := fun m hm => by
        obtain ⟨n, _, rfl⟩ := List.mem_map.mp hm
        exact abs_nn n
      have ll : (ns.map fun n => if n < 0 then -n else n).length = ns.length := List.length_map _
      generalize upd H1 D (.lst ((ns.map fun n => if n < 0 then -n else n).map V.int)) = H2 at eD sD
      generalize (ns.map fun n => if n < 0 then -n else n) = ms at eD nn ll
      dsimp only [tNext, tSeq, tIfS, tAsg, gName, tC]
      have fin : ∀ (H3 : Hp) (c : Addr) (ks : List Int), Same H H3 → H c = none → H3 c = some (.lst (ks.map V.int)) → 0 < ks.length → ks.length ≤ 63 → (∀ m ∈ ks, 0 ≤ m) → ∀ p, H3 p = none → Q (.ref p) (upd H3 p (.lst [.int 0, .ref c])) := by
        intro H3 c ks s3 nc ec k0 k1 kn p np
        have ncp : p ≠ c := fun z => by rw [z, ec] at np; cases np
        have np0 : H p = none := by
          cases e : H p with
          | none => rfl
          | some o =>
            rw [s3 _ _ e] at np
            cases np
        refine q _ p c (fun b o e => same_new np _ _ (s3 b o e)) np0 nc ⟨⟨0, ks, upd_same, ?_, k0, k1, kn, Int.le_refl _⟩, ncp⟩
        rw [upd_ne (Ne.symm ncp)]
        exact ec
      refine ⟨_, rfl, D, _, rfl, .inl (SqL.of eD), rfl, _, rfl, ite2 (fun h1 => ?_) (fun h1 => ?_)⟩
      · refine ⟨by show 1 ≤ sizeLine; omega, fun D2 n2 => ?_⟩
        have n20 : H D2 = none := by
          cases e : H D2 with
          | none => rfl
          | some o =>
            rw [sD _ _ e] at n2
            cases n2
        refine ⟨_, rfl, by show 2 ≤ sizeLine; omega, fun p np => ?_⟩
        exact fin (upd H2 D2 (.lst [.int 0])) D2 [0] (fun b o e => same_new n2 _ _ (sD b o e)) n20 upd_same (by decide) (by decide) (fun m hm => by rw [List.mem_singleton.mp hm]; exact Int.le_refl _) p np
      · refine ⟨_, rfl, by show 2 ≤ sizeLine; omega, fun p np => ?_⟩
        refine fin H2 D ms sD nD0 eD ?_ (by omega) nn p np
        cases ms with
        | nil => exact absurd (decide_eq_true rfl) h1
        | cons x r => exact Nat.succ_pos _
def spTake : Sp := fun vs H Q _ => ∃ (p c : Addr) (m : Nat), vs = [.ref p, .int (m : Int)] ∧ m < 1000000000 ∧ StateAt H p c ∧
  ∀ H' (r : Nat), (m = 0 → r = 0) → (0 < m → r < m) → StateAt H' p c → Drawn p c H H' → Q (.int (r : Int)) H'
theorem ok_T {f : Addr} {fd : FuncData} (F : Fun K "_law_take" "_law_take" sT f fd) (m_len : mg "len" = none) (m_int : mg "int" = none) : FnOk P w K mg base CX0 1 f fd ["state", "most"] spTake := by
  refine F.ok scT (fun vs H Q E h => ?_) (fun cdv A outer s H vs Q E hr h => ?_)
  · obtain ⟨p, c, m, rfl, _⟩ := h
    rfl
  · obtain ⟨p, c, m, rfl, hm, ⟨⟨n, ms, hp, hc, hl0, hl, h0, n0⟩, npc⟩, q⟩ := h
    have zl := zl
    refine ⟨_, (pss_cons (ps_if (pt_cmpR op_lt (pv 1) (pe_int) (nomark _))
      (pss_one (ps_ret (pe_int))) pss_nil)
      (pss_cons (ps_set (i := 2) scT.nd rfl (.inl rfl) (pe_ix ix_list (pv 0) (pe_int) (fun _ _ => rfl)))
      (pss_cons (ps_set (i := 3) scT.nd rfl (.inl rfl) (pe_op op_mod (pe_ix ix_list (pv 0) (pe_int) (fun _ _ => rfl)) (pe_callB call_len_seq (by rfl) m_len PySem.boot_len (pa_cons (pv 2) pa_nil))))
      (pss_cons (ps_set (i := 4) scT.nd rfl (.inl rfl) (pe_ix ix_list (pv 2) (pv 3) (fun _ _ => rfl)))
      (pss_cons (ps_if (pt_cmpR op_ge (pv 4) (pe_int) (nomark _))
      (pss_cons (ps_asg (pe_op op_fdiv (pv 4) (pv 1)) (pg_sub (pv 2) (pv 3) set_list))
      (pss_one (ps_ret (pe_op op_mod (pv 4) (pv 1))))) pss_nil)
      (pss_cons (ps_asg (pe_op op_add (pe_ix ix_list (pv 0) (pe_int) (fun _ _ => rfl)) (pe_int)) (pg_sub (pv 0) (pe_int) set_list))
      (pss_cons (ps_set (i := 5) scT.nd rfl (.inl rfl) (pe_op op_mod (pe_callTy call_int1 (by rfl) m_int (by decide +kernel) (pa_cons (pe_op op_add (pe_op op_mul (pv 4) (pe_int)) (pe_op op_mul (pe_ix ix_list (pv 0) (pe_int) (fun _ _ => rfl)) (pe_int))) pa_nil)) (pe_int)))
      (pss_cons (ps_set (i := 5) scT.nd rfl (.inl rfl) (pe_op op_mod (pe_callTy call_int1 (by rfl) m_int (by decide +kernel) (pa_cons (pe_op op_add (pe_op op_mul (pv 5) (pe_int)) (pe_op op_mul (pe_ix ix_list (pv 0) (pe_int) (fun _ _ => rfl)) (pe_int))) pa_nil)) (pe_int)))
      (pss_one (ps_ret (pe_op op_mod (pe_op op_fdiv (pv 5) (pe_int)) (pv 1)))))))))))), ?_⟩
    dsimp only [tNext, tSeq, tIfS, tAsg, gName, tC]
    refine ⟨_, rfl, _, _, rfl, rfl, _, rfl, ite2 (fun h1 => ?_) (fun h1 => ?_)⟩
    · have m0 : m = 0 := by
        have := of_decide_eq_true h1
        omega
      exact q H 0 (fun _ => rfl) (fun z => by omega) ⟨⟨n, ms, hp, hc, hl0, hl, h0, n0⟩, npc⟩ drawn_refl
    have mp : 0 < m := by
      have : ¬ ((m : Nat) : Int) < 1 := fun z => h1 (decide_eq_true z)
      omega
    refine ⟨_, rfl, p, _, 1, _, rfl, rfl, SqL.of hp, atI_nat (j := 1) rfl, ?_⟩
    refine ⟨_, rfl, p, _, 0, _, rfl, rfl, SqL.of hp, atI_nat (j := 0) rfl, _, rfl, c, _, rfl, .inl (SqL.of hc), _, _, rfl, rfl, by rw [List.length_map]; omega, ?_⟩
    dsimp only
    simp only [List.length_map]
    have hat := Int.emod_lt_of_pos n (show (0 : Int) < (ms.length : Int) by omega)
    have hat0 := Int.emod_nonneg n (show ((ms.length : Nat) : Int) ≠ 0 by omega)
    obtain ⟨i, hi⟩ : ∃ i : Nat, n % (ms.length : Int) = (i : Int) := ⟨_, (Int.toNat_of_nonneg hat0).symm⟩
    rw [hi] at hat
    simp only [hi]
    have li : i < ms.length := by omega
    have gi := List.getElem?_eq_getElem li
    have ci := h0 _ (List.getElem_mem li)
    generalize ms[i] = cell at gi ci
    have gv : (ms.map V.int)[i]? = some (.int cell) := by rw [List.getElem?_map, gi]; rfl
    refine ⟨_, rfl, _, rfl, c, _, _, _, rfl, rfl, SqL.of hc, atI_nat gv, ?_⟩
    have res : ∀ (x : Int), 0 ≤ x → ∃ r : Nat, x % (m : Int) = (r : Int) ∧ r < m := fun x hx => by
      have e1 := Int.emod_nonneg x (show (m : Int) ≠ 0 by omega)
      have e2 := Int.emod_lt_of_pos x (show (0 : Int) < (m : Int) by omega)
      exact ⟨(x % (m : Int)).toNat, (Int.toNat_of_nonneg e1).symm, by omega⟩
    refine ⟨_, rfl, _, _, rfl, rfl, _, rfl, ite2 (fun h2 => ?_) (fun h2 => ?_)⟩
    · refine ⟨_, rfl, _, rfl, _, _, rfl, rfl, ⟨by omega, by omega⟩, _, rfl, _, rfl, c, _, _, i, rfl, rfl, hc, ?_, ?_⟩
      · rw [List.length_map]
        unfold ixN
        rw [if_pos (by omega), if_pos (by omega), Int.toNat_natCast]
      refine ⟨_, rfl, _, rfl, _, _, rfl, rfl, by show (0 : Int) < (m : Int); omega, ?_⟩
      obtain ⟨r, hr, lr⟩ := res cell ci
      show Q (V.int (cell % (m : Int))) _
      rw [hr]
      refine q _ r (fun z => by omega) (fun _ => lr) ⟨⟨n, ms.set i (cell / (m : Int)), ?_, ?_, by rw [List.length_set]; exact hl0, by rw [List.length_set]; exact hl, ?_, n0⟩, npc⟩ ?_
      · rw [upd_ne npc]
        exact hp
      · rw [upd_same, List.map_set]
      · intro x hx
        rcases List.mem_or_eq_of_mem_set hx with hx | rfl
        · exact h0 x hx
        · exact Int.ediv_nonneg ci (by omega)
      · intro b z1 z2
        rw [upd_ne z2]
    · have c18 : cell < 1000000000000000000 := by
        have : ¬ (1000000000000000000 : Int) ≤ cell := fun z => h2 (decide_eq_true z)
        omega
      refine ⟨_, rfl, p, _, 0, _, rfl, rfl, SqL.of hp, atI_nat (j := 0) rfl, _, _, rfl, rfl, _, rfl, p, _, 0, 0, rfl, rfl, hp, rfl, ?_⟩
      have ep : (upd H p (.lst [.int (n + 1), .ref c])) p = some (.lst [.int (n + 1), .ref c]) := upd_same
      have ec : (upd H p (.lst [.int (n + 1), .ref c])) c = some (.lst (ms.map V.int)) := by rw [upd_ne (Ne.symm npc)]; exact hc
      have dr : Drawn p c H (upd H p (.lst [.int (n + 1), .ref c])) := fun b z1 z2 => upd_ne z1
      refine ⟨_, rfl, _, _, rfl, rfl, .inl ⟨by omega, by omega⟩, _, rfl, p, _, 0, _, rfl, rfl, SqL.of ep, atI_nat (j := 0) rfl, _, _, rfl, rfl, .inr ⟨by decide, by decide⟩, _, _, rfl, rfl, .inl ⟨_, rfl, _, _, rfl, rfl, by show (0 : Int) < 2147483647; decide, ?_⟩⟩
      have a0 := Int.emod_nonneg (cell * 48271 + (n + 1) * 69621) (show (2147483647 : Int) ≠ 0 by decide)
      have a1 := Int.emod_lt_of_pos (cell * 48271 + (n + 1) * 69621) (show (0 : Int) < 2147483647 by decide)
      dsimp only
      generalize hx1 : (cell * 48271 + (n + 1) * 69621) % 2147483647 = x1 at a0 a1
      refine ⟨_, rfl, _, _, rfl, rfl, .inl ⟨by omega, by omega⟩, _, rfl, p, _, 0, _, rfl, rfl, SqL.of ep, atI_nat (j := 0) rfl, _, _, rfl, rfl, .inr ⟨by decide, by decide⟩, _, _, rfl, rfl, .inl ⟨_, rfl, _, _, rfl, rfl, by show (0 : Int) < 1000000007; decide, ?_⟩⟩
      have b0 := Int.emod_nonneg (x1 * 16807 + (n + 1) * 7919) (show (1000000007 : Int) ≠ 0 by decide)
      have b1 := Int.emod_lt_of_pos (x1 * 16807 + (n + 1) * 7919) (show (0 : Int) < 1000000007 by decide)
      dsimp only
      generalize hx2 : (x1 * 16807 + (n + 1) * 7919) % 1000000007 = x2 at b0 b1
      refine ⟨_, rfl, _, _, rfl, rfl, ⟨by show (0 : Int) < 7; decide, by show (7 : Int) < 1073741824; decide⟩, _, rfl, _, _, rfl, rfl, by show (0 : Int) < (m : Int); omega, ?_⟩
      obtain ⟨r, hr, lr⟩ := res (x2 / 7) (Int.ediv_nonneg b0 (by decide))
      show Q (V.int (x2 / 7 % (m : Int))) _
      rw [hr]
      exact q _ r (fun z => by omega) (fun _ => lr) ⟨⟨n + 1, ms, ep, ec, hl0, hl, h0, by omega⟩, npc⟩ dr
end
end K50
namespace GX
open PySem PySem.Spec PyProof.Rows L2 GxR
/-- repr of a truth value -/
theorem cr_reprB {X : Cx} : CallR X (.builtin "repr") (fun xs H Q => ∃ b, xs = [.bl b] ∧ Q (.str (if b then "True" else "False")) H) := by
  intro pins s σ H xs us Q I r ⟨b, ex, q⟩
  subst ex
  obtain ⟨u, rfl, rx⟩ := vals1 r
  obtain rfl : u = Value.bool b := rx
  exact PySem.P.repr_of_bool ⟨.str _, H, I.tok _, ⟨_, rfl⟩, q⟩
/-- > of plain data that are alike -/
def rGtP (K : PySem.W.Frag) : R2 := fun x y H Q => ∃ d e, Dp K H x d ∧ Dp K H y e ∧ PySem.W.alike d e = true ∧ d ≠ .none ∧ d.depth ≤ 60 ∧ Q (.bl (PySem.W.dataLt e d)) H
theorem op_gtP {X : Cx} (hu : X.A.units + 64 < cLine) : OpR X (compareOp .Gt) (rGtP X.K) := fun pins s σ H x y v u Q I rx ry ⟨d, e, hd, he, al, nn, dd, q⟩ => by
  obtain ⟨as, r1⟩ := Dp.reads I d x v hd rx
  obtain ⟨bs, r2⟩ := Dp.reads I e y u he ry
  exact PySem.W.gt_data r1 r2 al nn (by omega) ⟨.bl _, H, I, rfl, q⟩
theorem wk_str {d : Bool} {x : Str} {g : TG} {tt : TT} {te : TE} {vs : List Nat} {σ : L2.St} {Qe Qd : Hp → Prop} {H0 : Hp} (Pv : Nat → Hp → Prop) (h0 : Pv 0 H0)
    (hs : ∀ i c H, x.cps.toList[i]? = some c → Pv i H → g (.str ⟨#[c]⟩) (wipe σ vs) H fun σ2 H2 => wipe σ2 vs = wipe σ vs ∧ tt σ2 H2 fun b H3 =>
      if b = true then te σ2 H3 fun y H4 => ∃ c, y = .bl c ∧ if c = d then Qd H4 else Pv (i + 1) H4 else Pv (i + 1) H3) (hd : ∀ H, Pv x.cps.toList.length H → Qe H) :
    ∃ W : Nat → Nat → Hp → Prop, (∃ m, W 0 m H0) ∧ Wk d (Its x) g tt te vs σ W Qe Qd := by
  refine ⟨fun i m H => m = x.cps.size - i ∧ i ≤ x.cps.size ∧ Pv i H, ⟨x.cps.size, by simp, Nat.zero_le _, h0⟩, ?_⟩
  rintro i m H ⟨rfl, hi, p⟩
  by_cases hlt : i < x.cps.size
  · refine .inr ⟨hlt, Pv (i + 1), fun H' p' => ⟨x.cps.size - (i + 1), by omega, rfl, hlt, p'⟩, fun v H' y => ?_⟩
    obtain ⟨rfl, c, hc, rfl⟩ := y
    exact hs i c _ (by rw [Array.getElem?_toList]; exact hc) p
  · have e : i = x.cps.size := by omega
    subst e
    exact .inl ⟨Nat.le_refl _, hd H p⟩
theorem wk_tup {d : Bool} {K : PySem.W.Frag} {a : Addr} {xs : List V} {g : TG} {tt : TT} {te : TE} {vs : List Nat} {σ : L2.St} {Qe Qd : Hp → Prop} {H0 : Hp} (Pv : Nat → Hp → Prop) (h0 : Pv 0 H0) (hl : ∀ i H, i ≤ xs.length → Pv i H → SqT K H a xs)
    (hs : ∀ i x H, xs[i]? = some x → Pv i H → g x (wipe σ vs) H fun σ2 H2 => wipe σ2 vs = wipe σ vs ∧ tt σ2 H2 fun b H3 =>
      if b = true then te σ2 H3 fun y H4 => ∃ c, y = .bl c ∧ if c = d then Qd H4 else Pv (i + 1) H4 else Pv (i + 1) H3) (hd : ∀ H, Pv xs.length H → Qe H) :
    ∃ W : Nat → Nat → Hp → Prop, (∃ m, W 0 m H0) ∧ Wk d (Itt K a) g tt te vs σ W Qe Qd := by
  refine ⟨fun i m H => m = xs.length - i ∧ i ≤ xs.length ∧ Pv i H, ⟨xs.length, by simp, Nat.zero_le _, h0⟩, ?_⟩
  rintro i m H ⟨rfl, hi, p⟩
  have q := hl i H hi p
  by_cases hlt : i < xs.length
  · refine .inr ⟨⟨xs, xs[i], q, by simp [hlt]⟩, Pv (i + 1), fun H' p' => ⟨xs.length - (i + 1), by omega, rfl, hlt, p'⟩, fun x H' y => ?_⟩
    obtain ⟨rfl, e⟩ := y
    exact hs i x _ (e xs q) p
  · have e : i = xs.length := by omega
    subst e
    exact .inl ⟨⟨xs, q, Nat.le_refl _⟩, hd H p⟩
end GX
namespace K50
open PySem PySem.Spec PyProof.Rows L2 TR QR
open GxR (TabB TabG Tabbed)
theorem same_upd {a : Addr} {H H1 : Hp} {o : HO} (e : H a = none) (s : Same H H1) : Same H (upd H1 a o) := fun b o' e' => by
  rw [upd_ne (ne_of_none e' e)]
  exact s b o' e'
theorem same_trans {H H1 H2 : Hp} (a : Same H H1) (b : Same H1 H2) : Same H H2 := fun x o e => b x o (a x o e)
theorem same_none {H H' : Hp} {a : Addr} (s : Same H H') (n : H' a = none) : H a = none := by
  cases e : H a with
  | none => rfl
  | some o =>
    rw [s a o e] at n
    cases n
theorem same_refl {H : Hp} : Same H H := fun _ _ e => e
theorem to_dec {R : Bool → Hp → Prop} {H : Hp} {x y : Bool} (e : x = y) (h : R y H) : R x H := e ▸ h
theorem get_map {α β : Type} {l : List α} {i : Nat} {x : α} (f : α → β) (h : l[i]? = some x) : (l.map f)[i]? = some (f x) := by
  rw [List.getElem?_map, h]
  rfl
theorem map_get {α β : Type} {l : List α} {i : Nat} {y : β} {f : α → β} (h : (l.map f)[i]? = some y) : ∃ x, l[i]? = some x ∧ f x = y := by
  rw [List.getElem?_map] at h
  exact Option.map_eq_some_iff.mp h
/-- a test of two parts; the parts may lay new objects -/
theorem and_dec {tA tB : TT} {σ : L2.St} {H : Hp} {Q : Bool → Hp → Prop} {p q : Prop} [Decidable p] [Decidable q] (hA : ∀ R : Bool → Hp → Prop, (∀ H1, Same H H1 → R (decide p) H1) → tA σ H R)
    (hB : p → ∀ H1, Same H H1 → ∀ R : Bool → Hp → Prop, (∀ H2, Same H1 H2 → R (decide q) H2) → tB σ H1 R) (h : ∀ H2, Same H H2 → Q (decide (p ∧ q)) H2) : tAnd tA tB σ H Q := by
  refine hA _ fun H1 s1 => ?_
  by_cases hp : p
  · show if decide p = true then tB σ H1 Q else Q false H1
    rw [decide_eq_true hp]
    refine hB hp H1 s1 Q fun H2 s2 => ?_
    have := h H2 (same_trans s1 s2)
    rw [show decide (p ∧ q) = decide q from decide_eq_decide.mpr ⟨fun z => z.2, fun z => ⟨hp, z⟩⟩] at this
    exact this
  · show if decide p = true then tB σ H1 Q else Q false H1
    rw [decide_eq_false hp]
    have := h H1 s1
    rw [decide_eq_false (fun z => hp z.1)] at this
    exact this
theorem or_dec {tA tB : TT} {σ : L2.St} {H : Hp} {Q : Bool → Hp → Prop} {p q : Prop} [Decidable p] [Decidable q] (hA : ∀ R : Bool → Hp → Prop, (∀ H1, Same H H1 → R (decide p) H1) → tA σ H R)
    (hB : ¬ p → ∀ H1, Same H H1 → ∀ R : Bool → Hp → Prop, (∀ H2, Same H1 H2 → R (decide q) H2) → tB σ H1 R) (h : ∀ H2, Same H H2 → Q (decide (p ∨ q)) H2) : tOr tA tB σ H Q := by
  refine hA _ fun H1 s1 => ?_
  by_cases hp : p
  · show if decide p = true then Q true H1 else tB σ H1 Q
    rw [decide_eq_true hp]
    have := h H1 s1
    rw [decide_eq_true (Or.inl hp)] at this
    exact this
  · show if decide p = true then Q true H1 else tB σ H1 Q
    rw [decide_eq_false hp]
    refine hB hp H1 s1 Q fun H2 s2 => ?_
    have := h H2 (same_trans s1 s2)
    rw [show decide (p ∨ q) = decide q from decide_eq_decide.mpr ⟨fun z => z.resolve_left hp, fun z => .inr z⟩] at this
    exact this
/-- draws were made, objects laid: the state stands, the others stand as before -/
structure Dr (p c : Addr) (H H' : Hp) : Prop where
  st : StateAt H' p c
  ou : ∀ b o, b ≠ p → b ≠ c → H b = some o → H' b = some o
theorem StateAt.some {H : Hp} {p c : Addr} (s : StateAt H p c) : (∃ o, H p = Option.some (.lst o)) ∧ ∃ o, H c = Option.some (.lst o) := by
  obtain ⟨⟨seed, ms, h1, h2, _⟩, _⟩ := s
  exact ⟨⟨_, h1⟩, ⟨_, h2⟩⟩
theorem StateAt.same {H H' : Hp} {p c : Addr} (s : StateAt H p c) (k : Same H H') : StateAt H' p c := s.mono (fun o e => k _ _ e) (fun o e => k _ _ e)
theorem Dr.refl {p c : Addr} {H : Hp} (s : StateAt H p c) : Dr p c H H := ⟨s, fun _ _ _ _ e => e⟩
theorem Dr.trans {p c : Addr} {H H1 H2 : Hp} (a : Dr p c H H1) (b : Dr p c H1 H2) : Dr p c H H2 := ⟨b.st, fun x o n1 n2 e => b.ou x o n1 n2 (a.ou x o n1 n2 e)⟩
theorem Dr.same {p c : Addr} {H H1 H2 : Hp} (a : Dr p c H H1) (b : Same H1 H2) : Dr p c H H2 := ⟨a.st.same b, fun x o n1 n2 e => b _ _ (a.ou x o n1 n2 e)⟩
theorem Dr.drawn {p c : Addr} {H H1 H2 : Hp} (a : Dr p c H H1) (s : StateAt H2 p c) (b : Drawn p c H1 H2) : Dr p c H H2 := ⟨s, fun x o n1 n2 e => (b x n1 n2).trans (a.ou x o n1 n2 e)⟩
theorem Dr.none {p c : Addr} {H H1 : Hp} {x : Addr} (a : Dr p c H H1) (n : H1 x = none) : H x = none := by
  obtain ⟨⟨_, e1⟩, ⟨_, e2⟩⟩ := a.st.some
  cases e : H x with
  | none => rfl
  | some o =>
    have n1 : x ≠ p := fun z => by rw [z, e1] at n; cases n
    have n2 : x ≠ c := fun z => by rw [z, e2] at n; cases n
    rw [a.ou x o n1 n2 e] at n
    cases n
theorem StateAt.new {H : Hp} {p c x : Addr} (s : StateAt H p c) (n : H x = none) : x ≠ p ∧ x ≠ c := by
  obtain ⟨⟨_, e1⟩, ⟨_, e2⟩⟩ := s.some
  exact ⟨fun z => (by rw [z, e1] at n; cases n), fun z => (by rw [z, e2] at n; cases n)⟩
theorem StateAt.upd {H : Hp} {p c x : Addr} {o : HO} (s : StateAt H p c) (n : x ≠ p ∧ x ≠ c) : StateAt (L2.upd H x o) p c :=
  s.mono (fun q e => by rw [upd_ne (Ne.symm n.1)]; exact e) (fun q e => by rw [upd_ne (Ne.symm n.2)]; exact e)
/-- what stood stands, but for the table at T -/
structure Tb (T : Addr) (H H' : Hp) : Prop where
  sm : ∀ b o, b ≠ T → H b = some o → H' b = some o
  tg : TabG H' T
/-- what stood stands, but for two tables -/
structure Tb2 (T1 T2 : Addr) (H H' : Hp) : Prop where
  sm : ∀ b o, b ≠ T1 → b ≠ T2 → H b = some o → H' b = some o
  t1 : TabG H' T1
  t2 : TabG H' T2
theorem Tb2.at_ {T1 T2 : Addr} {H H' : Hp} (h : Tb2 T1 T2 H H') (g1 : TabG H T1) (g2 : TabG H T2) {b : Addr} {o : HO} (e : H b = some o) (n : ∀ ps, o ≠ .tbl ps) : H' b = some o := by
  obtain ⟨p1, e1, _⟩ := g1
  obtain ⟨p2, e2, _⟩ := g2
  refine h.sm b o (fun z => ?_) (fun z => ?_) e
  · rw [z, e1] at e
    exact n p1 (Option.some.inj e).symm
  · rw [z, e2] at e
    exact n p2 (Option.some.inj e).symm
theorem tab_ne {H : Hp} {T b : Addr} {o : HO} (g : TabG H T) (e : H b = some o) (n : ∀ ps, o ≠ .tbl ps) : b ≠ T := fun z => by
  obtain ⟨ps, e1, _⟩ := g
  rw [z, e1] at e
  exact n ps (Option.some.inj e).symm
theorem tab_same {H H' : Hp} {T : Addr} (g : TabG H T) (s : Same H H') : TabG H' T := by
  obtain ⟨ps, e1, e2⟩ := g
  exact ⟨ps, s _ _ e1, e2⟩
end K50
/-! dicts keyed by nested tuples of ints and texts: the object (dNO), its lookups, `in`, d[k], d[k] = v -/
namespace GX
open PySem PySem.Spec PyProof.Rows L2 GxR
mutual
/-- data of ints, texts and tuples of such -/
def kd : PyData → Bool
  | .int _ => true
  | .str _ => true
  | .tuple xs => kdAll xs
  | _ => false
def kdAll : List PyData → Bool
  | [] => true
  | x :: xs => kd x && kdAll xs
end
mutual
def keyN : PyData → NestedKey
  | .int i => .num i
  | .str x => .text x
  | .tuple xs => .tup (keyNs xs)
  | _ => .none
def keyNs : List PyData → List NestedKey
  | [] => []
  | x :: xs => keyN x :: keyNs xs
end
mutual
theorem keyN_inj : ∀ (d e : PyData), kd d = true → kd e = true → keyN d = keyN e → d = e
  | .int i, e, _, he, h => by
    cases e with
    | int j =>
      simp only [keyN, NestedKey.num.injEq] at h
      rw [h]
    | str y => simp [keyN] at h
    | tuple ys => simp [keyN] at h
    | _ => simp [kd] at he
  | .str x, e, _, he, h => by
    cases e with
    | int j => simp [keyN] at h
    | str y =>
      simp only [keyN, NestedKey.text.injEq] at h
      rw [h]
    | tuple ys => simp [keyN] at h
    | _ => simp [kd] at he
  | .tuple xs, e, hd, he, h => by
    cases e with
    | int j => simp [keyN] at h
    | str y => simp [keyN] at h
    | tuple ys =>
      simp only [keyN, NestedKey.tup.injEq] at h
      rw [kd] at hd he
      rw [keyNs_inj xs ys hd he h]
    | _ => simp [kd] at he
  | .none, _, hd, _, _ => by simp [kd] at hd
  | .bool _, _, hd, _, _ => by simp [kd] at hd
  | .list _, _, hd, _, _ => by simp [kd] at hd
  | .dict _, _, hd, _, _ => by simp [kd] at hd
theorem keyNs_inj : ∀ (xs ys : List PyData), kdAll xs = true → kdAll ys = true → keyNs xs = keyNs ys → xs = ys
  | [], [], _, _, _ => rfl
  | [], y :: ys, _, _, h => by simp [keyNs] at h
  | x :: xs, [], _, _, h => by simp [keyNs] at h
  | x :: xs, y :: ys, hx, hy, h => by
    rw [kdAll, Bool.and_eq_true] at hx hy
    rw [keyNs, keyNs] at h
    rw [keyN_inj x y hx.1 hy.1 (List.cons.inj h).1, keyNs_inj xs ys hx.2 hy.2 (List.cons.inj h).2]
end
mutual
theorem keyN_depth : ∀ d : PyData, kd d = true → (keyN d).depth = d.depth
  | .int _, _ => by rw [keyN, NestedKey.depth, PyData.depth]
  | .str _, _ => by rw [keyN, NestedKey.depth, PyData.depth]
  | .tuple xs, h => by
    rw [kd] at h
    rw [keyN, NestedKey.depth, PyData.depth, keyNs_depth xs h]
  | .none, h => by simp [kd] at h
  | .bool _, h => by simp [kd] at h
  | .list _, h => by simp [kd] at h
  | .dict _, h => by simp [kd] at h
theorem keyNs_depth : ∀ xs : List PyData, kdAll xs = true → NestedKey.depthAll (keyNs xs) = PyData.depthAll xs
  | [], _ => by rw [keyNs, NestedKey.depthAll, PyData.depthAll]
  | x :: xs, h => by
    rw [kdAll, Bool.and_eq_true] at h
    rw [keyNs, NestedKey.depthAll, PyData.depthAll, keyN_depth x h.1, keyNs_depth xs h.2]
end
section
variable {X : Cx} {pins : List (Addr × Obj)} {σ : L2.St} {H : Hp} {s : Shared}
mutual
theorem dp_nested (I : Inv X pins σ H s) : ∀ (d : PyData) (v : V) (u : Value), Dp X.K H v d → kd d = true → RelV v u → NestedIs s.heap (keyN d) u
  | .int i, _, _, h, _, r => by
    cases h
    obtain ⟨t, rfl⟩ := r
    rw [keyN]
    exact .int i t
  | .str x, _, _, h, _, r => by
    cases h
    obtain ⟨t, rfl⟩ := r
    rw [keyN]
    exact .text x t
  | .tuple ds, _, _, h, k, r => by
    cases h with
    | tup hs ha =>
      cases r
      obtain ⟨its, rv, ⟨o, ho, hc, n, hd⟩, _⟩ := I.tuple hs
      rw [kd] at k
      rw [keyN]
      exact .tup ho hc hd (dp_nestedAll I ds _ its ha k rv)
  | .none, _, _, _, k, _ => by simp [kd] at k
  | .bool _, _, _, _, k, _ => by simp [kd] at k
  | .list _, _, _, _, k, _ => by simp [kd] at k
  | .dict _, _, _, _, k, _ => by simp [kd] at k
theorem dp_nestedAll (I : Inv X pins σ H s) : ∀ (ds : List PyData) (vs : List V) (us : List Value), DpAll X.K H vs ds → kdAll ds = true → Vals vs us → NestedAll s.heap (keyNs ds) us
  | [], _, _, h, _, r => by
    cases h
    cases r
    rw [keyNs]
    exact .nil
  | d :: ds, _, _, h, k, r => by
    cases h with
    | cons h1 h2 =>
      cases r with
      | cons r1 r2 =>
        rw [kdAll, Bool.and_eq_true] at k
        rw [keyNs]
        exact .cons (dp_nested I d _ _ h1 k.1 r1) (dp_nestedAll I ds _ _ h2 k.2 r2)
end
end
/-- a kind of keys: how they are data -/
structure KT (κ : Type) where
  enc : κ → PyData
  kd : ∀ k, kd (enc k) = true
  inj : ∀ {a b}, enc a = enc b → a = b
  dp : ∀ k, (enc k).depth ≤ 8
section
variable {κ : Type} [DecidableEq κ] (T : KT κ)
theorem KT.eqN {T : KT κ} {a b : κ} : keyN (T.enc a) = keyN (T.enc b) ↔ a = b := ⟨fun h => T.inj (keyN_inj _ _ (T.kd a) (T.kd b) h), fun h => by rw [h]⟩
/-- the entries with the values that stand there -/
def rowsN (es : List (κ × Addr × V)) (us : List Value) : List (NestedKey × Addr × Value) := (es.zip us).map fun p => (keyN (T.enc p.1.1), p.1.2.1, p.2)
def DN0 (P : Program) (w : World) (h : Heap) (a : Addr) (es : List (κ × Addr × V)) : Prop :=
  (a == sysModules) = false ∧ es.length ≤ sizeLine ∧ (es.map (·.1)).Nodup ∧ ∃ o ds ep us, h.get? a = some o ∧ o.ExactDict ∧ o.data = .dict ds ep ∧ Vals (es.map (·.2.2)) us ∧ ds.toList = (rowsN T es us).map (entryOfKey (nestedKind P w))
def dNO (P : Program) (w : World) (a : Addr) (es : List (κ × Addr × V)) : HO := .ext fun h => DN0 T P w h a es
theorem dNO_ok {P : Program} {w : World} {H : Hp} {h : Heap} {a : Addr} {es : List (κ × Addr × V)} (R : DN0 T P w h a es) : ObjOk P w H h a (dNO T P w a es) := by
  have ⟨_, _, _, o, ds, ep, us, ho, _⟩ := R
  refine ⟨R, ⟨o, ho⟩, fun h1 h2 p k => ?_⟩
  obtain ⟨z, l, n, o', ds', ep', us', ho', r'⟩ := p
  exact ⟨z, l, n, o', ds', ep', us', k o' ho', r'⟩
variable {T}
theorem rows_find {k : κ} : ∀ {es : List (κ × Addr × V)} {us : List Value}, Vals (es.map (·.2.2)) us → (atKey (rowsN T es us) (keyN (T.enc k)) = none ∧ (es.find? fun e => decide (e.1 = k)) = none) ∨ ∃ e u, (es.find? fun e => decide (e.1 = k)) = some e ∧ atKey (rowsN T es us) (keyN (T.enc k)) = some (e.2.1, u) ∧ RelV e.2.2 u
  | [], _, .nil => .inl ⟨rfl, rfl⟩
  | e :: es, _, .cons r t => by
    by_cases h : e.1 = k
    · refine .inr ⟨e, _, ?_, ?_, r⟩
      · simp [List.find?_cons, h]
      · unfold atKey rowsN
        rw [List.zip_cons_cons, List.map_cons]
        simp [List.find?_cons, h]
    · have hn : ¬ keyN (T.enc e.1) = keyN (T.enc k) := fun z => h (KT.eqN.mp z)
      have e1 : ((e :: es).find? fun e => decide (e.1 = k)) = es.find? fun e => decide (e.1 = k) := by simp [List.find?_cons, h]
      have e2 : ∀ u us, atKey (rowsN T (e :: es) (u :: us)) (keyN (T.enc k)) = atKey (rowsN T es us) (keyN (T.enc k)) := fun u us => by
        unfold atKey rowsN
        rw [List.zip_cons_cons, List.map_cons]
        simp [List.find?_cons, hn]
      rw [e1, e2]
      exact rows_find t
theorem rows_nodup {es : List (κ × Addr × V)} {us : List Value} (h : Vals (es.map (·.2.2)) us) (n : (es.map (·.1)).Nodup) : ((rowsN T es us).map (·.1)).Nodup := by
  have l : us.length = es.length := by rw [← h.length, List.length_map]
  have e : (rowsN T es us).map (·.1) = (es.map (·.1)).map fun k => keyN (T.enc k) := by
    unfold rowsN
    rw [List.map_map, List.map_map]
    have : es = (es.zip us).map Prod.fst := (List.map_fst_zip (by omega)).symm
    conv => rhs; rw [this]
    rw [List.map_map]
    rfl
  rw [e]
  exact List.Pairwise.map _ (fun a b ne z => ne (KT.eqN.mp z)) n
end
section
variable {κ : Type} [DecidableEq κ] {T : KT κ} {X : Cx} {pins : List (Addr × Obj)} {σ : L2.St} {H : Hp} {s : Shared}
/-- the keys of the entries stand in the heap -/
def KeysAt (T : KT κ) (K : PySem.W.Frag) (H : Hp) (es : List (κ × Addr × V)) : Prop := ∀ e ∈ es, Dp K H (.ref e.2.1) (T.enc e.1)
theorem dn0_of {a : Addr} {es : List (κ × Addr × V)} (I : Inv X pins σ H s) (ha : Rd H a (dNO T X.prog X.w a es)) : DN0 T X.prog X.w s.heap a es := by
  rcases ha with ha | ⟨o, ha⟩
  · exact (I.hok a _ ha).1
  · exact (I.hok a _ ha).2.1
theorem dict_of {a : Addr} {es : List (κ × Addr × V)} (I : Inv X pins σ H s) (ha : Rd H a (dNO T X.prog X.w a es)) (hk : KeysAt T X.K H es) :
    (a == sysModules) = false ∧ es.length ≤ sizeLine ∧ ∃ us, Vals (es.map (·.2.2)) us ∧ s.heap.DictOfH (nestedKind X.prog X.w) a (rowsN T es us) := by
  obtain ⟨z, l, n, o, ds, ep, us, ho, hx, hd, hv, hr⟩ := dn0_of I ha
  refine ⟨z, l, us, hv, o, ds, ep, ho, hx, hd, hr, fun x hxm => ?_, rows_nodup hv n⟩
  obtain ⟨p, hp, rfl⟩ := List.mem_map.mp hxm
  have he : p.1 ∈ es := (List.of_mem_zip hp).1
  exact ⟨dp_nested I _ _ _ (hk _ he) (T.kd _) rfl, by rw [keyN_depth _ (T.kd _)]; exact T.dp _⟩
theorem key_of {v : V} {k : κ} {u : Value} (I : Inv X pins σ H s) (h : Dp X.K H v (T.enc k)) (r : RelV v u) (b : Addr) (e : u = .ref b) : (nestedKind X.prog X.w).is s.heap (keyN (T.enc k)) b := by
  subst e
  exact ⟨dp_nested I _ _ _ h (T.kd _) r, by rw [keyN_depth _ (T.kd _)]; exact T.dp _⟩
/-- k in d -/
def rInN (T : KT κ) (P : Program) (w : World) (K : PySem.W.Frag) : R2 := fun x y H Q => ∃ (a b : Addr) (es : List (κ × Addr × V)) (k : κ), y = .ref a ∧ x = .ref b ∧ Rd H a (dNO T P w a es) ∧ KeysAt T K H es ∧ Dp K H (.ref b) (T.enc k) ∧ Q (.bl (es.find? fun e => decide (e.1 = k)).isSome) H
theorem op_inN (hu : X.A.units + 64 < cLine) : OpR X (compareOp .In) (rInN T X.prog X.w X.K) := fun pins s σ H x y v u Q I rx ry h => by
  obtain ⟨a, b, es, k, rfl, rfl, ha, hk, hb, q⟩ := h
  cases rx
  cases ry
  obtain ⟨z, l, us, hv, hm⟩ := dict_of I ha hk
  refine wpAny_in_heap (knd := nestedKind X.prog X.w) (by show X.A.units + 1 + 8 < cLine; omega) (key_of I hb rfl b rfl) z hm ?_
  refine ⟨.bl (es.find? fun e => decide (e.1 = k)).isSome, H, I.tok _, ?_, q⟩
  rcases rows_find (T := T) (k := k) hv with ⟨e1, e2⟩ | ⟨e, u, e1, e2, _⟩
  · rw [e1, e2]
    rfl
  · rw [e1, e2]
    rfl
/-- k not in d -/
def rNotInN (T : KT κ) (P : Program) (w : World) (K : PySem.W.Frag) : R2 := fun x y H Q => ∃ (a b : Addr) (es : List (κ × Addr × V)) (k : κ), y = .ref a ∧ x = .ref b ∧ Rd H a (dNO T P w a es) ∧ KeysAt T K H es ∧ Dp K H (.ref b) (T.enc k) ∧ Q (.bl (!(es.find? fun e => decide (e.1 = k)).isSome)) H
theorem op_notInN (hu : X.A.units + 64 < cLine) : OpR X (compareOp .NotIn) (rNotInN T X.prog X.w X.K) := fun pins s σ H x y v u Q I rx ry h => by
  obtain ⟨a, b, es, k, rfl, rfl, ha, hk, hb, q⟩ := h
  cases rx
  cases ry
  obtain ⟨z, l, us, hv, hm⟩ := dict_of I ha hk
  refine wpAny_notIn_heap (knd := nestedKind X.prog X.w) (by show X.A.units + 1 + 8 < cLine; omega) (key_of I hb rfl b rfl) z hm ?_
  refine ⟨.bl (!(es.find? fun e => decide (e.1 = k)).isSome), H, I.tok _, ?_, q⟩
  rcases rows_find (T := T) (k := k) hv with ⟨e1, e2⟩ | ⟨e, u, e1, e2, _⟩
  · rw [e1, e2]
    rfl
  · rw [e1, e2]
    rfl
/-- d[k], k there -/
def rIxN (T : KT κ) (P : Program) (w : World) (K : PySem.W.Frag) : R2 := fun x y H Q => ∃ (a b : Addr) (es : List (κ × Addr × V)) (k : κ) (e : κ × Addr × V), x = .ref a ∧ y = .ref b ∧ Rd H a (dNO T P w a es) ∧ KeysAt T K H es ∧ Dp K H (.ref b) (T.enc k) ∧ (es.find? fun e => decide (e.1 = k)) = some e ∧ Q e.2.2 H
theorem ix_N (hu : X.A.units + 64 < cLine) : IxR X (rIxN T X.prog X.w X.K) := by
  intro value slice pins s σ H x y v u Q I rx ry h hs
  obtain ⟨a, b, es, k, e, rfl, rfl, ha, hk, hb, he, q⟩ := h
  cases rx
  cases ry
  obtain ⟨z, l, us, hv, hm⟩ := dict_of I ha hk
  rcases rows_find (T := T) (k := k) hv with ⟨_, e2⟩ | ⟨e', u, e1, e2, r⟩
  · rw [he] at e2
    cases e2
  · rw [he] at e1
    cases e1
    exact subscriptTail_builtinR (x := u) hm.typeIs slot_dict_getitem.lookup (wpAny_getItem_heap (Q := fun r s' => r = u ∧ EP X pins σ Q r s') (knd := nestedKind X.prog X.w) (by show X.A.units + 1 + 8 < cLine; omega) (key_of I hb rfl b rfl) hm e2 ⟨rfl, e.2.2, H, I.tok _, r, q⟩) hs
/-- d[k] = v -/
def dSt (es : List (κ × Addr × V)) (k : κ) (b : Addr) (v : V) : List (κ × Addr × V) := if (es.find? fun e => decide (e.1 = k)).isSome = true then es.map fun e => if e.1 = k then (e.1, e.2.1, v) else e else es ++ [(k, b, v)]
theorem rows_app {es fs : List (κ × Addr × V)} {us vs : List Value} (l : es.length = us.length) : rowsN T (es ++ fs) (us ++ vs) = rowsN T es us ++ rowsN T fs vs := by
  unfold rowsN
  rw [List.zip_append l, List.map_append]
theorem rows_put {k : κ} {v : V} {u : Value} (r : RelV v u) : ∀ {es : List (κ × Addr × V)} {us : List Value}, Vals (es.map (·.2.2)) us → ∃ us', Vals ((es.map fun e => if e.1 = k then (e.1, e.2.1, v) else e).map (·.2.2)) us' ∧ (rowsN T es us).map (putAt (keyN (T.enc k)) u) = rowsN T (es.map fun e => if e.1 = k then (e.1, e.2.1, v) else e) us'
  | [], _, .nil => ⟨[], .nil, rfl⟩
  | e :: es, u0 :: us, .cons r0 t => by
    obtain ⟨us', h1, h2⟩ := rows_put r t
    have step : ∀ (e' : κ × Addr × V) (u' : Value), rowsN T (e' :: es.map fun e => if e.1 = k then (e.1, e.2.1, v) else e) (u' :: us') = (keyN (T.enc e'.1), e'.2.1, u') :: (rowsN T es us).map (putAt (keyN (T.enc k)) u) := fun e' u' => by
      rw [h2]
      rfl
    have lhs : (rowsN T (e :: es) (u0 :: us)).map (putAt (keyN (T.enc k)) u) = putAt (keyN (T.enc k)) u (keyN (T.enc e.1), e.2.1, u0) :: (rowsN T es us).map (putAt (keyN (T.enc k)) u) := rfl
    by_cases h : e.1 = k
    · refine ⟨u :: us', ?_, ?_⟩
      · rw [List.map_cons, if_pos h, List.map_cons]
        exact .cons r h1
      · rw [List.map_cons, if_pos h, step, lhs]
        unfold putAt
        rw [if_pos (by rw [h])]
    · refine ⟨u0 :: us', ?_, ?_⟩
      · rw [List.map_cons, if_neg h, List.map_cons]
        exact .cons r0 h1
      · rw [List.map_cons, if_neg h, step, lhs]
        unfold putAt
        rw [if_neg fun z => h (KT.eqN.mp z)]
theorem rows_st {es : List (κ × Addr × V)} {us : List Value} {k : κ} {b : Addr} {v : V} {u : Value} (h : Vals (es.map (·.2.2)) us) (r : RelV v u) : ∃ us', Vals ((dSt es k b v).map (·.2.2)) us' ∧ storedH (rowsN T es us) (keyN (T.enc k)) b u = rowsN T (dSt es k b v) us' := by
  rcases rows_find (T := T) (k := k) h with ⟨e1, e2⟩ | ⟨e, u', e1, e2, _⟩
  · refine ⟨us ++ [u], ?_, ?_⟩
    · unfold dSt
      rw [e2, if_neg (by simp), List.map_append]
      exact h.append (.cons r .nil)
    · rw [storedH_new e1]
      unfold dSt
      rw [e2, if_neg (by simp), rows_app (by rw [← h.length, List.length_map])]
      rfl
  · obtain ⟨us', h1, h2⟩ := rows_put (T := T) (k := k) (v := v) (u := u) r h
    refine ⟨us', ?_, ?_⟩
    · unfold dSt
      rw [e1, if_pos (show (some e).isSome = true from rfl)]
      exact h1
    · rw [storedH_old e2]
      unfold dSt
      rw [e1, if_pos (show (some e).isSome = true from rfl)]
      exact h2
theorem st_nodup {es : List (κ × Addr × V)} {k : κ} {b : Addr} {v : V} (n : (es.map (·.1)).Nodup) : ((dSt es k b v).map (·.1)).Nodup := by
  unfold dSt
  by_cases h : (es.find? fun e => decide (e.1 = k)).isSome = true
  · rw [if_pos h, List.map_map]
    have e : ((fun x : κ × Addr × V => x.1) ∘ fun e : κ × Addr × V => if e.1 = k then (e.1, e.2.1, v) else e) = fun e => e.1 := by
      funext e
      show (if e.1 = k then (e.1, e.2.1, v) else e).1 = e.1
      split <;> rfl
    rw [e]
    exact n
  · rw [if_neg h, List.map_append, List.nodup_append]
    refine ⟨n, (by simp : [k].Nodup), fun x hx y hy z => h ?_⟩
    rw [List.mem_singleton.mp hy] at z
    obtain ⟨e, he, rfl⟩ := List.mem_map.mp hx
    rw [List.find?_isSome]
    exact ⟨e, he, decide_eq_true z⟩
theorem st_len {es : List (κ × Addr × V)} {k : κ} {b : Addr} {v : V} : (dSt es k b v).length ≤ es.length + 1 := by
  unfold dSt
  split
  · rw [List.length_map]
    exact Nat.le_succ _
  · rw [List.length_append]
    exact Nat.le_refl _
theorem st_keys {K : PySem.W.Frag} {es : List (κ × Addr × V)} {k : κ} {b : Addr} {v : V} (h : KeysAt T K H es) (hb : Dp K H (.ref b) (T.enc k)) : KeysAt T K H (dSt es k b v) := fun e he => by
  unfold dSt at he
  split at he
  · obtain ⟨e', he', rfl⟩ := List.mem_map.mp he
    have := h e' he'
    split
    · exact this
    · exact this
  · rcases List.mem_append.mp he with z | z
    · exact h e z
    · rw [List.mem_singleton.mp z]
      exact hb
def rSetN (T : KT κ) (P : Program) (w : World) (K : PySem.W.Frag) : V → V → V → Hp → (Hp → Prop) → Prop := fun o i v H Q => ∃ (a b : Addr) (es : List (κ × Addr × V)) (k : κ), o = .ref a ∧ i = .ref b ∧ H a = some (dNO T P w a es) ∧ KeysAt T K H es ∧ Dp K H (.ref b) (T.enc k) ∧ es.length < sizeLine ∧ Q (upd H a (dNO T P w a (dSt es k b v)))
theorem set_N (hu : X.A.units + 64 < cLine) : PSet X (rSetN T X.prog X.w X.K) := by
  intro pins s σ H o i v ov iv u Q I ro ri rv h
  obtain ⟨a, b, es, k, rfl, rfl, ha, hk, hb, hl, q⟩ := h
  cases ro
  cases ri
  obtain ⟨z, l, us, hv, hm⟩ := dict_of I (.inl ha) hk
  obtain ⟨_, _, nd, _⟩ := (I.hok a _ ha).1
  have ls : (rowsN T es us).length = es.length := by
    unfold rowsN
    rw [List.length_map, List.length_zip, ← hv.length, List.length_map, Nat.min_self]
  obtain ⟨us', h1, h2⟩ := rows_st (T := T) (k := k) (b := b) (v := v) (u := u) hv rv
  refine wpAny_setItem_heap (hsz := by rw [ls]; exact l) (knd := nestedKind X.prog X.w) (by show X.A.units + 1 + 8 < cLine; omega) (key_of I hb rfl b rfl) hm fun h' hm' sb => ?_
  rw [h2] at hm'
  obtain ⟨o', ds, ep, ho, hx, hd, hr, _, _⟩ := hm'
  have R : DN0 T X.prog X.w h' a (dSt es k b v) := ⟨z, Nat.le_trans st_len hl, st_nodup nd, o', ds, ep, us', ho, hx, hd, h1, hr⟩
  exact ⟨_, I.write (by rw [ha]; trivial) (.inl rfl) (fun c w hc e => (sb.2 c hc).trans e) ⟨_, ho⟩ (dNO_ok T R), q⟩
/-- {} -/
theorem dn0_empty {P : Program} {w : World} (h : Heap) (z : (h.objs.size == sysModules) = false) : DN0 T P w (h.push { cls := .type "dict", data := .dict #[] }) h.objs.size ([] : List (κ × Addr × V)) :=
  ⟨z, Nat.zero_le _, .nil, _, _, _, [], Heap.get?_push_size _ rfl, ⟨rfl, rfl, rfl⟩, rfl, .nil, rfl⟩
def tDNewN (T : KT κ) (P : Program) (w : World) : TE := fun _ H Q => ∀ p, H p = none → Q (.ref p) (upd H p (dNO T P w p []))
theorem pe_dnewN {pos : Pos} : PE X (.Dict [] [] pos) (tDNewN T X.prog X.w) := ⟨fun pins s σ H Q I h => by
  have z : (s.heap.objs.size == sysModules) = false := beq_eq_false_iff_ne.mpr (Nat.ne_of_gt I.big)
  exact wpAny_Dict_empty ⟨.ref s.heap.objs.size, _, I.laid (t' := s.toks) (fun _ _ q => Heap.get?_push_of_some _ q) (Nat.le_refl _) (dNO_ok T (dn0_empty s.heap z)), rfl, h _ (I.hok.fresh (Nat.le_refl _))⟩⟩
/-- d.get(k, v) -/
def rGetN (T : KT κ) (P : Program) (w : World) (K : PySem.W.Frag) : V → List V → Hp → VK → Prop := fun x xs H Q => ∃ (a b : Addr) (es : List (κ × Addr × V)) (k : κ) (v : V), x = .ref a ∧ xs = [.ref b, v] ∧ Rd H a (dNO T P w a es) ∧ KeysAt T K H es ∧ Dp K H (.ref b) (T.enc k) ∧ Q (((es.find? fun e => decide (e.1 = k)).map (·.2.2)).getD v) H
theorem mt_getN (hu : X.A.units + 64 < cLine) : MtR X "dict.get" (rGetN T X.prog X.w X.K) := by
  intro pins s σ H x xs v us Q I rx r h
  obtain ⟨a, b, es, k, y, rfl, rfl, ha, hk, hb, q⟩ := h
  cases rx
  obtain ⟨u1, u2, rfl, r1, r2⟩ := r.two
  cases r1
  obtain ⟨z, l, us, hv, hm⟩ := dict_of I ha hk
  refine call_meetsIn PySem.F.slot_dict_get hm.typeIs PySem.F.entry_dict_get (PySem.F.args_dict_get_3 _ _ _) (meetsH_dict_get_default (nestedKind X.prog X.w) a b z u2) ⟨by show X.A.units + 1 + 8 < cLine; omega, _, _, key_of I hb rfl b rfl, hm, ?_⟩
  rcases rows_find (T := T) (k := k) hv with ⟨e1, e2⟩ | ⟨e, u, e1, e2, r⟩
  · rw [e1]
    rw [e2] at q
    exact ⟨y, H, I.tok _, r2, q⟩
  · rw [e2]
    rw [e1] at q
    exact ⟨e.2.2, H, I.tok _, r, q⟩
/-- d.setdefault(k, v) -/
def rSetdefN (T : KT κ) (P : Program) (w : World) (K : PySem.W.Frag) : V → List V → Hp → VK → Prop := fun x xs H Q => ∃ (a b : Addr) (es : List (κ × Addr × V)) (k : κ) (v : V), x = .ref a ∧ xs = [.ref b, v] ∧ H a = some (dNO T P w a es) ∧ KeysAt T K H es ∧ Dp K H (.ref b) (T.enc k) ∧ es.length < sizeLine ∧
  (∀ e, (es.find? fun e => decide (e.1 = k)) = some e → Q e.2.2 H) ∧ ((es.find? fun e => decide (e.1 = k)) = none → Q v (upd H a (dNO T P w a (es ++ [(k, b, v)]))))
theorem mt_setdefN (hu : X.A.units + 64 < cLine) : MtR X "dict.setdefault" (rSetdefN T X.prog X.w X.K) := by
  intro pins s σ H x xs v us Q I rx r h
  obtain ⟨a, b, es, k, y, rfl, rfl, ha, hk, hb, hl, q1, q2⟩ := h
  cases rx
  obtain ⟨u1, u2, rfl, r1, r2⟩ := r.two
  cases r1
  obtain ⟨z, l, us, hv, hm⟩ := dict_of I (.inl ha) hk
  obtain ⟨_, _, nd, _⟩ := (I.hok a _ ha).1
  have ls : (rowsN T es us).length = es.length := by
    unfold rowsN
    rw [List.length_map, List.length_zip, ← hv.length, List.length_map, Nat.min_self]
  rcases rows_find (T := T) (k := k) hv with ⟨e1, e2⟩ | ⟨e, u, e1, e2, r⟩
  · refine call_setdefault_heap (hsz := by rw [ls]; exact l) (knd := nestedKind X.prog X.w) (by show X.A.units + 1 + 8 < cLine; omega) (key_of I hb rfl b rfl) z hm (fun p hp => by rw [e1] at hp; cases hp) fun _ h' hm' sb => ?_
    obtain ⟨us', h1, h2⟩ := rows_st (T := T) (k := k) (b := b) (v := y) (u := u2) hv r2
    have ed : dSt es k b y = es ++ [(k, b, y)] := by
      unfold dSt
      rw [e2, if_neg (by simp)]
    rw [h2] at hm'
    obtain ⟨o', ds, ep, ho, hx, hd, hr, _, _⟩ := hm'
    have R : DN0 T X.prog X.w h' a (dSt es k b y) := ⟨z, Nat.le_trans st_len hl, st_nodup nd, o', ds, ep, us', ho, hx, hd, h1, hr⟩
    have J := I.write (t' := s.toks + (nestedKind X.prog X.w).draws (keyN (T.enc k))) (by rw [ha]; trivial) (.inl rfl) (fun c w hc e => (sb.2 c hc).trans e) ⟨_, ho⟩ (dNO_ok T R)
    rw [ed] at J
    exact ⟨y, _, J, r2, q2 e2⟩
  · refine call_setdefault_heap (hsz := by rw [ls]; exact l) (knd := nestedKind X.prog X.w) (by show X.A.units + 1 + 8 < cLine; omega) (key_of I hb rfl b rfl) z hm (fun p hp => ?_) fun hn => by rw [e2] at hn; cases hn
    rw [e2] at hp
    cases hp
    exact ⟨e.2.2, H, I.tok _, r, q1 e e1⟩
theorem dn_frz {d : Addr} {o : Obj} {es : List (κ × Addr × V)} (I : Inv X pins σ H s) (h : H d = some (.frz o (dNO T X.prog X.w d es))) :
    (d == sysModules) = false ∧ s.heap.get? d = some o ∧ o.ExactDict ∧ ∃ (ds : Array DictEntry) (ep : Nat), o.data = .dict ds ep ∧ ds.size = es.length ∧ ∀ (i : Nat) (e : κ × Addr × V), es[i]? = some e → ∃ en : DictEntry, ds[i]? = some en ∧ en.key = .ref e.2.1 := by
  obtain ⟨hg, ⟨z, l, n, o', ds, ep, us, ho, hx, hd, hv, hr⟩, _⟩ := I.hok d _ h
  rw [hg] at ho
  cases ho
  have lu : us.length = es.length := by rw [← hv.length, List.length_map]
  have ld : ds.size = es.length := by
    rw [← Array.length_toList, hr, List.length_map]
    unfold rowsN
    rw [List.length_map, List.length_zip, lu, Nat.min_self]
  refine ⟨z, hg, hx, ds, ep, hd, ld, fun i e he => ?_⟩
  have hi : i < us.length := by rw [lu]; exact (List.getElem?_eq_some_iff.mp he).1
  have hz : (es.zip us)[i]? = some (e, us[i]) := by rw [List.getElem?_zip_eq_some]; exact ⟨he, List.getElem?_eq_getElem hi⟩
  refine ⟨entryOfKey (nestedKind X.prog X.w) (keyN (T.enc e.1), e.2.1, us[i]), ?_, rfl⟩
  rw [← Array.getElem?_toList, hr]
  unfold rowsN
  rw [List.getElem?_map, List.getElem?_map, hz]
  rfl
/-- the keys of the locked dict at d -/
def Itn (T : KT κ) (P : Program) (w : World) (d : Addr) (o : Obj) (es : List (κ × Addr × V)) : It :=
  ⟨fun i H => H d = some (.frz o (dNO T P w d es)) ∧ i < es.length, fun i H x H' => H' = H ∧ ∃ e, es[i]? = some e ∧ x = .ref e.2.1, fun i H => H d = some (.frz o (dNO T P w d es)) ∧ es.length ≤ i⟩
theorem turn_N {P : Program} {w : World} {K : PySem.W.Frag} {tg : Expr} {d : Addr} {o : Obj} {ds : Array DictEntry} {ep : Nat} {es : List (κ × Addr × V)} (it : Addr) (hod : o.data = .dict ds ep) :
    Turn P w K tg (Itn T P w d o es) [it] it (fun i h => h.IsKeyIter it d i es.length ep) where
  mem := List.mem_singleton.mpr rfl
  obj := fun i h st b hb => by
    rw [List.mem_singleton.mp hb]
    obtain ⟨oi, e, _, dd⟩ := st
    exact ⟨oi, e, fun v z => by rw [dd] at z; cases z⟩
  keep := fun i h h' st k => st.at fun oi e => k it (List.mem_singleton.mpr rfl) oi e
  item := by
    rintro X rfl rfl rfl hc i pins s σ H E I hf st ⟨hd, hi⟩
    have fp := hf it (List.mem_singleton.mpr rfl)
    obtain ⟨hs, hgd, hx, ds', ep', hdt, hsz, ent⟩ := dn_frz I hd
    obtain ⟨rfl, rfl⟩ := dict_ep hod hdt
    have he : es[i]? = some es[i] := List.getElem?_eq_getElem hi
    obtain ⟨en, hen, hkey⟩ := ent i _ he
    refine next_key_item st hgd hdt hsz hen fun h' st' sb => ?_
    obtain ⟨oi, e, c, dd⟩ := id st'
    exact ⟨en.key, rfl, go_of (s := { s with heap := h' }) e c dd (by decide) ⟨.ref es[i].2.1, H, I.turned (t' := s.toks) (fun b ob hb e => (sb.2 b hb).trans e) fp.1 fp.2.1 fp.2.2.2.1 fp.2.2.2.2.1 fp.2.2.2.2.2, hkey, ⟨rfl, _, he, rfl⟩, st', fun b hb => (hf b hb).1⟩⟩
  done := by
    rintro X rfl rfl rfl hc i pins s σ H E I hf st ⟨hd, hi⟩
    have fp := hf it (List.mem_singleton.mpr rfl)
    obtain ⟨hs, hgd, hx, ds', ep', hdt, hsz, ent⟩ := dn_frz I hd
    obtain ⟨rfl, rfl⟩ := dict_ep hod hdt
    exact next_key_end (I.ok.hd hc) st hgd hdt hsz hi fun h' eb => ⟨rfl, I.turned (t' := s.toks) (fun b ob hb e => eb b ob hb e) fp.1 fp.2.1 fp.2.2.2.1 fp.2.2.2.2.1 fp.2.2.2.2.2⟩
  self := fun A i s Q E st h => by
    refine wpAny_pyIter_slot st.typeIs PySem.F.slot_dict_keyiterator_iter (wpAny_call_entry PySem.F.slot_dict_keyiterator_iter st.typeIs PySem.F.entry_dict_keyiterator_iter ?_ (PySem.F.args_dict_keyiterator_iter_1 _))
    exact wpAny_pure ⟨_, rfl, "dict_keyiterator", _, st.typeIs, PySem.F.slot_dict_keyiterator_next.lookup, h⟩
/-- for k in d, d locked -/
def iKeysN (T : KT κ) (P : Program) (w : World) (td : TE) : TI := fun σ H R => td σ H fun x H1 => ∃ d o es, x = .ref d ∧ H1 d = some (.frz o (dNO T P w d es)) ∧ R (Itn T P w d o es) H1
theorem pi_keysN {tg e : Expr} {td : TE} (he : PE X e td) : PI X tg e (iKeysN T X.prog X.w td) := by
  refine ⟨fun pins s σ H R I h => thn (he.run pins s σ H _ I h) fun u s1 ⟨x, H1, I1, rx, d, o, es, ex, hd, q⟩ => ?_⟩
  subst ex
  cases rx
  obtain ⟨hs, hgd, hx, ds, ep, hdt, hsz, ent⟩ := dn_frz I1 hd
  refine iter_keys hs hgd hx hdt (pi_one (tk := s1.toks) I1 _ (turn_N _ hdt) ⟨_, Heap.get?_push_size _ rfl, rfl, ?_⟩ q)
  rw [hsz] <;> rfl
theorem walk_N {P : Program} {w : World} {d : Addr} {o : Obj} {es : List (κ × Addr × V)} : Walk (Itn T P w d o es) es.length (fun H => H d = some (.frz o (dNO T P w d es))) (fun i H x H' => H' = H ∧ ∃ e, es[i]? = some e ∧ x = .ref e.2.1) :=
  ⟨fun _ _ hi q => ⟨q, hi⟩, fun _ q => ⟨q, Nat.le_refl _⟩, fun _ _ _ _ _ _ y => y⟩
/-- len(d) -/
theorem cr_lenN : CallR X (.builtin "len") (fun xs H Q => ∃ (a : Addr) (es : List (κ × Addr × V)), xs = [.ref a] ∧ Rd H a (dNO T X.prog X.w a es) ∧ KeysAt T X.K H es ∧ Q (.int (es.length : Int)) H) := by
  intro pins s σ H xs us Q I r h
  obtain ⟨a, es, rfl, ha, hk, q⟩ := h
  obtain ⟨u, rfl, ru⟩ := vals1 r
  cases ru
  obtain ⟨z, l, us, hv, hm⟩ := dict_of I ha hk
  have ls : (rowsN T es us).length = es.length := by
    unfold rowsN
    rw [List.length_map, List.length_zip, ← hv.length, List.length_map, Nat.min_self]
  have h63 := line63
  refine call_len_dictH z hm (by rw [ls]; omega) ⟨.int (es.length : Int), H, ?_, ⟨_, by rw [ls]⟩, q⟩
  exact (I.tok (s.toks + 1 + 1))
/-- a store in a comprehension's dict -/
def putN (T : KT κ) (P : Program) (w : World) (K : PySem.W.Frag) (D : Addr) (y z : V) (H : Hp) (N : Hp → Prop) : Prop := ∃ (es : List (κ × Addr × V)) (k : κ) (b : Addr), y = .ref b ∧ H D = some (dNO T P w D es) ∧ KeysAt T K H es ∧ Dp K H (.ref b) (T.enc k) ∧ es.length < sizeLine ∧ N (upd H D (dNO T P w D (dSt es k b z)))
theorem putR_N {Y : Cx} (hu : Y.A.units + 64 < cLine) : PutR (putN T Y.prog Y.w Y.K) Y := by
  intro pins s σ H D y z u r N I ry rz ⟨es, k, b, ey, ha, hk, hb, hl, n⟩
  subst ey
  cases ry
  obtain ⟨zz, l, us, hv, hm⟩ := dict_of I (.inl ha) hk
  obtain ⟨_, _, nd, _⟩ := (I.hok D _ ha).1
  have ls : (rowsN T es us).length = es.length := by
    unfold rowsN
    rw [List.length_map, List.length_zip, ← hv.length, List.length_map, Nat.min_self]
  obtain ⟨us', h1, h2⟩ := rows_st (T := T) (k := k) (b := b) (v := z) (u := r) hv rz
  refine wpAny_dictSet_heap (hsz := by rw [ls]; exact l) (knd := nestedKind Y.prog Y.w) (by show Y.A.units + 8 < cLine; omega) (key_of I hb rfl b rfl) hm fun h' hm' sb => ?_
  rw [h2] at hm'
  obtain ⟨o', ds, ep, ho, hx, hd, hr, _, _⟩ := hm'
  have R : DN0 T Y.prog Y.w h' D (dSt es k b z) := ⟨zz, Nat.le_trans st_len hl, st_nodup nd, o', ds, ep, us', ho, hx, hd, h1, hr⟩
  exact ⟨_, I.write (by rw [ha]; trivial) (.inl rfl) (fun c w hc e => (sb.2 c hc).trans e) ⟨_, ho⟩ (dNO_ok T R), n⟩
theorem dg_empty (H : Hp) (h : Heap) (hb : sysModules < h.objs.size) : ObjOk X.prog X.w H (h.push { cls := .type "dict", data := .dict #[] }) h.objs.size ((fun D => dNO T X.prog X.w D []) h.objs.size) :=
  dNO_ok T (dn0_empty h (beq_eq_false_iff_ne.mpr (Nat.ne_of_gt hb)))
end
end GX
/-! the truth of a dict keyed by nested tuples; its deletion -/
namespace GX
open PySem PySem.Spec PyProof.Rows L2 GxR
section
variable {κ : Type} [DecidableEq κ] {T : KT κ} {X : Cx}
def tTruN (T : KT κ) (P : Program) (w : World) (K : PySem.W.Frag) (ta : TE) : TT := fun σ H Q => ta σ H fun x H1 => ∃ (a : Addr) (es : List (κ × Addr × V)), x = .ref a ∧ Rd H1 a (dNO T P w a es) ∧ KeysAt T K H1 es ∧ Q (!es.isEmpty) H1
theorem pt_truN {e : Expr} {ta : TE} (ha : PE X e ta) (he : ∀ whole, isTrue e X.env whole = (do let v ← whole; standAt e.pos; holding [v] (truthy v))) : PT X e (tTruN T X.prog X.w X.K ta) := by
  refine ⟨fun pins s σ H Q I h => ?_⟩
  refine isTrue_plain (thn (ha.run pins s σ H _ I h) fun v s1 ⟨x, H1, I1, r1, a, es, ex, e1, hk, q⟩ => ?_) (he _)
  subst ex
  obtain rfl : v = Value.ref a := r1
  obtain ⟨z, l, us, hv, hm⟩ := dict_of I1 e1 hk
  have ls : (rowsN T es us).length = es.length := by
    unfold rowsN
    rw [List.length_map, List.length_zip, ← hv.length, List.length_map, Nat.min_self]
  have h63 := line63
  have ee : (rowsN T es us).isEmpty = es.isEmpty := by
    rw [Bool.eq_iff_iff, List.isEmpty_iff_length_eq_zero, List.isEmpty_iff_length_eq_zero, ls]
  exact truthy_dictH z hm (by rw [ls]; omega) ⟨H1, I1.tok _, by rw [ee]; exact q⟩
end
end GX
/-! list(d) of a dict keyed by nested tuples -/
namespace GX
open PySem PySem.Spec PyProof.Rows L2 GxR
section
variable {κ : Type} [DecidableEq κ] {T : KT κ} {X : Cx} {pins : List (Addr × Obj)} {σ : L2.St} {H : Hp} {s : Shared}
theorem dn_raw {a : Addr} {es : List (κ × Addr × V)} (I : Inv X pins σ H s) (ha : Rd H a (dNO T X.prog X.w a es)) :
    (a == sysModules) = false ∧ es.length ≤ sizeLine ∧ ∃ (ds : Array DictEntry) (ep : Nat), s.heap.DictRaw a ds ep ∧ ds.size = es.length ∧ ∀ (i : Nat) (e : κ × Addr × V), es[i]? = some e → ∃ en : DictEntry, ds[i]? = some en ∧ en.key = .ref e.2.1 := by
  obtain ⟨z, l, n, o, ds, ep, us, ho, hx, hd, hv, hr⟩ := dn0_of I ha
  have lu : us.length = es.length := by rw [← hv.length, List.length_map]
  have ld : ds.size = es.length := by
    rw [← Array.length_toList, hr, List.length_map]
    unfold rowsN
    rw [List.length_map, List.length_zip, lu, Nat.min_self]
  refine ⟨z, l, ds, ep, ⟨o, ho, hx, hd⟩, ld, fun i e he => ?_⟩
  have hi : i < us.length := by rw [lu]; exact (List.getElem?_eq_some_iff.mp he).1
  have hz : (es.zip us)[i]? = some (e, us[i]) := by rw [List.getElem?_zip_eq_some]; exact ⟨he, List.getElem?_eq_getElem hi⟩
  refine ⟨entryOfKey (nestedKind X.prog X.w) (keyN (T.enc e.1), e.2.1, us[i]), ?_, rfl⟩
  rw [← Array.getElem?_toList, hr]
  unfold rowsN
  rw [List.getElem?_map, List.getElem?_map, hz]
  rfl
theorem refs_keys : ∀ es : List (κ × Addr × V), Vals (es.map fun e => V.ref e.2.1) (es.map fun e => Value.ref e.2.1)
  | [] => .nil
  | e :: es => .cons rfl (refs_keys es)
theorem raw_keys {es : List (κ × Addr × V)} {ds : Array DictEntry} {acc : Array Value} (ld : ds.size = es.length) (hk : ∀ (i : Nat) (e : κ × Addr × V), es[i]? = some e → ∃ en : DictEntry, ds[i]? = some en ∧ en.key = .ref e.2.1)
    (h1 : acc.size = ds.size) (h2 : ∀ (j : Nat) (v : Value), acc[j]? = some v → ∃ hi : j < ds.size, v = ds[j].key) : acc.toList = es.map fun e => Value.ref e.2.1 := by
  refine List.ext_getElem? fun j => ?_
  rw [Array.getElem?_toList, List.getElem?_map]
  cases e1 : es[j]? with
  | none =>
    have : es.length ≤ j := List.getElem?_eq_none_iff.mp e1
    rw [Array.getElem?_eq_none (by omega)]
    rfl
  | some e =>
    have hj : j < es.length := (List.getElem?_eq_some_iff.mp e1).1
    have hja : j < acc.size := by omega
    obtain ⟨hi, hv⟩ := h2 j acc[j] (Array.getElem?_eq_getElem hja)
    obtain ⟨en, g1, g2⟩ := hk j e e1
    rw [Array.getElem?_eq_getElem hi] at g1
    cases g1
    rw [Array.getElem?_eq_getElem hja, hv, g2]
    rfl
/-- list(d): its keys -/
theorem cr_listN (hcalm : X.calm = true) : CallR X (.type "list") (fun xs H Q => ∃ (a : Addr) (es : List (κ × Addr × V)), xs = [.ref a] ∧ Rd H a (dNO T X.prog X.w a es) ∧ ∀ p, H p = none → Q (.ref p) (upd H p (.lst (es.map fun e => V.ref e.2.1)))) := by
  intro pins s σ H xs us Q I r q
  obtain ⟨a, es, ex, hd, q⟩ := q
  subst ex
  obtain ⟨u, eu, rx⟩ := vals1 r
  subst eu
  cases rx
  obtain ⟨z, l, ds, ep, raw, ld, hk⟩ := dn_raw I hd
  refine PySem.W.kdl_call (KdlSrc.rawDict (es := ds) (ep := ep) z) (I.ok.hd hcalm) raw (by rw [ld]; exact l) fun h' tk acc c' hk' hD hacc => ?_
  have ea := raw_keys ld hk hacc.1 hacc.2
  refine ⟨.ref s.heap.objs.size, upd H s.heap.objs.size (.lst (es.map fun e => V.ref e.2.1)), I.laid (t' := tk) hk' (Nat.le_refl _)
    (show ObjOk X.prog X.w _ _ _ (.lst (es.map fun e => V.ref e.2.1)) from ⟨by rw [List.length_map]; exact l, acc.toList, c', by rw [ea]; exact refs_keys es, by rw [Array.toArray_toList]; exact hD⟩), rfl, q _ (I.hok.fresh (Nat.le_refl _))⟩
end
end GX
/-! sorted(d) of a dict keyed by nested tuples -/
namespace GX
open PySem PySem.Spec PyProof.Rows L2 GxR
section
variable {κ : Type} [DecidableEq κ] {T : KT κ} {X : Cx}
theorem each_keys : ∀ es : List (κ × Addr × V), PySem.W.EachIs (fun (u : Value) (e : κ × Addr × V) => u = Value.ref e.2.1) (es.map fun e => Value.ref e.2.1) es
  | [] => .nil
  | _ :: es => .cons rfl (each_keys es)
theorem keys_each : ∀ {us : List Value} {es : List (κ × Addr × V)}, PySem.W.EachIs (fun (u : Value) (e : κ × Addr × V) => u = Value.ref e.2.1) us es → us = es.map fun e => Value.ref e.2.1
  | _, _, .nil => rfl
  | _, _, .cons h t => by rw [h, keys_each t]; rfl
/-- the entries in the order of their keys -/
def sortN (T : KT κ) (es : List (κ × Addr × V)) : List (κ × Addr × V) := es.mergeSort (PySem.W.dataLe false fun e => T.enc e.1)
theorem cr_sortedN (hcalm : X.calm = true) (hu : X.A.units + 64 < cLine) : CallR X (.builtin "sorted") (fun xs H Q => ∃ (a : Addr) (es : List (κ × Addr × V)), xs = [.ref a] ∧ Rd H a (dNO T X.prog X.w a es) ∧ KeysAt T X.K H es ∧ PySem.W.AllAlike (es.map fun e => T.enc e.1) ∧ PySem.W.Sortable (es.map fun e => T.enc e.1) ∧
    ∀ p, H p = none → Q (.ref p) (upd H p (.lst ((sortN T es).map fun e => V.ref e.2.1)))) := by
  intro pins s σ H xs us Q I r q
  obtain ⟨a, es, ex, hd, hk, al, so, q⟩ := q
  subst ex
  obtain ⟨u, eu, rx⟩ := vals1 r
  subst eu
  cases rx
  obtain ⟨z, l, ds, ep, raw, ld, hkk⟩ := dn_raw I hd
  refine Calls.call_function_entry PyProof.Rows.kind_sorted PyProof.Rows.plain_sorted PyProof.Rows.entry_sorted (PyProof.Rows.args_sorted1 _) ?_
  unfold Builtin.«sorted»
  refine wpAny_bind (m := checkCount "sorted" 1 1 _) (wpAny_pure ?_)
  refine wpAny_bind (PySem.W.kdu_collect (A := X.A.in1) (KdlSrc.rawDict (es := ds) (ep := ep) z) (I.ok.hd hcalm) raw (by rw [ld]; exact l) fun h' tk acc hk' hacc => ?_)
  have ea := raw_keys ld hkk hacc.1 hacc.2
  have I1 : Inv X pins σ H { s with heap := h', toks := tk } := I.kept hk'
  have hla : acc.toList.length = es.length := by rw [ea, List.length_map]
  refine wpAny_bind (wpAny_newList ?_ (by rw [hla]; exact l))
  have hoL : (h'.push (seqObj "list" acc.toList.toArray 0)).get? h'.objs.size = some (seqObj "list" acc.toList.toArray 0) := Heap.get?_push_size _ rfl
  have hE : PySem.W.EachIs (fun (u : Value) (e : κ × Addr × V) => u = Value.ref e.2.1) acc.toList es := by rw [ea]; exact each_keys es
  have er : PySem.W.EachIs (fun (v : Value) (b : κ × Addr × V) => ∃ as, Reads (h'.push (seqObj "list" acc.toList.toArray 0)) v (T.enc b.1) as ∧ h'.objs.size ∉ as) acc.toList es := (PySem.W.each_mem hE).mono fun v b ⟨e, hb⟩ => by
    subst e
    obtain ⟨as, rr⟩ := Dp.reads I1 _ (V.ref b.2.1) _ (hk b hb) rfl
    exact ⟨as, PyProof.Rows.Reads.keeps (fun b o e => Heap.get?_push_of_some _ e) rr, fun hm => by
      obtain ⟨o, ho⟩ := PyProof.On.reads_mem_get rr _ hm
      exact Nat.lt_irrefl _ (Heap.lt_size ho)⟩
  show wpAny _ _ _ _ _ { s with heap := h'.push (seqObj "list" acc.toList.toArray 0), toks := tk }
  refine wpAny_bind (wpAny_holding (PySem.W.list_sort_data (s := { s with heap := h'.push (seqObj "list" acc.toList.toArray 0), toks := tk }) hoL hE er al so l (fun b hb => by
    have := T.dp b.1
    show X.A.units + 1 + 1 + _ < cLine
    omega) fun out lo eo => ?_))
  have eo' : out = (sortN T es).map fun e => Value.ref e.2.1 := keys_each eo
  obtain ⟨e', he'⟩ := PyProof.Rows.sortedHeap_at (vs := acc.toList) (out := List.toArray out) hoL
  have hlen : ((sortN T es).map fun e => V.ref e.2.1).length ≤ sizeLine := by
    rw [List.length_map, sortN, List.length_mergeSort]
    exact l
  refine wpAny_pure ⟨_, rfl, .ref h'.objs.size, upd H h'.objs.size (.lst ((sortN T es).map fun e => V.ref e.2.1)), I1.laid (t' := tk) (fun b u e => ?_) (Nat.le_refl _)
    (show ObjOk X.prog X.w _ _ _ (.lst ((sortN T es).map fun e => V.ref e.2.1)) from ⟨hlen, out, e', by rw [eo']; exact refs_keys _, he'⟩), rfl, q _ (I1.hok.fresh (Nat.le_refl _))⟩
  have hb : b < h'.objs.size := Heap.lt_size e
  rw [PyProof.Rows.sortedHeap_old (Nat.ne_of_lt hb) (by rw [size_push']; exact Nat.lt_succ_of_lt hb)]
  exact Heap.get?_push_of_some _ e
end
end GX
/-! tables of sets whose mask is 7, 15, 31, 63 or 127: each slot is met; putting in; laying anew -/
namespace GS
open PySem PySem.Spec PyProof.Rows L2
/-- every slot begins a run early enough -/
def Cov (m : Nat) : Prop := ∀ (h : Int) (j : Nat), j ≤ m → ∃ n, n ≤ m + 12 ∧ runI m (SetTable.bits h) n = j
def Mk (m : Nat) : Prop := m = 7 ∨ m = 15 ∨ m = 31 ∨ m = 63 ∨ m = 127
def roundIs (m : Nat) : Bool := (lcgN m (m + 1) == 0) && (List.range (m + 1)).all fun j => (List.range (m + 1)).any fun b => lcgN m b == j
theorem roundIs_mk {m : Nat} (hm : Mk m) : roundIs m = true := by
  rcases hm with e | e | e | e | e
  · rw [e]; decide +kernel
  · rw [e]; decide +kernel
  · rw [e]; decide +kernel
  · rw [e]; decide +kernel
  · rw [e]; decide +kernel
theorem cov_of {m : Nat} (h : roundIs m = true) : Cov m := by
  unfold roundIs at h
  rw [Bool.and_eq_true, beq_iff_eq] at h
  obtain ⟨z, al⟩ := h
  have md : ∀ k, lcgN m (m + 1 + k) = lcgN m k := fun k => by
    induction k with
    | zero => exact z
    | succ k ih =>
      show (lcgN m (m + 1 + k) * 5 + 1) % (m + 1) = (lcgN m k * 5 + 1) % (m + 1)
      rw [ih]
  have at_ : ∀ j, j ≤ m → ∃ b, b ≤ m ∧ lcgN m b = j := fun j hj => by
    obtain ⟨b, hb, e⟩ := List.any_eq_true.mp (List.all_eq_true.mp al j (List.mem_range.mpr (by omega)))
    exact ⟨b, by have := List.mem_range.mp hb; omega, beq_iff_eq.mp e⟩
  intro h j hj
  obtain ⟨a, ha, ea⟩ := at_ _ (runI_le m (SetTable.bits h) 12)
  obtain ⟨b, hb, eb⟩ := at_ j hj
  by_cases c : b < a
  · refine ⟨12 + (b + (m + 1) - a), by omega, ?_⟩
    rw [runI_tail (bits_lt h), ← ea, lcgN_add, show a + (b + (m + 1) - a) = m + 1 + b by omega, md, eb]
  · refine ⟨12 + (b - a), by omega, ?_⟩
    rw [runI_tail (bits_lt h), ← ea, lcgN_add, show a + (b - a) = b by omega, eb]
theorem cov_mk {m : Nat} (hm : Mk m) : Cov m := cov_of (roundIs_mk hm)
theorem meets {m : Nat} (C : Cov m) (h : Int) {j : Nat} (hj : j ≤ m) : ∃ k, k < 10 * SetTable.turns m ∧ way m h k = j := by
  obtain ⟨n, hn, e⟩ := C h j hj
  obtain ⟨k, hk, e2⟩ := run_nth m (SetTable.bits h) n
  refine ⟨k, by unfold SetTable.turns; omega, ?_⟩
  show (nth m _ k).j = j
  rw [e2]
  exact e
theorem way_in (m : Nat) (h : Int) (k : Nat) : way m h k ≤ m := by
  have b := runEnd_bd (m := m) (i := SetTable.bits h % (m + 1)) (Nat.le_of_lt_succ (Nat.mod_lt _ (Nat.succ_pos _)))
  have q := nth_in (m := m) k (runAt m (SetTable.bits h % (m + 1)) (SetTable.bits h)) (by
    have z : SetTable.bits h % (m + 1) ≤ m := Nat.le_of_lt_succ (Nat.mod_lt _ (Nat.succ_pos _))
    show SetTable.bits h % (m + 1) + (SetTable.runEnd m (SetTable.bits h % (m + 1)) - SetTable.bits h % (m + 1)) ≤ m
    omega)
  exact Nat.le_trans (Nat.le_add_right _ _) q
/-- a table that is right for the hashes hs -/
structure Tb (t : SetTable) (hs : List Int) : Prop where
  ris : Ris t.place.toList
  dm : t.dummies = #[]
  sz : t.place.size = hs.length
  msk : Mk t.mask
  bd : ∀ x ∈ t.place.toList, x ≤ t.mask
  reach : ∀ (i : Nat) (h : Int) (j : Nat), hs[i]? = some h → t.place.toList[i]? = some j → ∃ k, way t.mask h k = j ∧ ∀ k', k' < k → way t.mask h k' ∈ t.place.toList
variable {t : SetTable} {hs : List Int}
theorem Tb.odd (T : Tb t hs) : t.mask % 2 = 1 := by
  rcases T.msk with e | e | e | e | e <;> rw [e]
theorem Tb.le (T : Tb t hs) : t.mask ≤ 127 := by
  rcases T.msk with e | e | e | e | e <;> omega
theorem Tb.first (T : Tb t hs) (hl : hs.length ≤ t.mask) (h : Int) : ∃ K, K < 10 * SetTable.turns t.mask ∧ way t.mask h K ∉ t.place.toList ∧ ∀ k, k < K → way t.mask h k ∈ t.place.toList := by
  obtain ⟨j, hj, hn⟩ := st_missing t.place.toList (t.mask + 1) (by rw [Array.length_toList, T.sz]; omega)
  obtain ⟨k, hk, e⟩ := meets (cov_mk T.msk) h (j := j) (by omega)
  obtain ⟨K, h1, h2, h3⟩ := st_least (p := fun k => way t.mask h k ∉ t.place.toList) k (fun z => hn (e ▸ z))
  exact ⟨K, by omega, h2, fun k' hk' => Classical.byContradiction fun c => h3 k' hk' c⟩
theorem Tb.before (T : Tb t hs) {h : Int} {K i j : Nat} (hK : way t.mask h K ∉ t.place.toList) (hi : hs[i]? = some h) (hj : t.place.toList[i]? = some j) : ∃ k, k < K ∧ way t.mask h k = j := by
  obtain ⟨k, e, hb⟩ := T.reach i h j hi hj
  by_cases c : k < K
  · exact ⟨k, c, e⟩
  · exfalso
    by_cases d : k = K
    · exact hK (d ▸ e ▸ List.mem_of_getElem? hj)
    · exact hK (hb K (by omega))
theorem Tb.put (T : Tb t hs) {h : Int} {K : Nat} (hK : way t.mask h K ∉ t.place.toList) (hb : ∀ k, k < K → way t.mask h k ∈ t.place.toList) :
    ∃ p, (t.put (way t.mask h K)).2 = p ∧ p = SetTable.below t.place (way t.mask h K) ∧ p ≤ hs.length ∧ Tb (t.put (way t.mask h K)).1 (hs.take p ++ h :: hs.drop p) ∧ (t.put (way t.mask h K)).1.fill = hs.length + 1 := by
  refine ⟨SetTable.below t.place (way t.mask h K), rfl, rfl, ?_⟩
  have hw := way_in t.mask h K
  generalize ej : way t.mask h K = j at hK hw ⊢
  have c1 : SetTable.below t.place j ≤ t.place.size := (below_cut T.ris j).1
  have hpl : SetTable.below t.place j ≤ t.place.toList.length := by rw [Array.length_toList]; exact c1
  have hph : SetTable.below t.place j ≤ hs.length := T.sz ▸ c1
  have hnp : t.place[SetTable.below t.place j]? ≠ some j := fun e => hK (List.mem_of_getElem? (i := SetTable.below t.place j) (by rw [Array.getElem?_toList]; exact e))
  have hpp := put_place t j
  have hsize : (t.put j).1.place.size = hs.length + 1 := by
    rw [← Array.length_toList, hpp, len_ins _ hpl, Array.length_toList, T.sz]
  have up : ∀ x : Nat, x ∈ t.place.toList → x ∈ (t.put j).1.place.toList := fun x hx => by
    rw [hpp]
    exact mem_ins.2 (.inr hx)
  refine ⟨hph, ⟨ris_insert T.ris hnp, put_dm T.dm j, by rw [len_ins _ hph]; exact hsize, T.msk, fun x hx => ?_, fun i h' j' h1 h2 => ?_⟩, ?_⟩
  · rw [hpp] at hx
    rcases mem_ins.1 hx with z | z
    · exact z ▸ hw
    · exact T.bd x z
  · rw [tins_get hs hph] at h1
    rw [hpp, tins_get _ hpl] at h2
    have go : ∀ i0, hs[i0]? = some h' → t.place.toList[i0]? = some j' → ∃ k, way t.mask h' k = j' ∧ ∀ k', k' < k → way t.mask h' k' ∈ (t.put j).1.place.toList := fun i0 a b => by
      obtain ⟨k, e, z⟩ := T.reach i0 h' j' a b
      exact ⟨k, e, fun k' hk' => up _ (z k' hk')⟩
    by_cases c : i < SetTable.below t.place j
    · rw [if_pos c] at h1 h2
      exact go i h1 h2
    · rw [if_neg c] at h1 h2
      by_cases d : i = SetTable.below t.place j
      · rw [if_pos d] at h1 h2
        cases h1
        cases h2
        exact ⟨K, ej, fun k' hk' => up _ (hb k' hk')⟩
      · rw [if_neg d] at h1 h2
        exact go (i - 1) h1 h2
  · show (t.put j).1.place.size + (t.put j).1.dummies.size = hs.length + 1
    rw [hsize, put_dm T.dm j]
    rfl
/-! ### laying anew -/
theorem free_at {m : Nat} (C : Cov m) (owner : Array (Option Nat)) (h : Int) {j : Nat} (hj : j ≤ m) (hf : oAt owner j = none) :
    ∃ K, SetTable.layClean.free m owner (SetTable.turns m) (SetTable.bits h % (m + 1)) (SetTable.bits h) = some (way m h K) ∧ oAt owner (way m h K) = none ∧ ∀ k, k < K → oAt owner (way m h k) ≠ none := by
  obtain ⟨n, hn, e⟩ := C h j hj
  have hw : way m h (off m (SetTable.bits h % (m + 1)) (SetTable.bits h) n) = j := by
    show (nth m _ _).j = j
    rw [nth_off, itL_run]
    exact e
  obtain ⟨K, k1, k2, k3⟩ := st_least (p := fun k => oAt owner (way m h k) = none) _ (show oAt owner (way m h (off m (SetTable.bits h % (m + 1)) (SetTable.bits h) n)) = none from hw ▸ hf)
  refine ⟨K, free_spec m owner (SetTable.turns m) n _ _ K (by unfold SetTable.turns; omega) k1 (fun k hk => ?_) (by show (oAt owner (way m h K)).isNone = true; rw [k2]; rfl), k2, k3⟩
  have q := k3 k hk
  show (oAt owner (way m h k)).isNone = false
  cases z : oAt owner (way m h k) with
  | none => exact absurd z q
  | some _ => rfl
theorem own_step {m : Nat} (C : Cov m) {done : List Int} {owner : Array (Option Nat)} (W : Own m done owner) (hl : done.length ≤ m) (h : Int) :
    ∃ j, SetTable.layClean.free m owner (SetTable.turns m) (SetTable.bits h % (m + 1)) (SetTable.bits h) = some j ∧ Own m (done ++ [h]) (owner.setIfInBounds j (some done.length)) := by
  obtain ⟨ps, hps, hin⟩ := W.ps
  obtain ⟨j0, h0, hn0⟩ := st_missing ps (m + 1) (by omega)
  have hj0 : oAt owner j0 = none := Classical.byContradiction fun c => hn0 (hin j0 (by omega) c)
  obtain ⟨K, e1, e2, e3⟩ := free_at C owner h (j := j0) (by omega) hj0
  have hjm := way_in m h K
  refine ⟨way m h K, e1, ?_⟩
  generalize ew : way m h K = j1 at e2 hjm ⊢
  have hself : oAt (owner.setIfInBounds j1 (some done.length)) j1 = some done.length := oAt_set_self _ (by rw [W.sz]; omega)
  have mono : ∀ i : Nat, oAt owner i ≠ none → oAt (owner.setIfInBounds j1 (some done.length)) i ≠ none := fun i hi => by
    by_cases c : i = j1
    · rw [c, hself]
      exact Option.some_ne_none _
    · rw [oAt_set_ne _ c]
      exact hi
  constructor
  · rw [Array.size_setIfInBounds]
    exact W.sz
  · intro j k hj e
    by_cases c : j = j1
    · rw [c, hself] at e
      cases e
      exact ⟨h, K, by rw [List.getElem?_append_right (Nat.le_refl _), Nat.sub_self]; rfl, ew.trans c.symm, fun k' hk' => mono _ (e3 k' hk')⟩
    · rw [oAt_set_ne _ c] at e
      obtain ⟨h', K', a1, a2, a3⟩ := W.at_ j k hj e
      exact ⟨h', K', by rw [List.getElem?_append_left (List.getElem?_eq_some_iff.mp a1).1]; exact a1, a2, fun k' hk' => mono _ (a3 k' hk')⟩
  · intro k hk
    rw [List.length_append, List.length_singleton] at hk
    by_cases c : k < done.length
    · obtain ⟨j, hj, e⟩ := W.all k c
      exact ⟨j, hj, by rw [oAt_set_ne _ (fun z => by rw [z, e2] at e; cases e)]; exact e⟩
    · have ek : k = done.length := by omega
      exact ⟨j1, hjm, ek ▸ hself⟩
  · refine ⟨j1 :: ps, by rw [List.length_cons, List.length_append, hps]; rfl, fun j hj e => ?_⟩
    by_cases c : j = j1
    · rw [c]
      exact List.mem_cons_self
    · rw [oAt_set_ne _ c] at e
      exact List.mem_cons_of_mem _ (hin j hj e)
theorem lay_fold {m : Nat} (C : Cov m) : ∀ (rest done : List Int) (owner : Array (Option Nat)), Own m done owner → done.length + rest.length ≤ m →
    ∃ owner', rest.foldl (stepF m) (some (owner, done.length)) = some (owner', (done ++ rest).length) ∧ Own m (done ++ rest) owner'
  | [], done, owner, W, _ => ⟨owner, by rw [List.append_nil]; rfl, by rw [List.append_nil]; exact W⟩
  | h :: rest, done, owner, W, hl => by
    rw [List.length_cons] at hl
    obtain ⟨j, e, W'⟩ := own_step C W (by omega) h
    obtain ⟨owner', f, W2⟩ := lay_fold C rest (done ++ [h]) _ W' (by rw [List.length_append, List.length_singleton]; omega)
    rw [List.append_assoc, List.length_append, List.length_singleton] at f
    rw [List.append_assoc] at W2
    refine ⟨owner', ?_, W2⟩
    rw [List.foldl_cons, stepF_some e]
    exact f
theorem lay_ok {m : Nat} (C : Cov m) {ha : Array Int} (hn : ha.size ≤ m) : ∃ owner, SetTable.layClean m ha = some owner ∧ Own m ha.toList owner := by
  obtain ⟨owner, f, W⟩ := lay_fold C ha.toList [] _ (Own.init m) (by show 0 + ha.toList.length ≤ m; rw [Array.length_toList]; omega)
  refine ⟨owner, ?_, W⟩
  rw [layClean_eq]
  have f' : ha.toList.foldl (stepF m) (some (Array.replicate (m + 1) none, 0)) = some (owner, ([] ++ ha.toList).length) := f
  rw [f']
  rfl
theorem laid_ok {M : Nat} (hM : Mk M) {finger moves : Nat} {led plain : Bool} {ha : Array Int} (hn : ha.size ≤ M) :
    ∃ t' order, SetTable.laid M finger moves led plain ha = some (t', order) ∧ order.toList.Perm (List.range ha.size) ∧ Tb t' (order.toList.map fun i => ha.getD i 0) ∧ t'.mask = M ∧ t'.led = led ∧ t'.plain = plain := by
  obtain ⟨owner, e, W⟩ := lay_ok (cov_mk hM) hn
  refine ⟨{ mask := M, place := ((liveOf M owner).map (·.1)).toArray, dummies := #[], finger := finger, led := led, moves := moves, plain := plain }, ((liveOf M owner).map (·.2)).toArray, ?_, ?_⟩
  · unfold SetTable.laid
    rw [e]
    rfl
  have rr := ris_live (fun j => owner.getD j none) (List.range (M + 1)) (by unfold Ris; exact List.pairwise_lt_range)
  have r1 : Ris ((liveOf M owner).map (·.1)) := rr.1
  have r2 : ∀ x ∈ (liveOf M owner).map (·.1), x ∈ List.range (M + 1) := rr.2
  have hlen : (liveOf M owner).length = ha.size := by
    obtain ⟨ps, p1, p2⟩ := W.ps
    have nd : ((liveOf M owner).map (·.1)).Nodup := List.Pairwise.imp (fun h => Nat.ne_of_lt h) r1
    have a := nat_nodup_len ((liveOf M owner).map (·.1)) ps nd fun x hx => by
      obtain ⟨⟨y, k⟩, hq, rfl⟩ := List.mem_map.mp hx
      obtain ⟨b1, b2⟩ := (mem_live W.sz).1 hq
      exact p2 y b1 (by rw [b2]; exact Option.some_ne_none _)
    have b := nat_nodup_len (List.range ha.size) ((liveOf M owner).map (·.2)) List.nodup_range fun k hk => by
      obtain ⟨j, b1, b2⟩ := W.all k (by rw [Array.length_toList]; exact List.mem_range.mp hk)
      exact List.mem_map.mpr ⟨(j, k), (mem_live W.sz).2 ⟨b1, b2⟩, rfl⟩
    rw [List.length_map, p1, Array.length_toList] at a
    rw [List.length_map, List.length_range] at b
    exact Nat.le_antisymm a b
  refine ⟨?_, ⟨r1, rfl, by simp, hM, fun x hx => Nat.le_of_lt_succ (List.mem_range.mp (r2 x hx)), fun i h j h1 h2 => ?_⟩, rfl, rfl, rfl⟩
  · refine perm_range ha.size _ (by simp [hlen]) fun k hk => ?_
    obtain ⟨j, b1, b2⟩ := W.all k (by rw [Array.length_toList]; exact hk)
    exact List.mem_map.mpr ⟨(j, k), (mem_live W.sz).2 ⟨b1, b2⟩, rfl⟩
  · have h1' : (((liveOf M owner).map (·.2)).map fun i => ha.getD i 0)[i]? = some h := h1
    have h2' : ((liveOf M owner).map (·.1))[i]? = some j := h2
    rw [List.getElem?_map, List.getElem?_map] at h1'
    rw [List.getElem?_map] at h2'
    cases hq : (liveOf M owner)[i]? with
    | none => rw [hq] at h2'; cases h2'
    | some q =>
      obtain ⟨y, k⟩ := q
      rw [hq] at h1' h2'
      cases h2'
      obtain ⟨b1, b2⟩ := (mem_live W.sz).1 (List.mem_of_getElem? hq)
      obtain ⟨h0, K, a1, a2, a3⟩ := W.at_ y k b1 b2
      have e0 : ha.getD k 0 = h0 := by rw [Array.getD_eq_getD_getElem?, ← Array.getElem?_toList, a1]; rfl
      have eh : ha.getD k 0 = h := Option.some.inj h1'
      rw [e0] at eh
      subst eh
      refine ⟨K, a2, fun k' hk' => ?_⟩
      show way M h0 k' ∈ (liveOf M owner).map (·.1)
      cases z : oAt owner (way M h0 k') with
      | none => exact absurd z (a3 k' hk')
      | some k2 => exact List.mem_map.mpr ⟨(way M h0 k', k2), (mem_live W.sz).2 ⟨way_in M h0 k', z⟩, rfl⟩
end GS
/-! sets over a kind of elements: the object, the search, adding, laying anew -/
namespace GS
open PySem PySem.Spec PyProof.Rows L2
/-- tuples stay -/
def TStay (h h' : Heap) : Prop := ∀ a o vs n, h.get? a = some o → o.data = .seq vs n → h'.get? a = some o
/-- a kind of elements -/
structure EK (P : Program) (w : World) (κ : Type) [DecidableEq κ] where
  is : Heap → κ → Value → Prop
  hash : κ → Int
  draws : κ → Nat
  sc : Bool
  isSc : ∀ {h : Heap} {k : κ} {v : Value}, is h k v → v.scannable = sc
  inj : ∀ {h : Heap} {x y : κ} {v : Value}, is h x v → is h y v → x = y
  keep : ∀ {h h' : Heap} {k : κ} {v : Value}, is h k v → TStay h h' → is h' k v
  hashR : ∀ {A : Around} {E : Value → Shared → Prop} {s : Shared} {k : κ} {v : Value} {Q : Int → Shared → Prop}, A.units + 9 < cLine → is s.heap k v → Q (hash k) { s with toks := s.toks + draws k } → wpAny (model P w) A (pyHash v) Q E s
  byV : ∀ {A : Around} {E : Value → Shared → Prop} {s : Shared} {k : κ} {v : Value} {Q : Bool → Shared → Prop}, is s.heap k v → (∀ b, Q b s) → wpAny (model P w) A (hashByValue 8 v) Q E s
  eqR : sc = false → ∀ {A : Around} {E : Value → Shared → Prop} {s : Shared} {x y : κ} {u v : Value} {Q : Bool → Shared → Prop}, A.units + 9 < cLine → is s.heap x u → is s.heap y v → Q (decide (x = y)) s → wpAny (model P w) A (eqBool u v) Q E s
  sameR : ∀ {A : Around} {E : Value → Shared → Prop} {s : Shared} {x : κ} {u : Value} {Q : Bool → Shared → Prop}, sc = false → is s.heap x u → Q true s → wpAny (model P w) A (isSame u u) Q E s
  seenR : sc = false → ∀ {A : Around} {E : Value → Shared → Prop} {s : Shared} {k : κ} {v : Value} {ys : List Value} {Q : Bool → Shared → Prop}, is s.heap k v → (∀ y ∈ ys, ∃ k', is s.heap k' y) → Q false s → wpAny (model P w) A (searchCouldBeSeen v ys) Q E s
  spR : ∀ {A : Around} {E : Value → Shared → Prop} {s : Shared} {k : κ} {b : Addr} {Q : Option Value → Shared → Prop}, is s.heap k (.ref b) → (∀ r, Q r s) → wpAny (model P w) A (specialOf (.ref b) "__eq__") Q E s
  scanR : sc = true → ∀ {A : Around} {E : Value → Shared → Prop} {s : Shared} {a : Addr} {o : Obj} {es : Array (Int × Value)} {ep : Nat} {t : SetTable} {x : Value} {k : κ} {adding : Bool} {Q : ScanMet → Shared → Prop}, is s.heap k x →
    s.heap.get? a = some o → o.data = .set es ep t → t.fits es.size = true → (∀ e ∈ es.toList, ∃ k', is s.heap k' e.2 ∧ e.1 = hash k') →
    ((∃ e ∈ es.toList, is s.heap k e.2) → ∀ i, Q (.found i) s) → ((∀ e ∈ es.toList, ¬ is s.heap k e.2) → Q .absent s) → wpAny (model P w) A (setScan a x (hash k) adding es) Q E s
section
variable {P : Program} {w : World} {κ : Type} [DecidableEq κ] (T : EK P w κ)
def rowsOf (L : List (κ × Value)) : List (Int × Value) := L.map fun p => (T.hash p.1, p.2)
structure SR (h : Heap) (a : Addr) (L : List (κ × Value)) (es : Array (Int × Value)) (ep : Nat) (t : SetTable) : Prop where
  ob : ∃ o, h.get? a = some o ∧ o.ExactSet ∧ o.data = .set es ep t
  rows : es.toList = rowsOf T L
  tab : Tb t (L.map fun p => T.hash p.1)
  nd : (L.map (·.1)).Nodup
  led : w.params.followText "set-order" = true ∨ t.led = true
  room : L.length * 5 < t.mask * 3
  elt : ∀ p ∈ L, T.is h p.1 p.2
variable {T}
variable {A : Around} {E : Value → Shared → Prop} {s : Shared} {a : Addr} {L : List (κ × Value)} {es : Array (Int × Value)} {ep : Nat} {t : SetTable}
theorem rows_len {L : List (κ × Value)} {es : Array (Int × Value)} (h : es.toList = rowsOf T L) : es.size = L.length := by
  rw [← Array.length_toList, h]
  exact List.length_map _
theorem tb_fits {hs : List Int} (T : Tb t hs) {n : Nat} (hn : hs.length = n) (hl : n ≤ t.mask) : t.fits n = true := by
  unfold SetTable.fits SetTable.fill
  rw [T.dm, Bool.and_eq_true, beq_iff_eq, decide_eq_true_eq, T.sz, hn]
  exact ⟨rfl, hl⟩
theorem SR.size {h : Heap} (R : SR T h a L es ep t) : es.size = L.length := rows_len R.rows
theorem SR.few {h : Heap} (R : SR T h a L es ep t) : L.length ≤ 76 := by
  have := R.room
  have := R.tab.le
  omega
theorem SR.fits {h : Heap} (R : SR T h a L es ep t) : t.fits es.size = true := by
  have := R.room
  rw [R.size]
  exact tb_fits R.tab (List.length_map _) (by omega)
theorem SR.entry {h : Heap} (R : SR T h a L es ep t) {i : Nat} {p : κ × Value} (hi : L[i]? = some p) : es[i]? = some (T.hash p.1, p.2) := by
  rw [← Array.getElem?_toList, R.rows]
  unfold rowsOf
  rw [List.getElem?_map, hi]
  rfl
theorem SR.gw {h : Heap} (R : SR T h a L es ep t) : t.gaveWay = false := by
  unfold SetTable.gaveWay
  rw [R.tab.odd]
  rfl
theorem SR.keep {h h' : Heap} (R : SR T h a L es ep t) (ha : ∀ o, h.get? a = some o → h'.get? a = some o) (ht : TStay h h') : SR T h' a L es ep t := by
  obtain ⟨o, ho, r⟩ := R.ob
  exact ⟨⟨o, ha o ho, r⟩, R.rows, R.tab, R.nd, R.led, R.room, fun p hp => T.keep (R.elt p hp) ht⟩
theorem stay_same {h h' : Heap} {o : Obj} {es : Array (Int × Value)} {ep : Nat} {t : SetTable} (ho : h.get? a = some o) (hd : o.data = .set es ep t) (hs : Heap.SameBut a h h') : TStay h h' := fun b ob vs n hb hdb => by
  refine (hs.2 b fun e => ?_).trans hb
  subst e
  rw [ho] at hb
  cases hb
  rw [hd] at hdb
  cases hdb
theorem stay_grow {h h' : Heap} (k : ∀ b o, h.get? b = some o → h'.get? b = some o) : TStay h h' := fun b o _ _ e _ => k b o e
theorem TStay.trans {h1 h2 h3 : Heap} (x : TStay h1 h2) (y : TStay h2 h3) : TStay h1 h3 := fun b o vs n e d => y b o vs n (x b o vs n e d) d
abbrev st0 (m : Nat) (h : Int) : SetTable.Probe := runAt m (SetTable.bits h % (m + 1)) (SetTable.bits h)
theorem nth_dm (m : Nat) : ∀ (n : Nat) (p : SetTable.Probe), p.dummy = none → (nth m p n).dummy = none
  | 0, _, h => h
  | n + 1, p, h => nth_dm m n (adv m p) (by unfold adv; split <;> exact h)
/-- what a search finds, from the c-th step on -/
theorem search_from (hsc : T.sc = false) (R : SR T s.heap a L es ep t) {x : Value} {k : κ} (hx : T.is s.heap k x) (hu : A.units + 9 < cLine) {K : Nat} (hKf : K < 10 * SetTable.turns t.mask)
    (hK : way t.mask (T.hash k) K ∉ t.place.toList) (hKb : ∀ c, c < K → way t.mask (T.hash k) c ∈ t.place.toList) {Q : SetFound → Shared → Prop} {adding : Bool}
    (hin : k ∈ L.map (·.1) → (adding = true → Q (.there none) s) ∧ (adding = false → ∀ i, Q (.there (some i)) s)) (hout : k ∉ L.map (·.1) → Q (.free (way t.mask (T.hash k) K) false) s) :
    ∀ (f c : Nat) (stand : Option SetTable.Probe), stand.getD (t.probeStart (T.hash k)) = nth t.mask (st0 t.mask (T.hash k)) c → c ≤ K → K - c < f →
      (∀ (i : Nat) p, L[i]? = some p → p.1 = k → ∃ c', c ≤ c' ∧ c' < K ∧ t.place.toList[i]? = some (way t.mask (T.hash k) c')) →
      wpAny (model P w) A (setSearchFrom a x (T.hash k) adding f stand) Q E s
  | 0, c, stand, _, _, hf, _ => absurd hf (Nat.not_lt_zero _)
  | f + 1, c, stand, hst, hc, hf, hre => by
    obtain ⟨o, ho, hex, hd⟩ := R.ob
    rw [setSearchFrom_succ]
    refine wpAny_bind (wpAny_setState_of ho hd R.fits ?_)
    dsimp only
    refine wp_if_neg (by rw [R.gw]; exact Bool.false_ne_true) ?_
    try refine wpAny_bind (wpAny_pure ?_)
    have sh : ∀ q, nth t.mask (nth t.mask (st0 t.mask (T.hash k)) c) q = nth t.mask (st0 t.mask (T.hash k)) (c + q) := fun q => (nth_add t.mask c _ q).symm
    have e1 : ∀ q, (nth t.mask (nth t.mask (st0 t.mask (T.hash k)) c) q).j = way t.mask (T.hash k) (c + q) := fun q => congrArg SetTable.Probe.j (sh q)
    have hKc : c + (K - c) = K := by omega
    have spec := go_spec t R.tab.ris R.tab.dm (fun i => (es[i]?.map (·.1)).getD 0) (T.hash k) (10 * SetTable.turns t.mask) (K - c) _ (nth_dm t.mask c _ rfl) (by omega)
      (fun q hq => by rw [e1]; exact hKb (c + q) (by omega)) (by rw [e1, hKc]; exact hK)
    have hashAt : ∀ (i : Nat) p, L[i]? = some p → (es[i]?.map (·.1)).getD 0 = T.hash p.1 := fun i p hp => by
      rw [R.entry hp]
      rfl
    rcases spec with ⟨q, i, hq, hi, hh, hno, hpr⟩ | ⟨hno, hpr⟩
    · have hpr' : t.probe (fun i => (es[i]?.map (·.1)).getD 0) (T.hash k) (stand.getD (t.probeStart (T.hash k))) = some (.candidate (way t.mask (T.hash k) (c + q)) i (nth t.mask (st0 t.mask (T.hash k)) (c + (q + 1)))) := by
        rw [hst, ← e1, ← sh]
        exact hpr
      rw [hpr']
      dsimp only
      rw [e1] at hi
      have hil : i < L.length := by
        have h1 := (List.getElem?_eq_some_iff.mp hi).1
        have h2 := R.tab.sz
        rw [List.length_map] at h2
        rw [Array.length_toList] at h1
        omega
      have hp : L[i]? = some L[i] := List.getElem?_eq_getElem hil
      generalize hpe : L[i] = p at hp
      have hmem : p ∈ L := List.mem_of_getElem? hp
      have hpt := R.elt p hmem
      have rest : wpAny (model P w) A (searchRest a x (T.hash k) adding f es t (way t.mask (T.hash k) (c + q)) i (nth t.mask (st0 t.mask (T.hash k)) (c + (q + 1)))) Q E s := by
        unfold searchRest
        rw [R.entry hp]
        dsimp only
        refine wpAny_bind (wpAny_holding (T.eqR hsc hu hpt hx ?_))
        refine wpAny_bind (wpAny_setState_of ho hd R.fits ?_)
        dsimp only
        have hsl : t.slot (way t.mask (T.hash k) (c + q)) = .live i := slot_live R.tab.ris hi
        by_cases hkk : p.1 = k
        · have hm : k ∈ L.map (·.1) := List.mem_map.mpr ⟨p, hmem, hkk⟩
          cases had : adding with
          | true =>
            refine wp_if_pos (by simp [hkk]) ?_
            exact wpAny_pure ((hin hm).1 had)
          | false =>
            refine wp_if_neg (by simp) ?_
            try refine wpAny_bind (wpAny_pure ?_)
            rw [sameMem]
            dsimp only
            simp only [if_true, hsl, R.entry hp]
            refine wpAny_bind (T.sameR hsc hpt (wpAny_bind (wpAny_pure ?_)))
            simp only [if_true]
            refine wp_if_pos (by simp [hkk]) ?_
            exact wpAny_pure ((hin hm).2 had i)
        · refine wp_if_neg (by simp [hkk]) ?_
          try refine wpAny_bind (wpAny_pure ?_)
          rw [sameMem]
          dsimp only
          simp only [if_true, hsl, R.entry hp]
          refine wpAny_bind (T.sameR hsc hpt (wpAny_bind (wpAny_pure ?_)))
          simp only [if_true]
          refine wp_if_neg (by simp [hkk]) ?_
          refine search_from hsc R hx hu hKf hK hKb hin hout f (c + (q + 1)) _ rfl (by omega) (by omega) fun i0 p0 h0 hk0 => ?_
          obtain ⟨c', a1, a2, a3⟩ := hre i0 p0 h0 hk0
          refine ⟨c', ?_, a2, a3⟩
          rcases Nat.lt_trichotomy c' (c + q) with z | z | z
          · exact absurd ((hashAt i0 p0 h0).trans (congrArg T.hash hk0)) (hno (c' - c) i0 (by omega) (by rw [e1, show c + (c' - c) = c' by omega]; exact a3))
          · rw [z] at a3
            have s0 := slot_live R.tab.ris a3
            rw [hsl] at s0
            cases s0
            rw [hp] at h0
            cases h0
            exact absurd hk0 hkk
          · omega
      by_cases hl : t.led = true
      · refine wp_if_neg (by simp [hl]) ?_
        try refine wpAny_bind (wpAny_pure ?_)
        exact rest
      · refine wp_if_pos (by simp [hl]) ?_
        refine wpAny_bind (T.seenR hsc hx (fun y hy => ?_) ?_)
        · obtain ⟨e, he, ee⟩ := List.mem_map.mp hy
          have he2 : e ∈ es.toList := by
            have z : e ∈ es ∧ e.1 = T.hash k := by simpa using he
            simpa using z.1
          rw [R.rows] at he2
          obtain ⟨p2, hp2, e2⟩ := List.mem_map.mp he2
          exact ⟨p2.1, by rw [← ee, ← e2]; exact R.elt p2 hp2⟩
        · refine wp_if_neg (by decide) ?_
          try refine wpAny_bind (wpAny_pure ?_)
          exact rest
    · have hpr' : t.probe (fun i => (es[i]?.map (·.1)).getD 0) (T.hash k) (stand.getD (t.probeStart (T.hash k))) = some (.empty (way t.mask (T.hash k) K) none) := by
        rw [hst, show way t.mask (T.hash k) K = (nth t.mask (nth t.mask (st0 t.mask (T.hash k)) c) (K - c)).j by rw [e1, hKc]]
        exact hpr
      rw [hpr']
      dsimp only
      refine wpAny_pure (hout fun hm => ?_)
      obtain ⟨p0, h0, hk0⟩ := List.mem_map.mp hm
      obtain ⟨i0, hi0, e0⟩ := List.getElem_of_mem h0
      have h00 : L[i0]? = some p0 := by rw [List.getElem?_eq_getElem hi0, e0]
      obtain ⟨c', a1, a2, a3⟩ := hre i0 p0 h00 hk0
      exact hno (c' - c) i0 (by omega) (by rw [e1, show c + (c' - c) = c' by omega]; exact a3) ((hashAt i0 p0 h00).trans (congrArg T.hash hk0))
theorem search_at (hsc : T.sc = false) (R : SR T s.heap a L es ep t) {x : Value} {k : κ} (hx : T.is s.heap k x) (hu : A.units + 9 < cLine) {adding : Bool} {Q : SetFound → Shared → Prop}
    (hin : k ∈ L.map (·.1) → (adding = true → Q (.there none) s) ∧ (adding = false → ∀ i, Q (.there (some i)) s))
    (hout : ∀ K, k ∉ L.map (·.1) → way t.mask (T.hash k) K ∉ t.place.toList → (∀ c, c < K → way t.mask (T.hash k) c ∈ t.place.toList) → Q (.free (way t.mask (T.hash k) K) false) s) :
    wpAny (model P w) A (setSearch a x (T.hash k) adding) Q E s := by
  have hroom := R.room
  obtain ⟨K, hKf, hK, hKb⟩ := R.tab.first (by rw [List.length_map]; omega) (T.hash k)
  have hbig : K < 100000 := by
    have := R.tab.le
    unfold SetTable.turns at hKf
    omega
  unfold setSearch
  refine search_from hsc R hx hu hKf hK hKb hin (fun hn => hout K hn hK hKb) 100000 0 none rfl (Nat.zero_le _) (by omega) fun i p hp hk => ?_
  have hi : (L.map fun p => T.hash p.1)[i]? = some (T.hash k) := by rw [List.getElem?_map, hp, ← hk]; rfl
  have hil : i < t.place.toList.length := by
    have h1 := (List.getElem?_eq_some_iff.mp hp).1
    have h2 := R.tab.sz
    rw [List.length_map] at h2
    rw [Array.length_toList]
    omega
  have hj := List.getElem?_eq_getElem hil
  obtain ⟨c, hc, e⟩ := R.tab.before hK hi hj
  exact ⟨c, Nat.zero_le _, hc, by rw [hj, e]⟩
end
end GS
/-! adding to a set; laying it anew; room; merging -/
namespace GS
open PySem PySem.Spec PyProof.Rows L2
def szOk (n : Nat) : Bool := (SetTable.sizeAbove n - 1 == 7 || SetTable.sizeAbove n - 1 == 15 || SetTable.sizeAbove n - 1 == 31 || SetTable.sizeAbove n - 1 == 63 || SetTable.sizeAbove n - 1 == 127) && decide (n < SetTable.sizeAbove n) && decide (SetTable.sizeAbove n ≤ 128)
theorem szAll : (List.range 128).all szOk = true := by decide +kernel
theorem sz_at {n : Nat} (h : n < 128) : Mk (SetTable.sizeAbove n - 1) ∧ n < SetTable.sizeAbove n ∧ SetTable.sizeAbove n ≤ 128 := by
  have z := List.all_eq_true.mp szAll n (List.mem_range.mpr h)
  unfold szOk at z
  simp only [Bool.and_eq_true, Bool.or_eq_true, beq_iff_eq, decide_eq_true_eq] at z
  unfold Mk
  omega
section
variable {P : Program} {w : World} {κ : Type} [DecidableEq κ] {T : EK P w κ}
variable {A : Around} {E : Value → Shared → Prop} {s : Shared} {a : Addr} {L : List (κ × Value)} {es : Array (Int × Value)} {ep : Nat} {t : SetTable}
theorem get_take (L : List (κ × Value)) : ∀ n, n ≤ L.length → (List.range n).filterMap (fun i => L[i]?) = L.take n
  | 0, _ => rfl
  | n + 1, hn => by
    rw [List.range_succ, List.filterMap_append, get_take L n (by omega), List.take_succ, List.getElem?_eq_getElem (by omega)]
    simp [List.getElem?_eq_getElem (show n < L.length by omega)]
theorem order_rows (order : Array Nat) (hr : es.toList = rowsOf T L) (hp : order.toList.Perm (List.range L.length)) :
    ∃ L2, (order.filterMap (es[·]?)).toList = rowsOf T L2 ∧ L2.Perm L ∧ (L2.map fun p => T.hash p.1) = order.toList.map fun i => (es.map (·.1)).getD i 0 := by
  have ent : ∀ i : Nat, es[i]? = (L[i]?).map fun p => (T.hash p.1, p.2) := fun i => by
    rw [← Array.getElem?_toList, hr]
    unfold rowsOf
    rw [List.getElem?_map]
  refine ⟨order.toList.filterMap fun i => L[i]?, ?_, ?_, ?_⟩
  · rw [Array.toList_filterMap]
    unfold rowsOf
    rw [List.map_filterMap]
    exact congrArg (fun f => List.filterMap f order.toList) (funext ent)
  · have h2 := get_take L L.length (Nat.le_refl _)
    rw [List.take_length] at h2
    have h1 := hp.filterMap fun i => L[i]?
    rw [h2] at h1
    exact h1
  · have key : ∀ l : List Nat, (∀ i ∈ l, i < L.length) → ((l.filterMap fun i => L[i]?).map fun p => T.hash p.1) = l.map fun i => (es.map (·.1)).getD i 0 := fun l => by
      induction l with
      | nil => intro _; rfl
      | cons i l ih =>
        intro hl
        have hi := hl i List.mem_cons_self
        have e4 : (es.map (·.1)).getD i 0 = T.hash L[i].1 := by
          rw [Array.getD_eq_getD_getElem?, Array.getElem?_map, ent, List.getElem?_eq_getElem hi]
          rfl
        rw [List.filterMap_cons_some (List.getElem?_eq_getElem hi), List.map_cons, List.map_cons, ih fun j hj => hl j (List.mem_cons_of_mem _ hj), e4]
    exact key _ fun i hi => List.mem_range.mp (hp.mem_iff.mp hi)
theorem Tb.re {t t' : SetTable} {hs : List Int} (T : Tb t hs) (h1 : t'.place = t.place) (h2 : t'.dummies = t.dummies) (h3 : t'.mask = t.mask) : Tb t' hs := by
  constructor
  · rw [h1]; exact T.ris
  · rw [h2]; exact T.dm
  · rw [h1]; exact T.sz
  · rw [h3]; exact T.msk
  · rw [h1, h3]; exact T.bd
  · rw [h1, h3]; exact T.reach
/-- all laid anew -/
theorem relaid_at (hrows : es.toList = rowsOf T L) {finger moves M : Nat} {led plain : Bool} (hM : Mk M) (hl : L.length ≤ M) :
    ∃ t' order L', SetTable.laid M finger moves led plain (es.map (·.1)) = some (t', order) ∧ (order.filterMap (es[·]?)).toList = rowsOf T L' ∧ L'.Perm L ∧ Tb t' (L'.map fun p => T.hash p.1) ∧ t'.mask = M ∧ t'.led = led ∧ t'.plain = plain ∧
      (order.filterMap (es[·]?)).size = es.size ∧ order.toList.Perm (List.range es.size) := by
  have hsl := rows_len hrows
  obtain ⟨t', order, e, hp, Tt, em, el, epl⟩ := laid_ok (finger := finger) (moves := moves) (led := led) (plain := plain) hM (ha := es.map (·.1)) (by rw [Array.size_map, hsl]; exact hl)
  rw [Array.size_map] at hp
  obtain ⟨L2, r1, r2, r3⟩ := order_rows order hrows (by rw [← hsl]; exact hp)
  rw [← r3] at Tt
  exact ⟨t', order, L2, e, r1, r2, Tt, em, el, epl, by rw [rows_len r1, r2.length_eq, hsl], hp⟩
theorem relay_at {o : Obj} (ho : s.heap.get? a = some o) (hex : o.ExactSet) (hd : o.data = .set es ep t) (hrows : es.toList = rowsOf T L) (hf : t.fits es.size = true)
    (nd : (L.map (·.1)).Nodup) (elt : ∀ p ∈ L, T.is s.heap p.1 p.2) (ld : w.params.followText "set-order" = true ∨ t.led = true) {wanted : Nat}
    (hw : wanted < 128) (hn : L.length * 5 < (SetTable.sizeAbove wanted - 1) * 3) {Q : Unit → Shared → Prop}
    (hQ : ∀ h' L' es' ep' t', Heap.SameBut a s.heap h' → SR T h' a L' es' ep' t' → L'.Perm L → t'.mask = SetTable.sizeAbove wanted - 1 → Q () { s with heap := h' }) : wpAny (model P w) A (setRelay a wanted) Q E s := by
  obtain ⟨hM, hgt, hle⟩ := sz_at hw
  have hsl := rows_len hrows
  obtain ⟨t', order, L2, e, r1, r2, Tt, em, el, epl, hs2, _⟩ := relaid_at (finger := t.finger) (moves := t.movedTo (SetTable.sizeAbove wanted - 1)) (led := t.led) (plain := t.plain) hrows hM (by omega)
  rw [setRelay_eq]
  refine wpAny_bind (wpAny_setState_of ho hd hf ?_)
  dsimp only
  refine wp_if_neg (by rw [sizeLine_eq]; omega) ?_
  try refine wpAny_bind (wpAny_pure ?_)
  rw [show t.relaid (es.map (·.1)) wanted = some (t', order) from e]
  dsimp only
  refine wpAny_bind ?_
  refine wp_if_neg (by rw [hs2]; simp) ?_
  try refine wpAny_bind (wpAny_pure ?_)
  refine wpAny_pure ?_
  dsimp only
  refine wpAny_storeSet_of ho hd ?_ (by rw [hs2, hsl, sizeLine_eq]; omega)
  have sb : Heap.SameBut a s.heap (s.heap.update a (Obj.putSet (order.filterMap (es[·]?)) t')) := Heap.SameBut.update ..
  exact hQ _ L2 (order.filterMap (es[·]?)) (ep + 1) t' sb ⟨⟨_, store_at ho hd, ⟨hex.1, hex.2.1, hex.2.2⟩, rfl⟩, r1, Tt, (r2.map (·.1)).nodup_iff.mpr nd, by rw [el]; exact ld, by rw [r2.length_eq, em]; exact hn,
    fun p hp => T.keep (elt p (r2.mem_iff.mp hp)) (stay_same ho hd sb)⟩ r2 em
/-- the state behind putting in -/
theorem put_mid (R : SR T s.heap a L es ep t) {x : Value} {k : κ} (hm : k ∉ L.map (·.1)) {K : Nat} (hK : way t.mask (T.hash k) K ∉ t.place.toList) (hb : ∀ c, c < K → way t.mask (T.hash k) c ∈ t.place.toList) :
    ∃ t1 p L1, t.put (way t.mask (T.hash k) K) = (t1, p) ∧ (SetTable.insertAt es p (T.hash k, x)).toList = rowsOf T L1 ∧ L1.Perm ((k, x) :: L) ∧ Tb t1 (L1.map fun p => T.hash p.1) ∧ (L1.map (·.1)).Nodup ∧ t1.fill = L.length + 1 ∧ t1.mask = t.mask ∧ t1.led = t.led ∧ t1.plain = t.plain := by
  obtain ⟨p, q1, q2, q3, q4, q5⟩ := R.tab.put hK hb
  have pm : (L.take p ++ (k, x) :: L.drop p).Perm ((k, x) :: L) := put_perm L p (k, x)
  refine ⟨(t.put (way t.mask (T.hash k) K)).1, p, L.take p ++ (k, x) :: L.drop p, Prod.ext rfl q1, ?_, pm, ?_, ?_, by rw [q5, List.length_map], rfl, rfl, rfl⟩
  · rw [SetTable.toList_insertAt, R.rows]
    unfold rowsOf
    rw [List.map_append, List.map_cons, List.map_take, List.map_drop]
  · rw [List.map_append, List.map_cons, List.map_take, List.map_drop]
    exact q4
  · refine (pm.map (·.1)).nodup_iff.mpr ?_
    rw [List.map_cons]
    exact List.nodup_cons.mpr ⟨hm, R.nd⟩
theorem free_slot_at (R : SR T s.heap a L es ep t) {h : Int} {K : Nat} (hKf : K < 10 * SetTable.turns t.mask) (hK : way t.mask h K ∉ t.place.toList) (hb : ∀ c, c < K → way t.mask h c ∈ t.place.toList) : t.freeSlot h = some (way t.mask h K, false) := by
  have spec := go_spec t R.tab.ris R.tab.dm (fun _ => h + 1) h (10 * SetTable.turns t.mask) K (st0 t.mask h) rfl hKf hb hK
  have e : t.probe (fun _ => h + 1) h (t.probeStart h) = some (.empty (way t.mask h K) none) := by
    rcases spec with ⟨k, i, _, _, z, _⟩ | ⟨_, z⟩
    · exact absurd z (by omega)
    · exact z
  unfold SetTable.freeSlot
  rw [e]
  rfl
/-- adding one whose hash is known -/
theorem add_at (R : SR T s.heap a L es ep t) {x : Value} {k : κ} (hx : T.is s.heap k x) (hu : A.units + 9 < cLine) (hfew : L.length + 1 < 38) {Q : Bool → Shared → Prop}
    (hQ : ∀ b h' L' es' ep' t', Heap.SameBut a s.heap h' → SR T h' a L' es' ep' t' → (k ∈ L.map (·.1) → L' = L) → (k ∉ L.map (·.1) → L'.Perm ((k, x) :: L)) → Q b { s with heap := h' }) :
    wpAny (model P w) A (setAddHashed a x (T.hash k)) Q E s := by
  obtain ⟨o, ho, hex, hd⟩ := R.ob
  have hsl := R.size
  have hroom := R.room
  have hbel : ∀ e ∈ es.toList, ∃ k', T.is s.heap k' e.2 ∧ e.1 = T.hash k' := fun e he => by
    rw [R.rows] at he
    obtain ⟨p, hp, rfl⟩ := List.mem_map.mp he
    exact ⟨p.1, R.elt p hp, rfl⟩
  have himp : (∃ e ∈ es.toList, T.is s.heap k e.2) ↔ k ∈ L.map (·.1) := by
    rw [R.rows]
    constructor
    · rintro ⟨e, he, hi⟩
      obtain ⟨p, hp, rfl⟩ := List.mem_map.mp he
      exact List.mem_map.mpr ⟨p, hp, T.inj (R.elt p hp) hi⟩
    · intro hm
      obtain ⟨p, hp, rfl⟩ := List.mem_map.mp hm
      exact ⟨_, List.mem_map.mpr ⟨p, hp, rfl⟩, R.elt p hp⟩
  -- what both roads have: the state behind storing, and the laying anew
  have mid : ∀ {K : Nat} (hm : k ∉ L.map (·.1)) (hK : way t.mask (T.hash k) K ∉ t.place.toList) (hb : ∀ c, c < K → way t.mask (T.hash k) c ∈ t.place.toList), ∃ t1 p L1, t.put (way t.mask (T.hash k) K) = (t1, p) ∧
      (SetTable.insertAt es p (T.hash k, x)).toList = rowsOf T L1 ∧ L1.Perm ((k, x) :: L) ∧ Tb t1 (L1.map fun p => T.hash p.1) ∧ (L1.map (·.1)).Nodup ∧ t1.fill = L.length + 1 ∧ t1.mask = t.mask ∧ t1.led = t.led ∧ t1.plain = t.plain := fun hm hK hb => put_mid R hm hK hb
  unfold setAddHashed
  refine wpAny_holding ?_
  rw [show (100000 : Nat) = 99999 + 1 from rfl, setAddHashedIn_succ]
  refine wpAny_bind (wpAny_setState_of ho hd R.fits ?_)
  dsimp only
  have sb : ∀ es1 t1, Heap.SameBut a s.heap (s.heap.update a (Obj.putSet es1 t1)) := fun es1 t1 => Heap.SameBut.update ..
  have elt1 : ∀ {L1 : List (κ × Value)} {es1 t1}, L1.Perm ((k, x) :: L) → ∀ p ∈ L1, T.is (s.heap.update a (Obj.putSet es1 t1)) p.1 p.2 := fun {L1 es1 t1} pm p hp => by
    rcases List.mem_cons.mp (pm.mem_iff.mp hp) with e | hp
    · rw [e]; exact T.keep hx (stay_same ho hd (sb es1 t1))
    · exact T.keep (R.elt p hp) (stay_same ho hd (sb es1 t1))
  have want : ∀ {t1 : SetTable}, t1.mask = t.mask → t1.tooFull = true → t1.fill = L.length + 1 → SetTable.grown (L.length + 1) < 128 ∧ (L.length + 1) * 5 < (SetTable.sizeAbove (SetTable.grown (L.length + 1)) - 1) * 3 := fun {t1} e1 e2 e3 => by
    unfold SetTable.tooFull at e2
    rw [decide_eq_true_eq, e3, e1] at e2
    have hc : L.length + 1 = 5 ∨ L.length + 1 = 9 ∨ L.length + 1 = 19 := by
      rcases R.tab.msk with e | e | e | e | e <;> rw [e] at e2 hroom <;> omega
    rcases hc with e | e | e <;> rw [e] <;> decide +kernel
  cases hs : T.sc with
  | true =>
    have hby : byScan x es = true := by
      unfold byScan
      rw [T.isSc hx, hs, Bool.true_and, Bool.and_eq_true, decide_eq_true_eq]
      refine ⟨?_, ?_⟩
      · rw [hsl]
        unfold scanBound
        have := R.few
        omega
      · rw [Array.all_eq_true']
        intro e he
        obtain ⟨k', hk', _⟩ := hbel e (by simpa using he)
        rw [T.isSc hk', hs]
    refine wp_if_pos hby ?_
    refine wpAny_bind ?_
    unfold setAddByScan
    refine wpAny_bind (wpAny_rule ?_)
    refine wpAny_bind (T.scanR hs hx ho hd R.fits hbel (fun hm i => ?_) fun hm => ?_)
    · dsimp only
      refine wpAny_pure ?_
      dsimp only
      exact wpAny_pure (hQ false s.heap L es ep t (Heap.SameBut.refl a s.heap) R (fun _ => rfl) fun z => absurd (himp.mp hm) z)
    · dsimp only
      have hm' : k ∉ L.map (·.1) := fun z => by
        obtain ⟨e, he, hi⟩ := himp.mpr z
        exact hm e he hi
      obtain ⟨K, hKf, hK, hKb⟩ := R.tab.first (by rw [List.length_map]; omega) (T.hash k)
      obtain ⟨t1, p, L1, ep1, er, pm, Tt, nd1, ef, em, el, epl⟩ := mid hm' hK hKb
      have hl1 : L1.length = L.length + 1 := pm.length_eq
      have hes1 : (SetTable.insertAt es p (T.hash k, x)).size = L.length + 1 := by rw [rows_len er, hl1]
      have hfit : t1.fits (SetTable.insertAt es p (T.hash k, x)).size = true := by
        rw [hes1]
        exact tb_fits Tt (by rw [List.length_map, hl1]) (by rw [em]; omega)
      have hlay : layNew t es (T.hash k) x = (SetTable.insertAt es p (T.hash k, x), t1, false, false) := by
        unfold layNew
        rw [free_slot_at R hKf hK hKb]
        dsimp only
        rw [ep1]
        dsimp only
        unfold SetTable.orStandIn
        rw [hfit, if_pos rfl]
        rfl
      rw [hlay]
      dsimp only
      refine wpAny_bind (wpAny_of_eq (a := ()) rfl ?_)
      -- by value
      have fin : ∀ t2 : SetTable, t2.place = t1.place → t2.dummies = t1.dummies → t2.mask = t1.mask → t2.led = t1.led → t2.fill = t1.fill →
          wpAny (model P w) A (do
            storeSet a (SetTable.insertAt es p (T.hash k, x)) t2
            if (!false && t2.tooFull) = true then do
              match relayAll t2 (SetTable.insertAt es p (T.hash k, x)) (SetTable.grown (SetTable.insertAt es p (T.hash k, x)).size) with
              | (es, t, gave) => do
                (match gave with | true => rule "set.scan.the-table-gave-way" | false => pure ())
                storeSet a es t
            return some true) (fun r s' => wpAny (model P w) A (match r with | some added => pure added | none => setAddHashedIn a x (T.hash k) 99999) Q E s') E s := fun t2 z1 z2 z3 z4 z5 => by
        have Tt2 : Tb t2 (L1.map fun p => T.hash p.1) := Tt.re z1 z2 z3
        have hfit2 : t2.fits (SetTable.insertAt es p (T.hash k, x)).size = true := by
          rw [hes1]
          exact tb_fits Tt2 (by rw [List.length_map, hl1]) (by rw [z3, em]; omega)
        refine wpAny_bind (wpAny_storeSet_of ho hd ?_ (by rw [hes1, sizeLine_eq]; omega))
        have ho1 := store_at (es' := SetTable.insertAt es p (T.hash k, x)) (t' := t2) ho hd
        have ld2 : w.params.followText "set-order" = true ∨ t2.led = true := by rw [z4, el]; exact R.led
        by_cases hf : t2.tooFull = true
        · obtain ⟨hw, hn⟩ := want (t1 := t2) (by rw [z3, em]) hf (by rw [z5, ef])
          obtain ⟨hM, hgt, hle⟩ := sz_at hw
          obtain ⟨t', order, L2, e, r1, r2, Tt', em', el', epl', hs2, hop⟩ := relaid_at (finger := t2.finger) (moves := t2.movedTo (SetTable.sizeAbove (SetTable.grown (L.length + 1)) - 1)) (led := t2.led) (plain := t2.plain) er hM (by omega)
          have hL2 : L2.length = L.length + 1 := by rw [r2.length_eq, hl1]
          have hra : relayAll t2 (SetTable.insertAt es p (T.hash k, x)) (SetTable.grown (SetTable.insertAt es p (T.hash k, x)).size) = (order.filterMap ((SetTable.insertAt es p (T.hash k, x))[·]?), t', false) := by
            unfold relayAll
            rw [hes1, show t2.relaid ((SetTable.insertAt es p (T.hash k, x)).map (·.1)) (SetTable.grown (L.length + 1)) = some (t', order) from e]
            dsimp only
            rw [if_pos]
            rw [Bool.and_eq_true]
            refine ⟨?_, ?_⟩
            · unfold coversAll
              rw [List.isPerm_iff, ← hes1]
              exact hop
            · rw [hs2, hes1]
              exact tb_fits Tt' (by rw [List.length_map, hL2]) (by rw [em']; omega)
          refine wp_if_pos (by simp [hf]) ?_
          rw [hra]
          dsimp only
          refine wpAny_bind (wpAny_pure ?_)
          refine wpAny_bind (wpAny_storeSet_of (s := { s with heap := s.heap.update a (Obj.putSet (SetTable.insertAt es p (T.hash k, x)) t2) }) ho1 rfl ?_ (by rw [hs2, hes1, sizeLine_eq]; omega))
          refine wpAny_pure ?_
          dsimp only
          refine wpAny_pure ?_
          have sb2 : Heap.SameBut a (s.heap.update a (Obj.putSet (SetTable.insertAt es p (T.hash k, x)) t2)) ((s.heap.update a (Obj.putSet (SetTable.insertAt es p (T.hash k, x)) t2)).update a (Obj.putSet (order.filterMap ((SetTable.insertAt es p (T.hash k, x))[·]?)) t')) := Heap.SameBut.update ..
          exact hQ true _ L2 _ _ t' ((sb _ _).trans sb2) ⟨⟨_, store_at ho1 rfl, ⟨hex.1, hex.2.1, hex.2.2⟩, rfl⟩, r1, Tt', (r2.map (·.1)).nodup_iff.mpr nd1, by rw [el']; exact ld2, by rw [hL2, em']; exact hn,
            fun q hq => T.keep (elt1 pm q (r2.mem_iff.mp hq)) (stay_same ho1 rfl sb2)⟩ (fun z => absurd z hm') fun _ => r2.trans pm
        · refine wp_if_neg (by simp [hf]) ?_
          refine wpAny_pure ?_
          dsimp only
          refine wpAny_pure ?_
          refine hQ true _ L1 _ _ t2 (sb _ _) ⟨⟨_, ho1, ⟨hex.1, hex.2.1, hex.2.2⟩, rfl⟩, er, Tt2, nd1, ld2, ?_, elt1 pm⟩ (fun z => absurd z hm') fun _ => pm
          unfold SetTable.tooFull at hf
          rw [decide_eq_true_eq, z5, ef, z3] at hf
          rw [hl1, z3]
          omega
      by_cases hp : t1.plain = true
      · refine wp_if_pos hp ?_
        refine wpAny_bind (T.byV hx fun b => ?_)
        cases b with
        | true => exact fin t1 rfl rfl rfl rfl rfl
        | false => exact fin { t1 with plain := false } rfl rfl rfl rfl rfl
      · refine wp_if_neg hp ?_
        try refine wpAny_bind (wpAny_pure ?_)
        exact fin t1 rfl rfl rfl rfl rfl
  | false =>
    refine wp_if_neg (by unfold byScan; rw [T.isSc hx, hs]; simp) ?_
    try refine wpAny_bind (wpAny_pure ?_)
    refine wpAny_bind (search_at hs R hx hu (fun hm => ⟨fun _ => ?_, fun z => by cases z⟩) fun K hm hK hb => ?_)
    · dsimp only
      exact wpAny_pure (hQ false s.heap L es ep t (Heap.SameBut.refl a s.heap) R (fun _ => rfl) fun z => absurd hm z)
    · dsimp only
      refine wpAny_bind (wpAny_setState_of ho hd R.fits ?_)
      dsimp only
      obtain ⟨t1, p, L1, ep1, er, pm, Tt, nd1, ef, em, el, epl⟩ := mid hm hK hb
      rw [ep1]
      dsimp only
      have hl1 : L1.length = L.length + 1 := pm.length_eq
      have hes1 : (SetTable.insertAt es p (T.hash k, x)).size = L.length + 1 := by rw [rows_len er, hl1]
      have fin : ∀ t2 : SetTable, t2.place = t1.place → t2.dummies = t1.dummies → t2.mask = t1.mask → t2.led = t1.led → t2.fill = t1.fill →
          wpAny (model P w) A (do
            storeSet a (SetTable.insertAt es p (T.hash k, x)) t2
            if (!false && t2.tooFull) = true then setRelay a (SetTable.grown (es.size + 1))
            return true) Q E s := fun t2 z1 z2 z3 z4 z5 => by
        have Tt2 : Tb t2 (L1.map fun p => T.hash p.1) := Tt.re z1 z2 z3
        have hfit2 : t2.fits (SetTable.insertAt es p (T.hash k, x)).size = true := by
          rw [hes1]
          exact tb_fits Tt2 (by rw [List.length_map, hl1]) (by rw [z3, em]; omega)
        refine wpAny_bind (wpAny_storeSet_of ho hd ?_ (by rw [hes1, sizeLine_eq]; omega))
        have ho1 := store_at (es' := SetTable.insertAt es p (T.hash k, x)) (t' := t2) ho hd
        have ld2 : w.params.followText "set-order" = true ∨ t2.led = true := by rw [z4, el]; exact R.led
        by_cases hf : t2.tooFull = true
        · obtain ⟨hw, hn⟩ := want (t1 := t2) (by rw [z3, em]) hf (by rw [z5, ef])
          refine wp_if_pos (by simp [hf]) ?_
          refine wpAny_bind ?_
          rw [hsl]
          refine relay_at (s := { s with heap := s.heap.update a (Obj.putSet (SetTable.insertAt es p (T.hash k, x)) t2) }) ho1 ⟨hex.1, hex.2.1, hex.2.2⟩ rfl er hfit2 nd1 (elt1 pm) ld2 hw (by rw [hl1]; exact hn) ?_
          intro h2 L2 es2 ep2 t3 sb2 R2 pm2 _
          exact wpAny_pure (hQ true h2 L2 es2 ep2 t3 ((sb _ _).trans sb2) R2 (fun z => absurd z hm) fun _ => pm2.trans pm)
        · refine wp_if_neg (by simp [hf]) ?_
          refine wpAny_pure (hQ true _ L1 _ _ t2 (sb _ _) ⟨⟨_, ho1, ⟨hex.1, hex.2.1, hex.2.2⟩, rfl⟩, er, Tt2, nd1, ld2, ?_, elt1 pm⟩ (fun z => absurd z hm) fun _ => pm)
          unfold SetTable.tooFull at hf
          rw [decide_eq_true_eq, z5, ef, z3] at hf
          rw [hl1, z3]
          omega
      by_cases hp : t1.plain = true
      · refine wp_if_pos hp ?_
        refine wpAny_bind (T.byV hx fun b => ?_)
        cases b with
        | true => exact fin t1 rfl rfl rfl rfl rfl
        | false => exact fin { t1 with plain := false } rfl rfl rfl rfl rfl
      · refine wp_if_neg hp ?_
        try refine wpAny_bind (wpAny_pure ?_)
        exact fin t1 rfl rfl rfl rfl rfl
end
end GS
/-! room, walks, merging, a copy, s | t -/
namespace GS
open PySem PySem.Spec PyProof.Rows L2
section
variable {P : Program} {w : World} {κ : Type} [DecidableEq κ] {T : EK P w κ}
variable {A : Around} {E : Value → Shared → Prop} {s : Shared} {a : Addr} {L : List (κ × Value)} {es : Array (Int × Value)} {ep : Nat} {t : SetTable}
theorem SR.fill {h : Heap} (R : SR T h a L es ep t) : t.fill = L.length := by
  unfold SetTable.fill
  rw [R.tab.dm, R.tab.sz, List.length_map]
  rfl
theorem room_at (R : SR T s.heap a L es ep t) {more : Nat} (hfew : L.length + more < 64) {Q : Unit → Shared → Prop}
    (hQ : ∀ h' L' es' ep' t', Heap.SameBut a s.heap h' → SR T h' a L' es' ep' t' → L'.Perm L → (L'.length + more) * 5 < t'.mask * 3 → Q () { s with heap := h' }) : wpAny (model P w) A (setRoomFor a more) Q E s := by
  obtain ⟨o, ho, hex, hd⟩ := R.ob
  have hroom := R.room
  have hps : t.place.size = L.length := by rw [R.tab.sz, List.length_map]
  unfold setRoomFor
  refine wpAny_bind (wpAny_setState_of ho hd R.fits ?_)
  dsimp only
  unfold SetTable.roomFor
  by_cases c : (t.fill + more) * 5 ≥ t.mask * 3
  · rw [if_pos c]
    dsimp only
    rw [hps]
    rw [R.fill] at c
    have hw : (L.length + more) * 2 < 128 := by omega
    have h7 : 7 ≤ t.mask := by rcases R.tab.msk with e | e | e | e | e <;> omega
    obtain ⟨_, hgt, _⟩ := sz_at hw
    refine relay_at ho hex hd R.rows R.fits R.nd R.elt R.led hw (by omega) fun h' L' es' ep' t' sb R' pm em => ?_
    exact hQ h' L' es' ep' t' sb R' pm (by rw [pm.length_eq, em]; omega)
  · rw [if_neg c]
    dsimp only
    rw [R.fill] at c
    exact wpAny_pure (hQ s.heap L es ep t (Heap.SameBut.refl a s.heap) R (List.Perm.refl _) (by omega))
/-- the rows in the order in which a walk gives them -/
theorem walk_at (R : SR T s.heap a L es ep t) {Q : Array (Int × Value) → Shared → Prop} (hQ : ∀ arr d, arr.toList.Perm es.toList → Q arr { s with drawn := d }) : wpAny (model P w) A (setWalk a) Q E s := by
  obtain ⟨o, ho, hex, hd⟩ := R.ob
  have same : ({ s with drawn := s.drawn } : Shared) = s := rfl
  unfold setWalk
  refine wpAny_bind (wpAny_setState_of ho hd R.fits ?_)
  dsimp only
  refine wpAny_bind (wpAny_byText ?_)
  by_cases hb : w.params.followText "set-order" = true
  · refine wp_if_pos hb ?_
    refine wpAny_bind (wpAny_askSetting ?_)
    refine wpAny_pure ?_
    exact hQ _ s.drawn (pick_perm _ es)
  · refine wp_if_neg hb ?_
    try refine wpAny_bind (wpAny_pure ?_)
    have hl : t.led = true := R.led.resolve_left hb
    by_cases c : (!t.plain && decide (es.size > 1)) = true
    · refine wp_if_pos c ?_
      refine wpAny_bind (drawOrder_at es.size es.toList s _ (by rw [Array.length_toList]; exact Nat.le_refl _) fun ys d pm => ?_)
      exact wpAny_pure (hQ _ d (by simpa using pm))
    · refine wp_if_neg c ?_
      try refine wpAny_bind (wpAny_pure ?_)
      refine wpAny_bind (wpAny_of_eq (a := ()) ?_ (wpAny_pure (hQ es s.drawn (List.Perm.refl _))))
      show (if (!t.led && decide (es.size > 1)) = true then unsupported "set:maker-not-led" else pure ()) = pure ()
      rw [hl]
      rfl
/-- whether all sets are quiet: some answer -/
theorem quiet_at {O S : Addr} {L' : List (κ × Value)} {es' : Array (Int × Value)} {ep' : Nat} {t' : SetTable} (R : SR T s.heap O L es ep t) (R' : SR T s.heap S L' es' ep' t') {Q : Bool → Shared → Prop} (hQ : ∀ b, Q b s) :
    wpAny (model P w) A (setsQuiet [O, S]) Q E s := by
  have bel : ∀ {a : Addr} {L : List (κ × Value)} {es : Array (Int × Value)} {ep : Nat} {t : SetTable}, SR T s.heap a L es ep t → ∀ e ∈ es.toList, ∃ k, T.is s.heap k e.2 := fun R e he => by
    rw [R.rows] at he
    obtain ⟨p, hp, rfl⟩ := List.mem_map.mp he
    exact ⟨p.1, R.elt p hp⟩
  unfold setsQuiet
  refine wpAny_bind ?_
  refine wpAny_forIn_list _ (fun rest r s' => r.1 = none ∧ s' = s ∧ ∀ a ∈ rest, a = O ∨ a = S) _ ?_ ?_ _ _ ⟨rfl, rfl, fun a ha => by simpa using ha⟩
  · rintro v rest r s' ⟨hr, rfl, hall⟩
    have hv : ∃ L es ep t, SR T s'.heap v L es ep t := by
      rcases hall v List.mem_cons_self with e | e
      · exact ⟨L, es, ep, t, e ▸ R⟩
      · exact ⟨L', es', ep', t', e ▸ R'⟩
    obtain ⟨Lv, esv, epv, tv, Rv⟩ := hv
    obtain ⟨o, ho, hex, hd⟩ := Rv.ob
    unfold setEntries
    refine wpAny_bind (wpAny_bind (wpAny_setState_of ho hd Rv.fits (wpAny_pure ?_)))
    refine wpAny_bind ?_
    show wpAny _ _ (forIn esv _ _) _ _ s'
    rw [← Array.forIn_toList]
    refine wpAny_forIn_list _ (fun rest r s2 => r.1 = none ∧ s2 = s' ∧ ∀ e ∈ rest, ∃ k, T.is s'.heap k e.2) _ ?_ ?_ _ _ ⟨rfl, rfl, bel Rv⟩
    · rintro ⟨hh, x⟩ rest2 r2 s2 ⟨hr2, rfl, hall2⟩
      obtain ⟨k, hk⟩ := hall2 _ List.mem_cons_self
      have rest' : ∀ e ∈ rest2, ∃ k, T.is s2.heap k e.2 := fun e he => hall2 e (List.mem_cons_of_mem _ he)
      dsimp only
      cases x with
      | ref b =>
        dsimp only
        refine wpAny_bind (T.spR hk fun r => ?_)
        by_cases c : (r != some (Value.builtin "object.__eq__")) = true
        · refine wp_if_pos c ?_
          refine wpAny_pure ?_
          dsimp only
          exact wpAny_pure (wpAny_pure (hQ false))
        · refine wp_if_neg c ?_
          try refine wpAny_bind (wpAny_pure ?_)
          exact wpAny_pure ⟨rfl, rfl, rest'⟩
      | _ => exact wpAny_pure ⟨rfl, rfl, rest'⟩
    · rintro ⟨r1, r2⟩ s2 ⟨hr2, rfl, _⟩
      simp only at hr2
      subst hr2
      exact wpAny_pure ⟨rfl, rfl, fun a ha => hall a (List.mem_cons_of_mem _ ha)⟩
  · rintro ⟨r1, r2⟩ s' ⟨hr, rfl, _⟩
    simp only at hr
    subst hr
    exact wpAny_pure (hQ true)
end
end GS
/-! merging, a copy, s | t -/
namespace GS
open PySem PySem.Spec PyProof.Rows L2
section
variable {P : Program} {w : World} {κ : Type} [DecidableEq κ] {T : EK P w κ}
variable {A : Around} {E : Value → Shared → Prop} {s : Shared} {a : Addr} {L : List (κ × Value)} {es : Array (Int × Value)} {ep : Nat} {t : SetTable}
/-- the rows of O as S is filled from it -/
theorem unseen_at {O S : Addr} (hOS : O ≠ S) {L' : List (κ × Value)} {es' : Array (Int × Value)} {ep' : Nat} {t' : SetTable} (R : SR T s.heap O L es ep t) (R' : SR T s.heap S L' es' ep' t')
    {Q : Array (Int × Value) → Shared → Prop} (hQ : ∀ arr d h' ep2 t2, arr.toList.Perm es.toList → Heap.SameBut S s.heap h' → SR T h' S L' es' ep2 t2 → Q arr { s with heap := h', drawn := d }) :
    wpAny (model P w) A (setWalkUnseen O [S] (some S)) Q E s := by
  obtain ⟨o, ho, hex, hd⟩ := R.ob
  obtain ⟨o', ho', hex', hd'⟩ := R'.ob
  have wk : ∀ {Q : Array (Int × Value) → Shared → Prop}, (∀ arr d h' ep2 t2, arr.toList.Perm es.toList → Heap.SameBut S s.heap h' → SR T h' S L' es' ep2 t2 → Q arr { s with heap := h', drawn := d }) → wpAny (model P w) A (setWalk O) Q E s := fun {Q} h =>
    walk_at R fun arr d pm => h arr d s.heap ep' t' pm (Heap.SameBut.refl S s.heap) R'
  unfold setWalkUnseen
  refine wpAny_bind (wpAny_setState_of ho hd R.fits ?_)
  dsimp only
  refine wpAny_bind (wpAny_byText ?_)
  by_cases c1 : (w.params.followText "set-order" || (t.led && t.plain) || decide (es.size ≤ 1)) = true
  · refine wp_if_pos c1 ?_
    exact wk hQ
  · refine wp_if_neg c1 ?_
    try refine wpAny_bind (wpAny_pure ?_)
    have hb : ¬ w.params.followText "set-order" = true := fun z => c1 (by rw [z]; simp)
    have hl : t.led = true := R.led.resolve_left hb
    have hl' : t'.led = true := R'.led.resolve_left hb
    refine wpAny_bind (quiet_at R R' fun b => ?_)
    cases b with
    | false =>
      refine wp_if_pos (by simp) ?_
      exact wk hQ
    | true =>
      refine wp_if_neg (by simp) ?_
      try refine wpAny_bind (wpAny_pure ?_)
      refine wpAny_bind (wpAny_rule ?_)
      refine wpAny_bind (wpAny_setState_of ho' hd' R'.fits ?_)
      dsimp only
      by_cases c2 : ((t'.led && !t.led) || (t'.plain && !t.plain)) = true
      · refine wp_if_pos c2 ?_
        have hsz := R'.size
        have hfw := R'.few
        refine wpAny_bind (wpAny_storeSet_of ho' hd' ?_ (by rw [hsz, sizeLine_eq]; omega))
        refine wpAny_pure ?_
        have sb : Heap.SameBut S s.heap (s.heap.update S (Obj.putSet es' { t' with led := t'.led && t.led, plain := t'.plain && t.plain })) := Heap.SameBut.update ..
        refine hQ es s.drawn _ _ _ (List.Perm.refl _) sb ⟨⟨_, store_at ho' hd', ⟨hex'.1, hex'.2.1, hex'.2.2⟩, rfl⟩, R'.rows, R'.tab.re rfl rfl rfl, R'.nd, .inr ?_, R'.room, fun p hp => T.keep (R'.elt p hp) (stay_same ho' hd' sb)⟩
        show (t'.led && t.led) = true
        rw [hl, hl']
        rfl
      · refine wp_if_neg c2 ?_
        try refine wpAny_pure ?_
        exact hQ es s.drawn s.heap ep' t' (List.Perm.refl _) (Heap.SameBut.refl S s.heap) R'
theorem same_old {h h' : Heap} {S c : Addr} {o : Obj} (hs : Heap.SameBut S h h') (hc : c ≠ S) (e : h.get? c = some o) : h'.get? c = some o := (hs.2 c hc).trans e
/-- S takes in what O has -/
theorem merge_at {O S : Addr} (hOS : O ≠ S) {LO LS : List (κ × Value)} {eO eS : Array (Int × Value)} {pO pS : Nat} {tO tS : SetTable} (RO : SR T s.heap O LO eO pO tO) (RS : SR T s.heap S LS eS pS tS)
    (hu : A.units + 9 < cLine) (hfew : LS.length + LO.length < 38) {each : Sem Unit}
    (heach : ∀ (s' : Shared) (Q' : Unit → Shared → Prop), (∀ o, s.heap.get? O = some o → s'.heap.get? O = some o) → Q' () s' → wpAny (model P w) A each Q' E s') {Q : Unit → Shared → Prop}
    (hQ : ∀ h' d L' es' ep' t', Heap.SameBut S s.heap h' → SR T h' S L' es' ep' t' → (∀ p ∈ L', p ∈ LS ∨ p ∈ LO) → (∀ p ∈ LS, p.1 ∈ L'.map (·.1)) → (∀ p ∈ LO, p.1 ∈ L'.map (·.1)) → L'.length ≤ LS.length + LO.length → Q () { s with heap := h', drawn := d }) :
    wpAny (model P w) A (setMerge S O each) Q E s := by
  obtain ⟨oO, hoO, hexO, hdO⟩ := RO.ob
  have hszO := RO.size
  unfold setMerge
  refine wp_if_neg (by simp; exact fun z => hOS z.symm) ?_
  try refine wpAny_bind (wpAny_pure ?_)
  refine wpAny_bind (wpAny_setState_of hoO hdO RO.fits ?_)
  dsimp only
  by_cases hem : eO.isEmpty = true
  · refine wp_if_pos hem ?_
    have hLO : LO = [] := by
      have z : eO.size = 0 := by simpa [Array.isEmpty] using hem
      exact List.eq_nil_of_length_eq_zero (by omega)
    subst hLO
    exact wpAny_pure (hQ s.heap s.drawn LS eS pS tS (Heap.SameBut.refl S s.heap) RS (fun p hp => .inl hp) (fun p hp => List.mem_map.mpr ⟨p, hp, rfl⟩) (fun p hp => by cases hp) (Nat.le_refl _))
  refine wp_if_neg hem ?_
  try refine wpAny_bind (wpAny_pure ?_)
  refine wpAny_bind (room_at RS (by rw [hszO]; omega) fun h1 L1 e1 p1 t1 sb1 R1 pm1 hroom1 => ?_)
  obtain ⟨o1, ho1, hex1, hd1⟩ := R1.ob
  have hl1 : L1.length = LS.length := pm1.length_eq
  have hoO1 : h1.get? O = some oO := same_old sb1 hOS hoO
  have RO1 : SR T h1 O LO eO pO tO := RO.keep (fun o e => same_old sb1 hOS e) (by
    obtain ⟨oS, hoS, _, hdS⟩ := RS.ob
    exact stay_same hoS hdS sb1)
  refine wpAny_bind (wpAny_setState_of (s := { s with heap := h1 }) ho1 hd1 R1.fits ?_)
  dsimp only
  rw [hszO] at hroom1
  by_cases hL1 : L1 = []
  · -- an empty one: the table is taken over, or laid
    subst hL1
    have hLS : LS = [] := List.eq_nil_of_length_eq_zero (by rw [← hl1]; rfl)
    subst hLS
    have hf0 : t1.fill = 0 := R1.fill
    have done : ∀ es2 t2 L2, Tb t2 (L2.map fun p => T.hash p.1) → es2.toList = rowsOf T L2 → L2.Perm LO → LO.length * 5 < t2.mask * 3 → (t2.led = (t1.led && tO.led)) → wpAny (model P w) A (storeSet S es2 t2) Q E { s with heap := h1 } := fun es2 t2 L2 Tt er pm rm el => by
      have hsz2 := rows_len er
      refine wpAny_storeSet_of ho1 hd1 ?_ (by rw [hsz2, pm.length_eq, sizeLine_eq]; omega)
      have sb : Heap.SameBut S h1 (h1.update S (Obj.putSet es2 t2)) := Heap.SameBut.update ..
      refine hQ _ s.drawn L2 es2 (p1 + 1) t2 (sb1.trans sb) ⟨⟨_, store_at ho1 hd1, ⟨hex1.1, hex1.2.1, hex1.2.2⟩, rfl⟩, er, Tt, (pm.map (·.1)).nodup_iff.mpr RO.nd, ?_, by rw [pm.length_eq]; exact rm,
        fun p hp => T.keep (RO1.elt p (pm.mem_iff.mp hp)) (stay_same ho1 hd1 sb)⟩ (fun p hp => .inr (pm.mem_iff.mp hp)) (fun p hp => by cases hp) (fun p hp => List.mem_map.mpr ⟨p, pm.mem_iff.mpr hp, rfl⟩) (by rw [pm.length_eq]; omega)
      rw [el]
      by_cases hb : w.params.followText "set-order" = true
      · exact .inl hb
      · exact .inr (by rw [R1.led.resolve_left hb, RO.led.resolve_left hb]; rfl)
    unfold SetTable.road
    by_cases c : (t1.mask == tO.mask && tO.dummies.isEmpty) = true
    · rw [if_neg (by rw [hf0]; decide), if_pos c]
      dsimp only
      exact done eO _ LO (RO.tab.re rfl rfl rfl) RO.rows (List.Perm.refl _) RO.room rfl
    · rw [if_neg (by rw [hf0]; decide), if_neg c]
      dsimp only
      obtain ⟨t', order, L2, e, r1, r2, Tt, em, el, epl, hs2, hop⟩ := relaid_at (finger := t1.finger) (moves := t1.moves) (led := t1.led && tO.led) (plain := t1.plain && tO.plain) RO.rows R1.tab.msk (by
        have : ([] : List (κ × Value)).length = 0 := rfl
        omega)
      rw [e]
      refine wpAny_bind (wpAny_of_eq (a := (order.filterMap (eO[·]?), t')) ?_ ?_)
      · show (if ((order.filterMap (eO[·]?)).size != eO.size) = true then _ else _) = _
        rw [if_neg (by rw [hs2]; simp)]
      · dsimp only
        exact done _ t' L2 Tt r1 r2 (by
          have : ([] : List (κ × Value)).length = 0 := rfl
          rw [em]; omega) el
  · -- one by one
    have hf1 : t1.fill ≠ 0 := by
      rw [R1.fill]
      exact fun z => hL1 (List.eq_nil_of_length_eq_zero z)
    unfold SetTable.road
    rw [if_pos (by simpa using hf1)]
    dsimp only
    refine wpAny_bind (unseen_at (s := { s with heap := h1 }) hOS RO1 R1 fun arr d h2 p2 t2 pma sb2 R2 => ?_)
    refine wpAny_bind ?_
    show wpAny _ _ (forIn arr _ _) _ _ _
    rw [← Array.forIn_toList]
    have hbel : ∀ e ∈ arr.toList, ∃ p ∈ LO, e = (T.hash p.1, p.2) := fun e he => by
      have he2 := pma.mem_iff.mp he
      rw [RO.rows] at he2
      obtain ⟨p, hp, rfl⟩ := List.mem_map.mp he2
      exact ⟨p, hp, rfl⟩
    have hall0 : ∀ p ∈ LO, (T.hash p.1, p.2) ∈ arr.toList := fun p hp => pma.mem_iff.mpr (by rw [RO.rows]; exact List.mem_map.mpr ⟨p, hp, rfl⟩)
    have hlen0 : arr.toList.length = LO.length := by rw [pma.length_eq, Array.length_toList, hszO]
    refine wpAny_forIn_list _ (fun rest _ s' => ∃ h' d' L2 es2 ep2 t2, s' = { s with heap := h', drawn := d' } ∧ Heap.SameBut S s.heap h' ∧ SR T h' S L2 es2 ep2 t2 ∧ (∀ p ∈ L2, p ∈ LS ∨ p ∈ LO) ∧ (∀ p ∈ LS, p.1 ∈ L2.map (·.1)) ∧
      (∀ p ∈ LO, p.1 ∈ L2.map (·.1) ∨ (T.hash p.1, p.2) ∈ rest) ∧ (∀ e ∈ rest, ∃ p ∈ LO, e = (T.hash p.1, p.2)) ∧ L2.length + rest.length ≤ LS.length + LO.length) _ ?_ ?_ _ _
      ⟨h2, d, L1, e1, p2, t2, rfl, sb1.trans sb2, R2, fun p hp => .inl (pm1.mem_iff.mp hp), fun p hp => List.mem_map.mpr ⟨p, pm1.mem_iff.mpr hp, rfl⟩, fun p hp => .inr (hall0 p hp), hbel, by rw [hlen0, hl1]; exact Nat.le_refl _⟩
    · rintro ⟨hh, x⟩ rest r s' ⟨h', d', L2, es2, ep2, t3, rfl, sb, R3, i1, i2, i3, i4, i5⟩
      obtain ⟨p0, hp0, ee⟩ := i4 _ List.mem_cons_self
      cases ee
      rw [List.length_cons] at i5
      have RO3 : SR T h' O LO eO pO tO := RO.keep (fun o e => same_old sb hOS e) (by
        obtain ⟨oS, hoS, _, hdS⟩ := RS.ob
        exact stay_same hoS hdS sb)
      dsimp only
      refine wpAny_bind (wpAny_holding ?_)
      refine add_at (s := { s with heap := h', drawn := d' }) R3 (RO3.elt p0 hp0) hu (by omega) fun b h4 L4 es4 ep4 t4 sb4 R4 c1 c2 => ?_
      have RO4 : SR T h4 O LO eO pO tO := RO3.keep (fun o e => same_old sb4 hOS e) (by
        obtain ⟨oS, hoS, _, hdS⟩ := R3.ob
        exact stay_same hoS hdS sb4)
      obtain ⟨o4, ho4, hex4, hd4⟩ := RO4.ob
      refine wpAny_bind (heach { s with heap := h4, drawn := d' } _ (fun o e => same_old (sb.trans sb4) hOS e) ?_)
      refine wpAny_bind (wpAny_setState_of (s := { s with heap := h4, drawn := d' }) ho4 hd4 RO4.fits ?_)
      dsimp only
      refine wp_if_neg (by simp) ?_
      try refine wpAny_bind (wpAny_pure ?_)
      refine wpAny_pure ?_
      dsimp only
      by_cases hm : p0.1 ∈ L2.map (·.1)
      · rw [c1 hm] at R4
        refine ⟨h4, d', L2, es4, ep4, t4, rfl, sb.trans sb4, R4, i1, i2, fun p hp => ?_, fun e he => i4 e (List.mem_cons_of_mem _ he), by omega⟩
        rcases i3 p hp with z | z
        · exact .inl z
        · rcases List.mem_cons.mp z with z | z
          · have e2 : p.2 = p0.2 := congrArg (fun q : Int × Value => q.2) z
            have := RO.elt p hp
            rw [e2] at this
            rw [T.inj this (RO.elt p0 hp0)]
            exact .inl hm
          · exact .inr z
      · have pm4 := c2 hm
        refine ⟨h4, d', L4, es4, ep4, t4, rfl, sb.trans sb4, R4, fun p hp => ?_, fun p hp => ?_, fun p hp => ?_, fun e he => i4 e (List.mem_cons_of_mem _ he), by rw [pm4.length_eq, List.length_cons]; omega⟩
        · rcases List.mem_cons.mp (pm4.mem_iff.mp hp) with z | z
          · rw [z]
            exact .inr hp0
          · exact i1 p z
        · rw [(pm4.map (·.1)).mem_iff, List.map_cons]
          exact List.mem_cons_of_mem _ (i2 p hp)
        · rw [(pm4.map (·.1)).mem_iff, List.map_cons]
          rcases i3 p hp with z | z
          · exact .inl (List.mem_cons_of_mem _ z)
          · rcases List.mem_cons.mp z with z | z
            · have e2 : p.2 = p0.2 := congrArg (fun q : Int × Value => q.2) z
              have := RO.elt p hp
              rw [e2] at this
              rw [T.inj this (RO.elt p0 hp0)]
              exact .inl List.mem_cons_self
            · exact .inr z
    · rintro r s' ⟨h', d', L2, es2, ep2, t3, rfl, sb, R3, i1, i2, i3, i4, i5⟩
      refine wpAny_pure (hQ h' d' L2 es2 ep2 t3 sb R3 i1 i2 (fun p hp => ?_) (by rw [List.length_nil] at i5; omega))
      rcases i3 p hp with z | z
      · exact z
      · cases z
end
end GS
/-! a new set; s | t -/
namespace GS
open PySem PySem.Spec PyProof.Rows L2
theorem entry_or : entryFor table "set.__or__" = some Builtin.«frozenset.__or__» := entryFor_alias (id' := "frozenset.__or__") (by kernel_rfl) rfl (by decide +kernel) (by kernel_rfl)
section
variable {P : Program} {w : World} {κ : Type} [DecidableEq κ] {T : EK P w κ}
variable {A : Around} {E : Value → Shared → Prop} {s : Shared}
abbrev new0 (w : World) : Obj := { cls := .type "set", dict := none, data := .set #[] 0 (.fresh 0 0 (!w.params.followText "set-order")) }
theorem sr_fresh {h : Heap} {a : Addr} (ho : h.get? a = some (new0 w)) : SR T h a [] #[] 0 (.fresh 0 0 (!w.params.followText "set-order")) where
  ob := ⟨_, ho, ⟨rfl, rfl, rfl⟩, rfl⟩
  rows := rfl
  tab := ⟨List.Pairwise.nil, rfl, rfl, .inl rfl, fun x hx => (by cases hx), fun i h j hi => (by simp at hi)⟩
  nd := List.nodup_nil
  led := by
    show _ ∨ (!w.params.followText "set-order") = true
    cases w.params.followText "set-order"
    · exact .inr rfl
    · exact .inl rfl
  room := by
    show 0 * 5 < 7 * 3
    decide
  elt := fun p hp => (by cases hp)
theorem new_at {Q : Value → Shared → Prop} (h : Q (.ref s.heap.objs.size) { s with heap := s.heap.push (new0 w) }) : wpAny (model P w) A (newSet (.type "set")) Q E s := by
  unfold newSet
  refine wpAny_bind (wpAny_byText ?_)
  simp only [newObj]
  refine wpAny_bind (wpAny_alloc ?_)
  exact wpAny_pure h
theorem any_set {a : Addr} {Q : Bool → Shared → Prop} (hT : s.TypeIs (.ref a) "set") (h : Q true s) : wpAny (model P w) A (Builtin.Frozenset.isAnySet (.ref a)) Q E s := by
  unfold Builtin.Frozenset.isAnySet
  refine wpAny_bind (wpAny_isInstance hT sub_set_self ?_)
  exact wpAny_pure h
theorem copy_at {a : Addr} {L : List (κ × Value)} {es : Array (Int × Value)} {ep : Nat} {t : SetTable} (R : SR T s.heap a L es ep t) (hu : A.units + 9 < cLine) (hfew : L.length < 38) {Q : Value → Shared → Prop}
    (hQ : ∀ h' d L' es' ep' t', (∀ b o, s.heap.get? b = some o → h'.get? b = some o) → SR T h' s.heap.objs.size L' es' ep' t' → (∀ p ∈ L', p ∈ L) → (∀ p ∈ L, p.1 ∈ L'.map (·.1)) → L'.length ≤ L.length → Q (.ref s.heap.objs.size) { s with heap := h', drawn := d }) :
    wpAny (model P w) A (Builtin.Frozenset.copyOf a) Q E s := by
  obtain ⟨o, ho, hex, hd⟩ := R.ob
  have hT : s.TypeIs (.ref a) "set" := ⟨o, ho, hex.1⟩
  have hlt := Heap.lt_size ho
  unfold Builtin.Frozenset.copyOf Builtin.Frozenset.baseOf
  refine wpAny_bind (wpAny_bind (wpAny_isInstance hT sub_set_self (wpAny_pure ?_)))
  simp only [if_true]
  refine wpAny_bind (new_at ?_)
  refine wpAny_bind (wpAny_pure ?_)
  have k1 : ∀ b o, s.heap.get? b = some o → (s.heap.push (new0 w)).get? b = some o := fun b o e => Heap.get?_push_of_some _ e
  refine wpAny_bind (merge_at (s := { s with heap := s.heap.push (new0 w) }) (O := a) (S := s.heap.objs.size) (Nat.ne_of_lt hlt) (R.keep (fun o e => k1 _ o e) (stay_grow k1)) (sr_fresh (Heap.get?_push_size _ rfl)) hu (by show 0 + _ < _; omega)
    (fun s' Q' _ q => wpAny_pure q) fun h' d L' es' ep' t' sb R' i1 i2 i3 i4 => ?_)
  refine wpAny_pure (hQ h' d L' es' ep' t' (fun b o e => ?_) R' (fun p hp => (i1 p hp).resolve_left (fun z => by cases z)) i3 (by rw [List.length_nil] at i4; omega))
  exact same_old sb (Nat.ne_of_lt (Heap.lt_size e)) (k1 b o e)
theorem or_at {a b : Addr} (hab : a ≠ b) {L1 L2 : List (κ × Value)} {e1 e2 : Array (Int × Value)} {p1 p2 : Nat} {t1 t2 : SetTable} (R1 : SR T s.heap a L1 e1 p1 t1) (R2 : SR T s.heap b L2 e2 p2 t2) (hu : A.units + 16 < cLine) (hfew : L1.length + L2.length < 38)
    {Q : Value → Shared → Prop} (hQ : ∀ h' d L es ep t, (∀ b o, s.heap.get? b = some o → h'.get? b = some o) → SR T h' s.heap.objs.size L es ep t → (∀ p ∈ L, p ∈ L1 ∨ p ∈ L2) → (∀ p ∈ L1, p.1 ∈ L.map (·.1)) → (∀ p ∈ L2, p.1 ∈ L.map (·.1)) → L.length ≤ L1.length + L2.length →
      Q (.ref s.heap.objs.size) { s with heap := h', drawn := d }) : wpAny (model P w) A (binaryOp .BitOr (.ref a) (.ref b)) Q E s := by
  obtain ⟨o1, ho1, hx1, hd1⟩ := R1.ob
  obtain ⟨o2, ho2, hx2, hd2⟩ := R2.ob
  have hT1 : s.TypeIs (.ref a) "set" := ⟨o1, ho1, hx1.1⟩
  have hT2 : s.TypeIs (.ref b) "set" := ⟨o2, ho2, hx2.1⟩
  refine wpAny_binaryOp_same (T := "set") (id := "set.__or__") hT1 hT2 F.fills_set_or F.slot_set_or ?_
  refine wpAny_call_entry F.slot_set_or hT1 entry_or ?_ (F.args_set_or_2 _ _)
  unfold Builtin.«frozenset.__or__»
  refine wpAny_bind (wpAny_of_eq (a := (Value.ref a, Value.ref b)) rfl ?_)
  dsimp only
  simp only [Bool.false_eq_true, if_false]
  refine wpAny_bind (wpAny_bind (any_set hT1 ?_))
  show wpAny _ _ (Builtin.Frozenset.isAnySet (.ref b)) _ _ _
  refine any_set hT2 ?_
  refine wp_if_neg (by decide) ?_
  refine wpAny_bind (wpAny_pure ?_)
  have hu1 : A.in1.units + 9 < cLine := by show A.units + 1 + 9 < cLine; omega
  refine wpAny_bind ?_
  refine wpAny_bind (copy_at R1 hu1 (by omega) fun h1 d1 L' es' ep' t' k1 R' i1 i2 i3 => ?_)
  have hbS : b ≠ s.heap.objs.size := Nat.ne_of_lt (Heap.lt_size ho2)
  have R2' : SR T h1 b L2 e2 p2 t2 := R2.keep (fun o e => k1 _ o e) (stay_grow k1)
  have hT2' : Shared.TypeIs { s with heap := h1, drawn := d1 } (.ref b) "set" := ⟨o2, k1 _ _ ho2, hx2.1⟩
  refine wp_if_pos (by simp; exact fun z => hab z.symm) ?_
  refine wpAny_bind (wpAny_pure ?_)
  refine wpAny_bind (wpAny_holding ?_)
  unfold Builtin.Frozenset.updateFrom
  refine wpAny_bind (any_set hT2' ?_)
  simp only [if_true]
  refine wpAny_bind (wpAny_pure ?_)
  unfold Builtin.Frozenset.merge
  refine wpAny_bind (wpAny_setEpoch_of (s := { s with heap := h1, drawn := d1 }) (k1 _ _ ho2) hd2 R2'.fits ?_)
  refine merge_at (s := { s with heap := h1, drawn := d1 }) hbS R2' R' hu1 (by omega) (fun s' Q' hk q => ?_) fun h' d L es ep t sb R j1 j2 j3 j4 => ?_
  · unfold Builtin.Frozenset.unchanged
    refine wpAny_bind (wpAny_setEpoch_of (hk _ (k1 _ _ ho2)) hd2 R2'.fits ?_)
    refine wp_if_neg (by simp) ?_
    exact wpAny_pure q
  · refine wpAny_pure ?_
    refine wpAny_pure ⟨_, rfl, (fun z => by cases z), hQ h' d L es ep t (fun c o e => ?_) R (fun p hp => ?_) (fun p hp => ?_) j3 (by omega)⟩
    · exact same_old sb (Nat.ne_of_lt (Heap.lt_size e)) (k1 c o e)
    · rcases j1 p hp with z | z
      · exact .inl (i1 p z)
      · exact .inr z
    · obtain ⟨q, hq, e⟩ := List.mem_map.mp (i2 p hp)
      rw [← e]
      exact j2 q hq
end
end GS
/-! set(xs) of a list, of a tuple -/
namespace GS
open PySem PySem.Spec PyProof.Rows L2
/-- what the set has got from the first i items -/
structure Got {κ : Type} (ks : List (κ × Value)) (i : Nat) (L : List (κ × Value)) : Prop where
  sub : ∀ p ∈ L, p ∈ ks.take i
  all : ∀ p ∈ ks.take i, p.1 ∈ L.map (·.1)
  len : L.length ≤ i
section
variable {κ : Type}
theorem Got.zero (ks : List (κ × Value)) : Got ks 0 [] := ⟨fun p h => (by cases h), fun p h => (by simp at h), Nat.le_refl _⟩
theorem take_more {α : Type} {l : List α} {i : Nat} {x : α} (h : l[i]? = some x) : l.take (i + 1) = l.take i ++ [x] := by
  rw [List.take_succ, h]
  rfl
theorem Got.same {ks L : List (κ × Value)} {i : Nat} {x : κ × Value} (g : Got ks i L) (h : ks[i]? = some x) (hm : x.1 ∈ L.map (·.1)) : Got ks (i + 1) L := by
  constructor
  · intro p hp
    rw [take_more h]
    exact List.mem_append_left _ (g.sub p hp)
  · intro p hp
    rw [take_more h] at hp
    rcases List.mem_append.mp hp with z | z
    · exact g.all p z
    · exact List.mem_singleton.mp z ▸ hm
  · exact Nat.le_succ_of_le g.len
theorem Got.more {ks L L' : List (κ × Value)} {i : Nat} {x : κ × Value} (g : Got ks i L) (h : ks[i]? = some x) (pm : L'.Perm (x :: L)) : Got ks (i + 1) L' := by
  constructor
  · intro p hp
    rw [take_more h]
    rcases List.mem_cons.mp (pm.mem_iff.mp hp) with e | z
    · exact List.mem_append_right _ (e ▸ List.mem_singleton.mpr rfl)
    · exact List.mem_append_left _ (g.sub p z)
  · intro p hp
    rw [(pm.map (·.1)).mem_iff, List.map_cons]
    rw [take_more h] at hp
    rcases List.mem_append.mp hp with z | z
    · exact List.mem_cons_of_mem _ (g.all p z)
    · exact List.mem_singleton.mp z ▸ List.mem_cons_self
  · rw [pm.length_eq, List.length_cons]
    exact Nat.succ_le_succ g.len
end
section
variable {P : Program} {w : World} {κ : Type} [DecidableEq κ] {T : EK P w κ}
variable {A : Around} {E : Value → Shared → Prop} {s : Shared}
/-- the loop of set.update -/
theorem update_loop {I : Addr} {fp wr : List Addr} {G : Array GenState → Array GenState → Prop} {n : Nat} {Pv : Nat → Value → Prop} {St : Nat → Shared → Prop} {R : Result → Shared → Prop}
    (W : WalksS P w A.in1 I fp wr G n Pv St) (S : Addr) (hSf : S ∉ fp) (ks : List (κ × Value)) (hn : n = ks.length) (hfew : ks.length < 38) (hval : ∀ i v, Pv i v → ∃ k, ks[i]? = some (k, v))
    (h0 : Heap) (hk : ∀ p ∈ ks, T.is h0 p.1 p.2) (hS0 : h0.get? S = none) (hw0 : ∀ b ∈ wr, h0.get? b = none) (hu : A.in1.units + 9 < cLine) :
    ∀ (k i : Nat) (s : Shared), n - i = k → i ≤ n → St i s → (∀ b o, h0.get? b = some o → s.heap.get? b = some o) → (∃ L es ep t, SR T s.heap S L es ep t ∧ Got ks i L) →
      (∀ s' L es ep t, Moved (S :: wr) G s s' → SR T s'.heap S L es ep t → Got ks n L → (∀ b o, h0.get? b = some o → s'.heap.get? b = some o) → R (.ok (.ret .none)) s') →
      codeAny (model P w) A (.builtin "set.update.loop" ⟨[.ref S, .ref I], []⟩) R s := by
  have hSw : S ∉ wr := fun h => hSf (W.sub _ h)
  have hsub : ∀ b ∈ wr, b ∈ S :: wr := fun b hb => List.mem_cons_of_mem _ hb
  have keepM : ∀ {s s' : Shared}, Moved wr G s s' → (∀ b o, h0.get? b = some o → s.heap.get? b = some o) → ∀ b o, h0.get? b = some o → s'.heap.get? b = some o := fun hm hkp b o e =>
    hm.heap b o (fun hb => by rw [hw0 b hb] at e; cases e) (hkp b o e)
  -- S stays a set while others move: its elements stand in h0
  have keepS : ∀ {s s' : Shared} {i : Nat} {L es ep t}, Moved wr G s s' → (∀ b o, h0.get? b = some o → s'.heap.get? b = some o) → SR T s.heap S L es ep t → Got ks i L → SR T s'.heap S L es ep t := fun {s s' i L es ep t} hm hkp R0 g => by
    obtain ⟨o, ho, r⟩ := R0.ob
    exact ⟨⟨o, hm.heap S o hSw ho, r⟩, R0.rows, R0.tab, R0.nd, R0.led, R0.room, fun p hp => T.keep (hk p (List.mem_of_mem_take (g.sub p hp))) (stay_grow hkp)⟩
  intro k
  induction k with
  | zero =>
    intro i s hk' hi hst hkp ⟨L, es, ep, t, hS, g⟩ hR
    have hin : i = n := by omega
    subst hin
    refine codeAny_builtin F.entry_set_update_loop ?_
    rw [Around.under_plainId F.plain_set_update_loop _]
    show wpAny _ A.in1 (pyNext (.ref I) >>= _) _ _ s
    refine wpAny_bind (W.done s _ _ hst fun s' hm => ?_)
    show wpAny _ A.in1 (ret Value.none) _ _ s'
    have hkp' := keepM hm hkp
    exact wpAny_pure (hR s' L es ep t (hm.mono hsub) (keepS hm hkp' hS g) g hkp')
  | succ k ih =>
    intro i s hk' hi hst hkp ⟨L, es, ep, t, hS, g⟩ hR
    have hlt : i < n := by omega
    refine codeAny_builtin F.entry_set_update_loop ?_
    rw [Around.under_plainId F.plain_set_update_loop _]
    show wpAny _ A.in1 (pyNext (.ref I) >>= _) _ _ s
    refine wpAny_bind (W.item i s _ _ hlt hst fun v s' hP hst' hm => ?_)
    obtain ⟨key, hp⟩ := hval i v hP
    have hkp' := keepM hm hkp
    have hS' := keepS hm hkp' hS g
    have hx : T.is s'.heap key v := T.keep (hk (key, v) (List.mem_of_getElem? hp)) (stay_grow hkp')
    show wpAny _ A.in1 (holding [v] (setAdd S v) >>= _) _ _ s'
    refine wpAny_bind (wpAny_holding ?_)
    unfold setAdd
    refine wpAny_holding ?_
    refine wpAny_bind (T.hashR hu hx ?_)
    refine add_at (s := { s' with toks := s'.toks + T.draws key }) hS' hx hu (by have := g.len; omega) fun b h' L' es' ep' t' hsb hS2 c1 c2 => ?_
    have g' : Got ks (i + 1) L' := by
      by_cases c : key ∈ L.map (·.1)
      · rw [c1 c]
        exact g.same hp c
      · exact g.more hp (c2 c)
    have hkp2 : ∀ b o, h0.get? b = some o → h'.get? b = some o := fun b o e => (hsb.2 b (fun z => by rw [z, hS0] at e; cases e)).trans (hkp' b o e)
    refine wpAny_pure ⟨plainId_quiet F.plain_set_update_loop _, ih (i + 1) _ (by omega) hlt (W.frame _ s' _ _ hst' (Nat.le_add_right _ _) fun b hb o e => ?_) hkp2 ⟨L', es', ep', t', hS2, g'⟩ fun s'' L2 es2 ep2 t2 hm'' hS'' g'' hkp'' => ?_⟩
    · rw [hsb.2 b (fun h : b = S => hSf (h ▸ hb))]
      exact e
    · refine hR s'' L2 es2 ep2 t2 (Moved.trans W.gtrans ((hm.mono hsub).then_heap (Nat.le_add_right _ _) fun b o hb e => ?_) hm'') hS'' g'' hkp''
      rw [hsb.2 b (fun h : b = S => hb (h ▸ List.mem_cons_self))]
      exact e
/-- set(xs), xs a list (lst) or a tuple -/
theorem call_set {l : Addr} {items : Array Value} (lst : Bool) (ks : List (κ × Value)) {Q : Value → Shared → Prop} (hh : A.handled = none) (hl : if lst = true then s.heap.IsList l items else s.heap.IsTuple l items) (hit : items.toList = ks.map (·.2))
    (hk : ∀ p ∈ ks, T.is s.heap p.1 p.2) (hfew : ks.length < 38) (hu : A.units + 16 < cLine)
    (h : ∀ (h' : Heap) (tk : Nat) L es ep t, SR T h' s.heap.objs.size L es ep t → Got ks ks.length L → (∀ b o, s.heap.get? b = some o → h'.get? b = some o) → Q (.ref s.heap.objs.size) { s with heap := h', toks := tk }) :
    wpAny (model P w) A (call (.type "set") [.ref l]) Q E s := by
  have hisz : items.size = ks.length := by
    rw [← Array.length_toList, hit]
    exact List.length_map _
  obtain ⟨c, tl, hmro⟩ := F.called_set.mro
  have hmade := F.called_set.made
  have hsub := F.called_set.sub
  refine wpAny_call (codeAny_of_tree ?_)
  show wpAny _ _ (callAny (.type "set") _) _ _ _
  refine wpAny_pure ⟨Code.quiet_builtin _ (by decide +kernel), codeAny_builtin F.entry_type_call ?_⟩
  rw [Around.under_plain (weight_type_call_type "set" [.ref l] []) rfl]
  have h1 := F.called_set.notType
  have h2 := F.called_set.canCreate
  have hct := F.typeCall_set_1 (.ref l)
  repeat (any_goals (first | assumption | wp_step))
  refine codeAny_mono (code_set_led1 (.ref l) (E := E) (Q₁ := fun obj s₁ => obj = .ref s.heap.objs.size ∧ s₁ = { s with heap := s.heap.push (new0 w) }) ⟨rfl, rfl⟩) fun r s₁ hr => ?_
  cases r with
  | error e => exact hr
  | ok fl =>
    cases fl with
    | ret obj =>
      obtain ⟨rfl, rfl⟩ := hr
      have hS : (s.heap.push (new0 w)).get? s.heap.objs.size = some (new0 w) := Heap.get?_push_size _ rfl
      have hT : Shared.TypeIs { s with heap := s.heap.push (new0 w) } (.ref s.heap.objs.size) "set" := ⟨_, hS, rfl⟩
      have hli := F.called_set.init.lookup
      have hbi := F.called_set.init.bind (.ref s.heap.objs.size)
      repeat (any_goals (first | assumption | wp_step))
      refine codeAny_mono (codeAny_call_builtin (R := wants (fun r s₂ => r = .none ∧ ∃ h' tk L es ep t, s₂ = { s with heap := h', toks := tk } ∧ SR T h' s.heap.objs.size L es ep t ∧ Got ks ks.length L ∧
          (∀ b o, s.heap.get? b = some o → h'.get? b = some o)) E) F.called_set.init.plain F.entry_set_init (check_set_init_1 hT ?_)) fun r₂ s₂ hr₂ => ?_
      · have none_of : ∀ b, s.heap.objs.size ≤ b → s.heap.get? b = none := fun b hb => by
          cases q : s.heap.get? b with
          | none => rfl
          | some o => exact absurd (Nat.lt_of_lt_of_le (Heap.lt_size q) hb) (Nat.lt_irrefl _)
        have hval : ∀ (i : Nat) (v : Value), items[i]? = some v → ∃ k, ks[i]? = some (k, v) := fun i v hv => by
          have q : items.toList[i]? = some v := by rw [Array.getElem?_toList]; exact hv
          rw [hit, List.getElem?_map] at q
          cases hq : ks[i]? with
          | none => rw [hq] at q; cases q
          | some p => rw [hq] at q; cases q; exact ⟨p.1, rfl⟩
        have hh3 : A.in1.in1.in1.handled = none := by simp [hh]
        have hz1 : (s.heap.push (new0 w)).objs.size = s.heap.objs.size + 1 := Heap.size_push ..
        have stop : ∀ {s' : Shared} {L es ep t}, s'.gens = s.gens → s'.drawn = s.drawn → s'.os = s.os → SR T s'.heap s.heap.objs.size L es ep t → Got ks items.size L → (∀ b o, s.heap.get? b = some o → s'.heap.get? b = some o) →
            ∃ h' tk L es ep t, s' = { s with heap := h', toks := tk } ∧ SR T h' s.heap.objs.size L es ep t ∧ Got ks ks.length L ∧ (∀ b o, s.heap.get? b = some o → h'.get? b = some o) := fun {s' L es ep t} eg ed eo hS' g' hkp => by
          obtain ⟨h', g2, d', tk', os'⟩ := s'
          dsimp only at eg ed eo
          subst eg; subst ed; subst eo
          exact ⟨h', tk', L, es, ep, t, rfl, hS', hisz ▸ g', hkp⟩
        cases lst with
        | true =>
          rw [if_pos rfl] at hl
          obtain ⟨ol, hol, hcl, nl, hdl⟩ := hl
          obtain ⟨ocls, odict, odata, oslots⟩ := ol
          simp only at hcl hdl
          subst hcl; subst hdl
          have hol' : (s.heap.push (new0 w)).get? l = some { cls := .type "list", dict := odict, data := .seq items nl, slots := oslots } := Heap.get?_push_of_some _ hol
          have hsls := F.sub_list_set
          have hslf := F.sub_list_frozenset
          have hne : (Value.type "list" == Value.type "dict") = false := by decide
          have hl1 : (s.heap.push (new0 w)).IsList l items := ⟨_, hol', rfl, nl, rfl⟩
          unfold Builtin.«set.__init__» noKeywords Builtin.Frozenset.updateFrom
          generalize hPI : pyIter = PI
          wp_walk
          subst hPI
          refine wpAny_pyIter_list hl1 ?_
          refine wpAny_bind (wpAny_runValue ?_)
          have hlS : l < s.heap.objs.size := Heap.lt_size hol
          have hneI : l ≠ (s.heap.push (new0 w)).objs.size := by
            rw [hz1]
            exact Nat.ne_of_lt (Nat.lt_succ_of_lt hlS)
          have hSf : s.heap.objs.size ∉ [(s.heap.push (new0 w)).objs.size, l] := by
            rw [hz1]
            simp only [List.mem_cons, List.not_mem_nil, or_false, not_or]
            exact ⟨Nat.ne_of_lt (Nat.lt_succ_self _), Nat.ne_of_gt hlS⟩
          refine update_loop ((Walks.list hh3 _ l hneI items).toS) s.heap.objs.size hSf ks hisz hfew hval s.heap hk (none_of _ (Nat.le_refl _)) (fun b hb => none_of b (by rw [List.mem_singleton.mp hb, hz1]; exact Nat.le_succ _)) (by show A.units + 1 + 1 + 1 + 9 < cLine; omega) (items.size - 0) 0 _ (by omega) (Nat.zero_le _)
            ⟨⟨_, Heap.get?_push_size _ rfl, rfl, rfl⟩, (hl1.push _)⟩ (fun b o e => Heap.get?_push_of_some _ (Heap.get?_push_of_some _ e)) ⟨[], #[], 0, _, sr_fresh (Heap.get?_push_of_some _ hS), Got.zero ks⟩ fun s' L es ep t hm hS' g' hkp => ?_
          refine wpAny_pure ?_
          show wpAny _ _ (ret Value.none) _ _ _
          exact wpAny_pure ⟨rfl, stop hm.gens hm.drawn hm.os hS' g' hkp⟩
        | false =>
          rw [if_neg Bool.false_ne_true] at hl
          obtain ⟨ol, hol, hcl, nl, hdl⟩ := hl
          obtain ⟨ocls, odict, odata, oslots⟩ := ol
          simp only at hcl hdl
          subst hcl; subst hdl
          have hol' : (s.heap.push (new0 w)).get? l = some { cls := .type "tuple", dict := odict, data := .seq items nl, slots := oslots } := Heap.get?_push_of_some _ hol
          have hsls := F.sub_tuple_set
          have hslf := F.sub_tuple_frozenset
          have hne : (Value.type "tuple" == Value.type "dict") = false := by decide
          have hl1 : (s.heap.push (new0 w)).IsTuple l items := ⟨_, hol', rfl, nl, rfl⟩
          unfold Builtin.«set.__init__» noKeywords Builtin.Frozenset.updateFrom
          generalize hPI : pyIter = PI
          wp_walk
          subst hPI
          refine wpAny_pyIter_tuple hl1 ?_
          refine wpAny_bind (wpAny_runValue ?_)
          have hlS : l < s.heap.objs.size := Heap.lt_size hol
          have hneI : l ≠ (s.heap.push (new0 w)).objs.size := by
            rw [hz1]
            exact Nat.ne_of_lt (Nat.lt_succ_of_lt hlS)
          have hSf : s.heap.objs.size ∉ [(s.heap.push (new0 w)).objs.size, l] := by
            rw [hz1]
            simp only [List.mem_cons, List.not_mem_nil, or_false, not_or]
            exact ⟨Nat.ne_of_lt (Nat.lt_succ_self _), Nat.ne_of_gt hlS⟩
          refine update_loop ((Walks.tuple hh3 _ l hneI items).toS) s.heap.objs.size hSf ks hisz hfew hval s.heap hk (none_of _ (Nat.le_refl _)) (fun b hb => none_of b (by rw [List.mem_singleton.mp hb, hz1]; exact Nat.le_succ _)) (by show A.units + 1 + 1 + 1 + 9 < cLine; omega) (items.size - 0) 0 _ (by omega) (Nat.zero_le _)
            ⟨⟨_, Heap.get?_push_size _ rfl, rfl, rfl⟩, (hl1.push _)⟩ (fun b o e => Heap.get?_push_of_some _ (Heap.get?_push_of_some _ e)) ⟨[], #[], 0, _, sr_fresh (Heap.get?_push_of_some _ hS), Got.zero ks⟩ fun s' L es ep t hm hS' g' hkp => ?_
          refine wpAny_pure ?_
          show wpAny _ _ (ret Value.none) _ _ _
          exact wpAny_pure ⟨rfl, stop hm.gens hm.drawn hm.os hS' g' hkp⟩
      · cases r₂ with
        | error e => exact hr₂
        | ok fl₂ =>
          cases fl₂ with
          | ret r =>
            obtain ⟨rfl, h', tk, L, es, ep, t, rfl, hS', g', hk'⟩ := hr₂
            repeat (any_goals (first | assumption | wp_step))
            exact h _ _ _ _ _ _ hS' g' hk'
          | _ => exact hr₂.elim
    | _ => exact hr.elim
end
end GS
/-! the kinds: nested tuples, ints and texts; the object; set(xs), s | t, sorted(s), len(s) -/
namespace GS
open PySem PySem.Spec PyProof.Rows L2 GX
section
variable {P : Program} {w : World}
theorem byV_nested {A : Around} {E : Value → Shared → Prop} {s : Shared} {Q : Bool → Shared → Prop} : ∀ (n : Nat) (k : NestedKey) (v : Value), NestedIs s.heap k v → (∀ b, Q b s) → wpAny (model P w) A (hashByValue n v) Q E s := by
  intro n
  induction n generalizing Q with
  | zero =>
    intro k v x h
    cases x with
    | tup h1 h2 h3 h4 => exact wpAny_pure (h _)
    | none => exact wpAny_pure (h _)
    | bool e => exact wpAny_pure (h _)
    | int i t => exact wpAny_pure (h _)
    | text y t => exact wpAny_pure (h _)
  | succ n ih =>
    intro k v x h
    cases x with
    | none => exact wpAny_pure (h _)
    | bool e => exact wpAny_pure (h _)
    | int i t => exact wpAny_pure (h _)
    | text y t => exact wpAny_pure (h _)
    | @tup a o vs m ks ho hc hd hk =>
      have hT : s.TypeIs (.ref a) "tuple" := ⟨o, ho, hc⟩
      have each : ∀ (ks : List NestedKey) (vs : List Value), NestedAll s.heap ks vs → ∀ v ∈ vs, ∃ k, NestedIs s.heap k v := fun ks => by
        induction ks with
        | nil => intro vs x v hv; cases x; cases hv
        | cons k ks ih2 =>
          intro vs x v hv
          cases x with
          | cons x1 x2 =>
            rcases List.mem_cons.mp hv with e | hv
            · exact ⟨k, e ▸ x1⟩
            · exact ih2 _ x2 v hv
      unfold hashByValue
      refine wpAny_bind (wpAny_specialOf hT F.slot_tuple_hash.lookup ?_)
      show wpAny _ _ (seqItems? (.ref a) >>= _) _ _ s
      refine wpAny_bind (wpAny_seqItems ho hd ?_)
      refine wpAny_bind ?_
      show wpAny _ _ (forIn vs _ _) _ _ s
      rw [← Array.forIn_toList]
      refine wpAny_forIn_list _ (fun rest r s' => r.1 = none ∧ s' = s ∧ ∀ v ∈ rest, ∃ k, NestedIs s.heap k v) _ ?_ ?_ _ _ ⟨rfl, rfl, each ks _ hk⟩
      · rintro v rest r s' ⟨hr, rfl, hall⟩
        obtain ⟨k, hk⟩ := hall v List.mem_cons_self
        refine wpAny_bind (ih k v hk fun b => ?_)
        cases b with
        | true =>
          refine wp_if_neg (by decide) ?_
          try refine wpAny_bind (wpAny_pure ?_)
          exact wpAny_pure ⟨rfl, rfl, fun u hu' => hall u (List.mem_cons_of_mem _ hu')⟩
        | false =>
          refine wp_if_pos (by decide) ?_
          exact wpAny_pure (wpAny_pure (h false))
      · rintro ⟨r1, r2⟩ s' ⟨hr, rfl, _⟩
        simp only at hr
        subst hr
        exact wpAny_pure (h true)
theorem ofCls_nested {A : Around} {E : Value → Shared → Prop} {s : Shared} {Q : Bool → Shared → Prop} : ∀ (n : Nat) (k : NestedKey) (v : Value), NestedIs s.heap k v → k.depth ≤ n → Q false s → wpAny (model P w) A (ofAClassStatement n v) Q E s := by
  intro n
  induction n generalizing Q with
  | zero =>
    intro k v x hn h
    cases x with
    | tup h1 h2 h3 h4 => simp [NestedKey.depth] at hn
    | none => exact wpAny_pure h
    | bool e => exact wpAny_pure h
    | int i t => exact wpAny_pure h
    | text y t => exact wpAny_pure h
  | succ n ih =>
    intro k v x hn h
    cases x with
    | none => exact wpAny_pure h
    | bool e => exact wpAny_pure h
    | int i t => exact wpAny_pure h
    | text y t => exact wpAny_pure h
    | @tup a o vs m ks ho hc hd hk =>
      have hT : s.TypeIs (.ref a) "tuple" := ⟨o, ho, hc⟩
      have hn' : NestedKey.depthAll ks ≤ n := by
        rw [NestedKey.depth] at hn
        omega
      have each : ∀ (ks : List NestedKey) (vs : List Value), NestedAll s.heap ks vs → NestedKey.depthAll ks ≤ n → ∀ v ∈ vs, ∃ k, NestedIs s.heap k v ∧ k.depth ≤ n := fun ks => by
        induction ks with
        | nil => intro vs x _ v hv; cases x; cases hv
        | cons k ks ih2 =>
          intro vs x hd v hv
          rw [NestedKey.depthAll] at hd
          cases x with
          | cons x1 x2 =>
            rcases List.mem_cons.mp hv with e | hv
            · exact ⟨k, e ▸ x1, by omega⟩
            · exact ih2 _ x2 (by omega) v hv
      unfold ofAClassStatement
      refine wpAny_bind (wpAny_typeOf hT ?_)
      dsimp only
      have e : (("tuple" : String) == "tuple") = true := by decide
      simp only [e, if_true, Bool.not_true, Bool.false_eq_true, if_false]
      try refine wpAny_bind (wpAny_pure ?_)
      try simp only [Bool.not_true, Bool.false_eq_true, if_false]
      show wpAny _ _ (seqItems? (.ref a) >>= _) _ _ s
      refine wpAny_bind (wpAny_seqItems ho hd ?_)
      dsimp only
      refine wpAny_bind ?_
      show wpAny _ _ (forIn vs _ _) _ _ s
      rw [← Array.forIn_toList]
      refine wpAny_forIn_list _ (fun rest r s' => r.1 = none ∧ s' = s ∧ ∀ v ∈ rest, ∃ k, NestedIs s.heap k v ∧ k.depth ≤ n) _ ?_ ?_ _ _ ⟨rfl, rfl, each ks _ hk hn'⟩
      · rintro v rest r s' ⟨hr, rfl, hall⟩
        obtain ⟨k, hk, hkn⟩ := hall v List.mem_cons_self
        refine wpAny_bind (ih k v hk hkn ?_)
        refine wp_if_neg (by decide) ?_
        try refine wpAny_bind (wpAny_pure ?_)
        exact wpAny_pure ⟨rfl, rfl, fun u hu' => hall u (List.mem_cons_of_mem _ hu')⟩
      · rintro ⟨r1, r2⟩ s' ⟨hr, rfl, _⟩
        simp only at hr
        subst hr
        exact wpAny_pure h
def KeyIs (h : Heap) (k : NestedKey) (v : Value) : Prop := (∃ a, v = .ref a) ∧ NestedIs h k v ∧ k.depth ≤ 8
theorem seen_nested {A : Around} {E : Value → Shared → Prop} {s : Shared} {k : NestedKey} {v : Value} {ys : List Value} {Q : Bool → Shared → Prop} (hx : KeyIs s.heap k v) (hy : ∀ y ∈ ys, ∃ k', KeyIs s.heap k' y) (h : Q false s) :
    wpAny (model P w) A (searchCouldBeSeen v ys) Q E s := by
  obtain ⟨⟨b, rfl⟩, hk, hd⟩ := hx
  unfold searchCouldBeSeen
  refine wpAny_bind ?_
  refine wpAny_forIn_list _ (fun rest r s' => r.1 = none ∧ s' = s ∧ ∀ y ∈ rest, ∃ k', KeyIs s.heap k' y) _ ?_ ?_ _ _ ⟨rfl, rfl, hy⟩
  · rintro v rest r s' ⟨hr, rfl, hall⟩
    obtain ⟨k', ⟨c, rfl⟩, hc, hcd⟩ := hall v List.mem_cons_self
    have rest' : ∀ y ∈ rest, ∃ k', KeyIs s'.heap k' y := fun u hu' => hall u (List.mem_cons_of_mem _ hu')
    dsimp only
    by_cases hv : (b == c || (carriedByValue (.ref b) && carriedByValue (.ref c))) = true
    · refine wp_if_pos hv ?_
      exact wpAny_pure ⟨rfl, rfl, rest'⟩
    · refine wp_if_neg hv ?_
      refine wpAny_bind (quiet_key k _ 8 s' hk hd _ _ _ ?_)
      simp only [Bool.not_true, Bool.false_eq_true, if_false]
      refine wpAny_bind (quiet_key k' _ 8 s' hc hcd _ _ _ ?_)
      simp only [Bool.not_true, Bool.false_eq_true, if_false]
      refine wpAny_bind (ofCls_nested 8 k _ hk hd ?_)
      simp only [Bool.false_eq_true, if_false]
      refine wpAny_bind (ofCls_nested 8 k' _ hc hcd ?_)
      simp only [Bool.false_eq_true, if_false]
      exact wpAny_pure ⟨rfl, rfl, rest'⟩
  · rintro ⟨r1, r2⟩ s' ⟨hr, rfl, _⟩
    simp only at hr
    subst hr
    exact wpAny_pure h
theorem tupTypeIs {s : Shared} {k : NestedKey} {b : Addr} (h : NestedIs s.heap k (.ref b)) : s.TypeIs (.ref b) "tuple" := by
  cases h with
  | tup h1 h2 h3 h4 => exact ⟨_, h1, h2⟩
/-- elements that are nested tuples -/
def ekN (P : Program) (w : World) : EK P w NestedKey where
  is := KeyIs
  hash := fun k => k.hash w
  draws := fun k => k.draws
  sc := false
  isSc := fun h => by
    obtain ⟨⟨a, rfl⟩, _⟩ := h
    rfl
  inj := fun hx hy => NestedIs.inj _ _ _ hx.2.1 hy.2.1
  keep := fun h st => ⟨h.1, NestedIs.at st _ _ h.2.1, h.2.2⟩
  hashR := fun {A E s k v Q} hu hk h => pyHash_key _ _ _ _ _ hk.2.1 (by have := hk.2.2; omega) h
  byV := fun hk h => byV_nested 8 _ _ hk.2.1 h
  eqR := fun _ {A E s x y u v Q} hu hx hy h => eqAt_key x y A s _ _ hx.2.1 hy.2.1 (by have := hx.2.2; omega) _ _ _ _ (by rw [← NestedKey.decide_eq]; exact h)
  sameR := fun {A E s x u Q} _ hx h => by
    obtain ⟨⟨a, rfl⟩, _⟩ := hx
    exact wpAny_isSame_ref_self h
  seenR := fun _ {A E s k v ys Q} hx hy h => seen_nested hx hy h
  spR := fun {A E s k b Q} hk h => wpAny_specialOf (tupTypeIs hk.2.1) F.slot_tuple_eq.lookup (h _)
  scanR := fun z => by cases z
/-- elements by value (ints, texts) -/
def ekV {κ : Type} [DecidableEq κ] (knd : KeyKind P w κ) : EK P w κ where
  is := fun _ k v => knd.is k v = true ∧ v.scannable = true
  hash := knd.hash
  draws := fun _ => 1
  sc := true
  isSc := fun h => h.2
  inj := fun hx hy => knd.inj _ _ _ hx.1 hy.1
  keep := fun h _ => h
  hashR := fun _ hk h => knd.pyHash hk.1 h
  byV := fun {A E s k v Q} hk h => by
    rw [hashByValue_scannable 8 hk.2]
    exact wpAny_pure (h _)
  eqR := fun z => by cases z
  sameR := fun z => by cases z
  seenR := fun z => by cases z
  spR := fun {A E s k b Q} hk h => by
    have := hk.2
    cases this
  scanR := fun _ {A E s a o es ep t x k adding Q} hk ho hd hf hbel q1 q2 => by
    have hel : ElemsOf knd es.toList := fun e he => by
      obtain ⟨k', hk', hh⟩ := hbel e he
      exact ⟨⟨k', hk'.1, hh⟩, hk'.2⟩
    refine wpAny_setScan_of hk.1 ho hd hf hel ?_
    cases hr : es.toList.findIdx? (fun e => knd.is k e.2) with
    | none =>
      refine q2 fun e he hi => ?_
      have := List.findIdx?_eq_none_iff.mp hr e he
      rw [hi.1] at this
      cases this
    | some j =>
      obtain ⟨hj, hpj, _⟩ := List.findIdx?_eq_some_iff_getElem.mp hr
      exact q1 ⟨es.toList[j], List.getElem_mem hj, hpj, (hel _ (List.getElem_mem hj)).2⟩ _
end
end GS
/-! the rules: set(xs), s | t, sorted(s) -/
namespace GS
open PySem PySem.Spec PyProof.Rows L2 GX
/-- a type of elements -/
structure ET (P : Program) (w : World) (κ : Type) where
  τ : Type
  dec : DecidableEq τ
  ek : @EK P w τ dec
  key : κ → τ
  enc : κ → PyData
  inj : ∀ {a b : κ}, key a = key b → a = b
  isOf : ∀ {X : Cx} {pins : List (Addr × Obj)} {σ : L2.St} {H : Hp} {s : Shared} {k : κ} {v : V} {u : Value}, X.prog = P → X.w = w → Inv X pins σ H s → Dp X.K H v (enc k) → RelV v u → ek.is s.heap (key k) u
  dp : ∀ k, (enc k).depth ≤ 8
/-- nested tuples -/
def etN {κ : Type} [DecidableEq κ] (T : KT κ) (tup : ∀ k, ∃ ds, T.enc k = .tuple ds) (P : Program) (w : World) : ET P w κ where
  τ := NestedKey
  dec := inferInstance
  ek := ekN P w
  key := fun k => keyN (T.enc k)
  enc := T.enc
  inj := fun h => KT.eqN.mp h
  isOf := fun {X pins σ H s k v u} e1 e2 I hd r => by
    refine ⟨?_, dp_nested I _ _ _ hd (T.kd k) r, by rw [keyN_depth _ (T.kd k)]; exact T.dp k⟩
    obtain ⟨ds, e⟩ := tup k
    rw [e] at hd
    cases hd with
    | tup hs ha => cases r; exact ⟨_, rfl⟩
  dp := T.dp
/-- whole numbers -/
def etI (P : Program) (w : World) : ET P w Int where
  τ := Int
  dec := inferInstance
  ek := ekV (intKind P w)
  key := id
  enc := .int
  inj := fun h => h
  isOf := fun {X pins σ H s k v u} e1 e2 I hd r => by
    cases hd
    obtain ⟨t, rfl⟩ := r
    exact ⟨intKind_is P w k t, rfl⟩
  dp := fun k => by rw [PyData.depth]; exact Nat.zero_le _
section
variable {P : Program} {w : World} {κ : Type} (T : ET P w κ)
instance : DecidableEq T.τ := T.dec
structure S0 (h : Heap) (a : Addr) (L : List (T.τ × Value)) (es : Array (Int × Value)) (ep : Nat) (t : SetTable) : Prop where
  ob : ∃ o, h.get? a = some o ∧ o.ExactSet ∧ o.data = .set es ep t
  rows : es.toList = rowsOf T.ek L
  tab : Tb t (L.map fun p => T.ek.hash p.1)
  nd : (L.map (·.1)).Nodup
  led : w.params.followText "set-order" = true ∨ t.led = true
  room : L.length * 5 < t.mask * 3
/-- what the abstract entries say of the rows -/
structure Rw (es : List (κ × V)) (L : List (T.τ × Value)) : Prop where
  keys : L.map (·.1) = es.map fun e => T.key e.1
  vals : Vals (es.map (·.2)) (L.map (·.2))
def SetAt0 (h : Heap) (a : Addr) (es : List (κ × V)) : Prop := ∃ L e ep t, Rw T es L ∧ S0 T h a L e ep t
/-- the object: a set with the entries es (key, value), in some order -/
def SO (a : Addr) (es : List (κ × V)) : HO := .ext fun h => SetAt0 T h a es
def ElsAt (K : PySem.W.Frag) (H : Hp) (es : List (κ × V)) : Prop := ∀ e ∈ es, Dp K H e.2 (T.enc e.1)
variable {T}
theorem Rw.len {es : List (κ × V)} {L : List (T.τ × Value)} (r : Rw T es L) : L.length = es.length := by
  have := congrArg List.length r.keys
  rw [List.length_map, List.length_map] at this
  exact this
theorem rw_cons {e : κ × V} {es : List (κ × V)} {p : T.τ × Value} {L : List (T.τ × Value)} (h1 : T.key e.1 = p.1) (h2 : RelV e.2 p.2) (r : Rw T es L) : Rw T (e :: es) (p :: L) :=
  ⟨by rw [List.map_cons, List.map_cons, r.keys, h1], .cons h2 r.vals⟩
theorem rw_mem {es : List (κ × V)} : ∀ {L : List (T.τ × Value)}, Rw T es L → ∀ p ∈ L, ∃ e ∈ es, T.key e.1 = p.1 ∧ RelV e.2 p.2 := by
  induction es with
  | nil =>
    intro L r p hp
    have := r.len
    rw [List.eq_nil_of_length_eq_zero this] at hp
    cases hp
  | cons e es ih =>
    intro L r p hp
    cases L with
    | nil => cases hp
    | cons q L =>
      have k := r.keys
      rw [List.map_cons, List.map_cons] at k
      have v := r.vals
      rw [List.map_cons, List.map_cons] at v
      cases v with
      | cons v1 v2 =>
        rcases List.mem_cons.mp hp with z | z
        · exact ⟨e, List.mem_cons_self, z ▸ (List.cons.inj k).1.symm, z ▸ v1⟩
        · obtain ⟨e', he', r'⟩ := ih ⟨(List.cons.inj k).2, v2⟩ p z
          exact ⟨e', List.mem_cons_of_mem _ he', r'⟩
/-- rows out of given ones have entries out of the given ones -/
theorem rw_lift {G : List (κ × V)} : ∀ (L : List (T.τ × Value)), (∀ p ∈ L, ∃ e ∈ G, T.key e.1 = p.1 ∧ RelV e.2 p.2) → ∃ es, Rw T es L ∧ ∀ e ∈ es, e ∈ G
  | [], _ => ⟨[], ⟨rfl, .nil⟩, fun e he => by cases he⟩
  | p :: L, h => by
    obtain ⟨es, r, hs⟩ := rw_lift L fun q hq => h q (List.mem_cons_of_mem _ hq)
    obtain ⟨e, he, h1, h2⟩ := h p List.mem_cons_self
    exact ⟨e :: es, rw_cons h1 h2 r, fun x hx => by
      rcases List.mem_cons.mp hx with z | z
      · exact z ▸ he
      · exact hs x z⟩
theorem rw_nodup {es : List (κ × V)} {L : List (T.τ × Value)} (r : Rw T es L) (n : (L.map (·.1)).Nodup) : (es.map (·.1)).Nodup := by
  rw [r.keys] at n
  refine List.pairwise_map.mpr (List.Pairwise.imp (fun h e => h (congrArg T.key e)) (List.pairwise_map.mp n))
/-- the rows of a list of entries with their values -/
def rowsAt (G : List (κ × V)) (us : List Value) : List (T.τ × Value) := (G.zip us).map fun p => (T.key p.1.1, p.2)
theorem rowsAt_rw : ∀ {G : List (κ × V)} {us : List Value}, Vals (G.map (·.2)) us → Rw T G (rowsAt (T := T) G us) ∧ (rowsAt (T := T) G us).map (·.2) = us
  | [], _, .nil => ⟨⟨rfl, .nil⟩, rfl⟩
  | e :: G, _, .cons r t => by
    obtain ⟨h1, h2⟩ := rowsAt_rw t
    exact ⟨rw_cons rfl r h1, congrArg (List.cons _) h2⟩
theorem perm_inv {α β : Type} {f : α → β} {l m : List β} (h : l.Perm m) : ∀ L : List α, m = L.map f → ∃ M : List α, M.Perm L ∧ l = M.map f := by
  induction h with
  | nil => intro L e; exact ⟨L, List.Perm.refl _, e⟩
  | cons x _ ih =>
    intro L e
    cases L with
    | nil => cases e
    | cons y L =>
      obtain ⟨e1, e2⟩ := List.cons.inj e
      obtain ⟨L2, p, q⟩ := ih L e2
      exact ⟨y :: L2, p.cons y, by rw [List.map_cons, ← e1, q]⟩
  | swap x y l =>
    intro L e
    match L, e with
    | y' :: x' :: L, e =>
      obtain ⟨e1, e2⟩ := List.cons.inj e
      obtain ⟨e2, e3⟩ := List.cons.inj e2
      exact ⟨x' :: y' :: L, List.Perm.swap _ _ _, by rw [List.map_cons, List.map_cons, ← e1, ← e2, e3]⟩
  | trans _ _ ih1 ih2 =>
    intro L e
    obtain ⟨L2, p, q⟩ := ih2 L e
    obtain ⟨L3, p3, q3⟩ := ih1 L2 q
    exact ⟨L3, p3.trans p, q3⟩
theorem SR.s0 {h : Heap} {a : Addr} {L : List (T.τ × Value)} {e : Array (Int × Value)} {ep : Nat} {t : SetTable} (R : SR T.ek h a L e ep t) : S0 T h a L e ep t := ⟨R.ob, R.rows, R.tab, R.nd, R.led, R.room⟩
theorem so_new {H : Hp} {h : Heap} {a : Addr} {es : List (κ × V)} {L : List (T.τ × Value)} {e : Array (Int × Value)} {ep : Nat} {t : SetTable} (r : Rw T es L) (R : SR T.ek h a L e ep t) : ObjOk P w H h a (SO T a es) := by
  obtain ⟨o, ho, _⟩ := R.ob
  refine ⟨⟨L, e, ep, t, r, R.s0⟩, ⟨o, ho⟩, fun h1 h2 p k => ?_⟩
  obtain ⟨L', e', ep', t', r', R'⟩ := p
  obtain ⟨o', ho', q⟩ := R'.ob
  exact ⟨L', e', ep', t', r', ⟨o', k o' ho', q⟩, R'.rows, R'.tab, R'.nd, R'.led, R'.room⟩
end
section
variable {X : Cx} {κ : Type} {T : ET X.prog X.w κ} {pins : List (Addr × Obj)} {σ : L2.St} {H : Hp} {s : Shared}
theorem sr_of {a : Addr} {es : List (κ × V)} (I : Inv X pins σ H s) (ha : H a = some (SO T a es)) (hk : ElsAt T X.K H es) : ∃ L e ep t, Rw T es L ∧ SR T.ek s.heap a L e ep t := by
  obtain ⟨L, e, ep, t, r, R⟩ := (I.hok a _ ha).1
  refine ⟨L, e, ep, t, r, R.ob, R.rows, R.tab, R.nd, R.led, R.room, fun p hp => ?_⟩
  obtain ⟨x, hx, h1, h2⟩ := rw_mem r p hp
  rw [← h1]
  exact T.isOf rfl rfl I (hk x hx) h2
theorem same_put {H : Hp} {a : Addr} {o : HO} (e : H a = none) : Same H (upd H a o) := fun b o' e' => by
  rw [upd_ne (ne_of_none e' e)]
  exact e'
/-- what comes out: a set p of the entries es, which are some of G, each key of G among them -/
def Out (κ : Type) (G es : List (κ × V)) : Prop := (es.map (·.1)).Nodup ∧ (∀ e ∈ es, e ∈ G) ∧ ∀ e ∈ G, e.1 ∈ es.map (·.1)
theorem out_of {G es : List (κ × V)} {L : List (T.τ × Value)} (r : Rw T es L) (n : (L.map (·.1)).Nodup) (hs : ∀ e ∈ es, e ∈ G) (ha : ∀ e ∈ G, T.key e.1 ∈ L.map (·.1)) : Out κ G es := by
  refine ⟨rw_nodup r n, hs, fun e he => ?_⟩
  have z := ha e he
  rw [r.keys] at z
  obtain ⟨e', he', ee⟩ := List.mem_map.mp z
  exact List.mem_map.mpr ⟨e', he', T.inj ee⟩
/-- set(xs), xs a list or a tuple -/
def rSet (T : ET X.prog X.w κ) : List V → Hp → VK → Prop := fun xs H Q => ∃ (l : Addr) (G : List (κ × V)), xs = [.ref l] ∧ (SqL X.K H l (G.map (·.2)) ∨ SqT X.K H l (G.map (·.2))) ∧ ElsAt T X.K H G ∧ G.length < 38 ∧
  ∀ p es H', Same H H' → H p = none → H' p = some (SO T p es) → Out κ G es → Q (.ref p) H'
theorem cr_set (hc : X.calm = true) (hu : X.A.units + 64 < cLine) : CallR X (.type "set") (rSet T) := by
  intro pins s σ H xs us Q I r h
  obtain ⟨l, G, rfl, hl, hk, hf, q⟩ := h
  rw [Vals.ref1 r]
  have hn : H s.heap.objs.size = none := I.hok.fresh (Nat.le_refl _)
  have main : ∀ (lst : Bool) (its : List Value), Vals (G.map (·.2)) its → (if lst = true then s.heap.IsList l its.toArray else s.heap.IsTuple l its.toArray) → wpAny (model X.prog X.w) X.A (call (.type "set") [.ref l]) (EP X pins σ Q) X.xe s := fun lst its rv hh => by
    obtain ⟨r1, r2⟩ := rowsAt_rw (T := T) rv
    refine call_set (T := T.ek) lst (rowsAt G its) (I.ok.hd hc) hh (by rw [r2]) (fun p hp => ?_) (by rw [r1.len]; exact hf) (by omega) fun h' tk L es ep t R g k => ?_
    · obtain ⟨x, hx, h1, h2⟩ := rw_mem r1 p hp
      rw [← h1]
      exact T.isOf rfl rfl I (hk x hx) h2
    · obtain ⟨e2, w2, m2⟩ := rw_lift (G := G) L fun p hp => rw_mem r1 p (List.mem_of_mem_take (g.sub p hp))
      refine ⟨.ref s.heap.objs.size, upd H s.heap.objs.size (SO T s.heap.objs.size e2), I.laid (t' := tk) k (Nat.le_refl _) (so_new w2 R), rfl, q _ e2 _ (same_put hn) hn upd_same (out_of w2 R.nd m2 fun e he => ?_)⟩
      have : T.key e.1 ∈ (rowsAt (T := T) G its).map (·.1) := by
        rw [r1.keys]
        exact List.mem_map.mpr ⟨e, he, rfl⟩
      obtain ⟨p, hp, ee⟩ := List.mem_map.mp this
      rw [← ee]
      exact g.all p (by rw [List.take_length]; exact hp)
  rcases hl with hl | hl
  · obtain ⟨its, rv, pl, hz⟩ := I.list hl
    exact main true its rv pl.isList
  · obtain ⟨its, rv, pl, _⟩ := I.tuple hl
    exact main false its rv pl
end
end GS
/-! the rules: s | t, sorted(s) -/
namespace GS
open PySem PySem.Spec PyProof.Rows L2 GX
section
variable {X : Cx} {κ : Type} {T : ET X.prog X.w κ}
/-- s | t -/
def rOr (T : ET X.prog X.w κ) : R2 := fun x y H Q => ∃ (a b : Addr) (F G : List (κ × V)), x = .ref a ∧ y = .ref b ∧ a ≠ b ∧ H a = some (SO T a F) ∧ H b = some (SO T b G) ∧ ElsAt T X.K H F ∧ ElsAt T X.K H G ∧ F.length + G.length < 38 ∧
  ∀ p es H', Same H H' → H p = none → H' p = some (SO T p es) → Out κ (F ++ G) es → Q (.ref p) H'
theorem op_or (hu : X.A.units + 64 < cLine) : OpR X (binaryOp .BitOr) (rOr T) := by
  intro pins s σ H x y v u Q I rx ry h
  obtain ⟨a, b, F, G, rfl, rfl, hab, ha, hb, hF, hG, hl, q⟩ := h
  cases rx
  cases ry
  obtain ⟨L1, e1, p1, t1, r1, R1⟩ := sr_of I ha hF
  obtain ⟨L2, e2, p2, t2, r2, R2⟩ := sr_of I hb hG
  have hn : H s.heap.objs.size = none := I.hok.fresh (Nat.le_refl _)
  refine or_at hab R1 R2 (by omega) (by rw [r1.len, r2.len]; exact hl) fun h' d L es ep t k R j1 j2 j3 _ => ?_
  obtain ⟨e3, w3, m3⟩ := rw_lift (G := F ++ G) L fun p hp => by
    rcases j1 p hp with z | z
    · obtain ⟨e, he, q⟩ := rw_mem r1 p z
      exact ⟨e, List.mem_append_left _ he, q⟩
    · obtain ⟨e, he, q⟩ := rw_mem r2 p z
      exact ⟨e, List.mem_append_right _ he, q⟩
  have J : Inv X pins σ (upd H s.heap.objs.size (SO T s.heap.objs.size e3)) { s with heap := h', drawn := d } :=
    I.call' (s' := { s with heap := h', drawn := d }) (ch := []) rfl (Un.laid k (Nat.le_refl _) hn) (I.hok.laid k (Nat.le_refl _) (so_new w3 R)) I.bare (fun _ z => nomatch z)
  refine ⟨.ref s.heap.objs.size, _, J, rfl, q _ e3 _ (same_put hn) hn upd_same (out_of w3 R.nd m3 fun e he => ?_)⟩
  have key : ∀ {M : List (κ × V)} {L : List (T.τ × Value)}, Rw T M L → e ∈ M → ∃ p ∈ L, p.1 = T.key e.1 := fun {M L} r he => by
    have : T.key e.1 ∈ L.map (·.1) := by
      rw [r.keys]
      exact List.mem_map.mpr ⟨e, he, rfl⟩
    obtain ⟨p, hp, ee⟩ := List.mem_map.mp this
    exact ⟨p, hp, ee⟩
  rcases List.mem_append.mp he with z | z
  · obtain ⟨p, hp, ee⟩ := key r1 z
    rw [← ee]
    exact j2 p hp
  · obtain ⟨p, hp, ee⟩ := key r2 z
    rw [← ee]
    exact j3 p hp
def sortE (enc : κ → PyData) (es : List (κ × V)) : List (κ × V) := es.mergeSort (PySem.W.dataLe false fun e => enc e.1)
/-- sorted(s) -/
def rSorted (T : ET X.prog X.w κ) : List V → Hp → VK → Prop := fun xs H Q => ∃ (a : Addr) (es : List (κ × V)), xs = [.ref a] ∧ H a = some (SO T a es) ∧ ElsAt T X.K H es ∧ PySem.W.AllAlike (es.map fun e => T.enc e.1) ∧ PySem.W.Sortable (es.map fun e => T.enc e.1) ∧
  ∀ p fs H', Same H H' → H p = none → H' p = some (.lst ((sortE T.enc fs).map (·.2))) → fs.Perm es → Q (.ref p) H'
theorem cr_sorted (hcalm : X.calm = true) (hu : X.A.units + 64 < cLine) : CallR X (.builtin "sorted") (rSorted T) := by
  intro pins s σ H xs us Q I r q
  obtain ⟨a, es, rfl, ha, hk, al, so, q⟩ := q
  rw [Vals.ref1 r]
  obtain ⟨L, e, ep, t, rr, R⟩ := sr_of I ha hk
  obtain ⟨o, ho, hex, hd⟩ := R.ob
  have hfw := R.few
  refine Calls.call_function_entry PyProof.Rows.kind_sorted PyProof.Rows.plain_sorted PyProof.Rows.entry_sorted (PyProof.Rows.args_sorted1 _) ?_
  unfold Builtin.«sorted»
  refine wpAny_bind (m := checkCount "sorted" 1 1 _) (wpAny_pure ?_)
  refine wpAny_bind (collect_set (A := X.A.in1) (I.ok.hd hcalm) ⟨o, ho, hex.1, hd⟩ R.fits (by rw [R.size]; unfold scanBound; omega) R.tab.ris R.led fun s1 vs k1 hz g1 o1 pm => ?_)
  -- the entries in the order in which the set was walked
  have hZ : (L.zip es).map (fun z => z.1.2) = L.map (·.2) := by
    have h1 : (L.zip es).map Prod.fst = L := List.map_fst_zip (by rw [rr.len]; exact Nat.le_refl _)
    conv => rhs; rw [← h1]
    rw [List.map_map]
    rfl
  have hZ2 : (L.zip es).map Prod.snd = es := List.map_snd_zip (by rw [rr.len]; exact Nat.le_refl _)
  have hrel : ∀ z ∈ L.zip es, RelV z.2.2 z.1.2 := by
    have key : ∀ (es : List (κ × V)) (L : List (T.τ × Value)), Vals (es.map (·.2)) (L.map (·.2)) → ∀ z ∈ L.zip es, RelV z.2.2 z.1.2 := fun es => by
      induction es with
      | nil => intro L v z hz; rw [List.zip_nil_right] at hz; cases hz
      | cons e es ih =>
        intro L v z hz
        cases L with
        | nil => cases hz
        | cons p L =>
          rw [List.map_cons, List.map_cons] at v
          cases v with
          | cons v1 v2 =>
            rw [List.zip_cons_cons] at hz
            rcases List.mem_cons.mp hz with y | y
            · rw [y]; exact v1
            · exact ih L v2 z y
    exact key es L rr.vals
  have hes : e.toList.map (·.2) = L.map (·.2) := by
    rw [R.rows]
    unfold rowsOf
    rw [List.map_map]
    rfl
  rw [hes, ← hZ] at pm
  obtain ⟨Z, pz, ez⟩ := perm_inv pm (L.zip es) rfl
  have pfs : (Z.map Prod.snd).Perm es := by
    have := pz.map Prod.snd
    rw [hZ2] at this
    exact this
  have hE : PySem.W.EachIs (fun (u : Value) (e : κ × V) => RelV e.2 u) vs (Z.map Prod.snd) := by
    rw [ez]
    have key : ∀ Z : List ((T.τ × Value) × (κ × V)), (∀ z ∈ Z, RelV z.2.2 z.1.2) → PySem.W.EachIs (fun (u : Value) (e : κ × V) => RelV e.2 u) (Z.map fun z => z.1.2) (Z.map Prod.snd) := fun Z => by
      induction Z with
      | nil => intro _; exact .nil
      | cons z Z ih => intro h; exact .cons (h z List.mem_cons_self) (ih fun y hy => h y (List.mem_cons_of_mem _ hy))
    exact key Z fun z hz => hrel z (pz.mem_iff.mp hz)
  have hlen : vs.length = es.length := by rw [hE.length, pfs.length_eq]
  have I1 : Inv X pins σ H s1 := I.call' (s' := s1) (ch := []) o1 (Un.kept k1) (I.hok.kept k1) (by rw [g1]; exact I.bare) (fun _ z => nomatch z)
  have hle : es.length ≤ 76 := by rw [← rr.len]; exact hfw
  refine wpAny_bind (wpAny_newList ?_ (by rw [hlen, sizeLine_eq]; omega))
  have hoL : (s1.heap.push (seqObj "list" vs.toArray 0)).get? s1.heap.objs.size = some (seqObj "list" vs.toArray 0) := Heap.get?_push_size _ rfl
  have er : PySem.W.EachIs (fun (v : Value) (b : κ × V) => ∃ as, Reads (s1.heap.push (seqObj "list" vs.toArray 0)) v (T.enc b.1) as ∧ s1.heap.objs.size ∉ as) vs (Z.map Prod.snd) := (PySem.W.each_mem hE).mono fun v b ⟨e, hb⟩ => by
    obtain ⟨as, rd⟩ := Dp.reads I1 _ b.2 _ (hk b (pfs.mem_iff.mp hb)) e
    exact ⟨as, PyProof.Rows.Reads.keeps (fun b o e => Heap.get?_push_of_some _ e) rd, fun hm => by
      obtain ⟨o, ho⟩ := PyProof.On.reads_mem_get rd _ hm
      exact Nat.lt_irrefl _ (Heap.lt_size ho)⟩
  have al2 : PySem.W.AllAlike ((Z.map Prod.snd).map fun e => T.enc e.1) := fun d hd d' hd' => al d ((pfs.map _).mem_iff.mp hd) d' ((pfs.map _).mem_iff.mp hd')
  have so2 : PySem.W.Sortable ((Z.map Prod.snd).map fun e => T.enc e.1) := so.imp (fun h d hd => h d ((pfs.map _).mem_iff.mp hd)) fun h d hd => h d ((pfs.map _).mem_iff.mp hd)
  show wpAny _ _ _ _ _ { s1 with heap := s1.heap.push (seqObj "list" vs.toArray 0) }
  refine wpAny_bind (wpAny_holding (PySem.W.list_sort_data (s := { s1 with heap := s1.heap.push (seqObj "list" vs.toArray 0) }) hoL hE er al2 so2 (by rw [pfs.length_eq, sizeLine_eq]; omega) (fun b hb => by
    have := T.dp b.1
    show X.A.units + 1 + 1 + _ < cLine
    omega) fun out lo eo => ?_))
  obtain ⟨e', he'⟩ := PyProof.Rows.sortedHeap_at (vs := vs) (out := List.toArray out) hoL
  have hv : Vals ((sortE T.enc (Z.map Prod.snd)).map (·.2)) out := by
    have key : ∀ {out : List Value} {fs : List (κ × V)}, PySem.W.EachIs (fun (u : Value) (e : κ × V) => RelV e.2 u) out fs → Vals (fs.map (·.2)) out := fun {out fs} h => by
      induction h with
      | nil => exact .nil
      | cons h _ ih => exact .cons h ih
    exact key eo
  have hl2 : ((sortE T.enc (Z.map Prod.snd)).map (·.2)).length ≤ sizeLine := by
    rw [List.length_map, sortE, List.length_mergeSort, pfs.length_eq, sizeLine_eq]
    omega
  refine wpAny_pure ⟨_, rfl, .ref s1.heap.objs.size, upd H s1.heap.objs.size (.lst ((sortE T.enc (Z.map Prod.snd)).map (·.2))), I1.laid (t' := s1.toks) (fun b u e => ?_) (Nat.le_refl _)
    (show ObjOk X.prog X.w _ _ _ (.lst _) from ⟨hl2, out, e', hv, he'⟩), rfl, q _ _ _ (same_put (I1.hok.fresh (Nat.le_refl _))) (I1.hok.fresh (Nat.le_refl _)) upd_same pfs⟩
  have hb : b < s1.heap.objs.size := Heap.lt_size e
  rw [PyProof.Rows.sortedHeap_old (Nat.ne_of_lt hb) (by rw [size_push']; exact Nat.lt_succ_of_lt hb)]
  exact Heap.get?_push_of_some _ e
end
end GS
/-! what sorted(..) of keys gives does not depend on their order -/
namespace GS
open PySem PySem.Spec PyProof.Rows L2 GX
open PySem.W (dataLt dataLe alike alikeAll keyToks keyToksAll)
theorem eqv_toks {x y : PyData} (h : alike x y = true) (e : keyToks x = keyToks y) : PyData.eqv x y = true := by
  cases q : PyData.eqv x y with
  | true => rfl
  | false =>
    have z := (PySem.W.toks_eqv x y h).2 q [Sum.inl 0] [Sum.inl 1]
    rw [e, PySem.W.lex_pre] at z
    have i : PyProof.Rows.lexLt itemOrd (keyToks y) (keyToks y) = false := (listOrd itemOrd).irrefl _
    rw [i] at z
    exact absurd z (by decide +kernel)
mutual
theorem eqv_kd : ∀ d e : PyData, kd d = true → kd e = true → PyData.eqv d e = true → d = e
  | .int i, e, _, he, q => by
    cases e with
    | int j => simpa [PyData.eqv] using q
    | str y => simp [PyData.eqv] at q
    | tuple ys => simp [PyData.eqv] at q
    | _ => simp [kd] at he
  | .str x, e, _, he, q => by
    cases e with
    | int j => simp [PyData.eqv] at q
    | str y => simpa [PyData.eqv] using q
    | tuple ys => simp [PyData.eqv] at q
    | _ => simp [kd] at he
  | .tuple xs, e, hd, he, q => by
    cases e with
    | int j => simp [PyData.eqv] at q
    | str y => simp [PyData.eqv] at q
    | tuple ys =>
      rw [kd] at hd he
      rw [PyData.eqv] at q
      rw [eqvAll_kd xs ys hd he q]
    | _ => simp [kd] at he
  | .none, _, hd, _, _ => by simp [kd] at hd
  | .bool _, _, hd, _, _ => by simp [kd] at hd
  | .list _, _, hd, _, _ => by simp [kd] at hd
  | .dict _, _, hd, _, _ => by simp [kd] at hd
theorem eqvAll_kd : ∀ xs ys : List PyData, kdAll xs = true → kdAll ys = true → PyData.eqvAll xs ys = true → xs = ys
  | [], [], _, _, _ => rfl
  | [], y :: ys, _, _, q => by simp [PyData.eqvAll] at q
  | x :: xs, [], _, _, q => by simp [PyData.eqvAll] at q
  | x :: xs, y :: ys, hx, hy, q => by
    rw [kdAll, Bool.and_eq_true] at hx hy
    rw [PyData.eqvAll, Bool.and_eq_true] at q
    rw [eqv_kd x y hx.1 hy.1 q.1, eqvAll_kd xs ys hx.2 hy.2 q.2]
end
theorem le_anti {κ : Type} {enc : κ → PyData} (hk : ∀ k, kd (enc k) = true) {a b : κ} (al : alike (enc a) (enc b) = true) (h1 : dataLe false enc a b = true) (h2 : dataLe false enc b a = true) : enc a = enc b := by
  have z1 : dataLt (enc b) (enc a) = false := by simpa [PySem.W.dataLe_eq] using h1
  have z2 : dataLt (enc a) (enc b) = false := by simpa [PySem.W.dataLe_eq] using h2
  exact eqv_kd _ _ (hk a) (hk b) (eqv_toks al ((listOrd itemOrd).total _ _ z2 z1))
/-- the keys in their order -/
def sortK {κ : Type} (enc : κ → PyData) (ks : List κ) : List κ := ks.mergeSort (dataLe false enc)
theorem sortK_perm {κ : Type} (enc : κ → PyData) (ks : List κ) : (sortK enc ks).Perm ks := List.mergeSort_perm _ _
theorem le_total {κ : Type} (enc : κ → PyData) : PySem.W.TotalLe (dataLe false enc) := PySem.W.sortLe_total (listOrd itemOrd) false fun b => keyToks (enc b)
theorem sortK_eq {κ : Type} {enc : κ → PyData} (hk : ∀ k, kd (enc k) = true) (inj : ∀ {a b : κ}, enc a = enc b → a = b) {ks ls : List κ} (al : ∀ a ∈ ks, ∀ b ∈ ks, alike (enc a) (enc b) = true) (p : ks.Perm ls) : sortK enc ks = sortK enc ls := by
  refine List.Perm.eq_of_pairwise (le := fun a b => dataLe false enc a b = true) (fun a b ha hb h1 h2 => ?_) (PySem.W.sort_pairwise (le_total enc) ks) (PySem.W.sort_pairwise (le_total enc) ls) (((sortK_perm enc ks).trans p).trans (sortK_perm enc ls).symm)
  have ha' : a ∈ ks := (sortK_perm enc ks).mem_iff.mp ha
  have hb' : b ∈ ks := p.mem_iff.mpr ((sortK_perm enc ls).mem_iff.mp hb)
  exact inj (le_anti hk (al a ha' b hb') h1 h2)
theorem sortE_keys {κ : Type} (enc : κ → PyData) (fs : List (κ × V)) : (sortE enc fs).map (·.1) = sortK enc (fs.map (·.1)) := PySem.W.sort_maps (fun e : κ × V => e.1) (r := dataLe false fun e : κ × V => enc e.1) (s := dataLe false enc) fun a _ b _ => rfl
theorem sortE_perm {κ : Type} (enc : κ → PyData) (fs : List (κ × V)) : (sortE enc fs).Perm fs := List.mergeSort_perm _ _
theorem perm_of_nodup {α : Type} {l m : List α} (h1 : l.Nodup) (h2 : m.Nodup) (h : ∀ x, x ∈ l ↔ x ∈ m) : l.Perm m := (List.perm_ext_iff_of_nodup h1 h2).mpr h
end GS
namespace K50
open PySem PySem.Spec PyProof.Rows L2 TR QR
open GX (KT kd kdAll)
open GxR (TabB TabG Tabbed)
open PySem.W (dataLt dataLe alike alikeAll AllAlike Sortable)
abbrev Lab := Nat × List Nat
def intD (ms : List Nat) : List PyData := ms.map fun m : Nat => .int (m : Int)
def intV (ms : List Nat) : List V := ms.map fun m : Nat => V.int (m : Int)
def encL (l : Lab) : PyData := .tuple [.str (Str.ofString "label"), .int (l.1 : Int), .tuple (intD l.2)]
def encK (l : Lab) : PyData := .tuple [.int (l.1 : Int), .tuple (intD l.2)]
theorem kd_ints : ∀ ms : List Nat, kdAll (intD ms) = true
  | [] => rfl
  | m :: ms => by
    show kdAll (.int (m : Int) :: intD ms) = true
    rw [kdAll, kd, kd_ints ms]
    rfl
theorem intD_inj : ∀ {a b : List Nat}, intD a = intD b → a = b
  | [], [], _ => rfl
  | [], b :: bs, h => by cases h
  | a :: as, [], h => by cases h
  | a :: as, b :: bs, h => by
    obtain ⟨h1, h2⟩ := List.cons.inj (show (PyData.int (a : Int) :: intD as) = PyData.int (b : Int) :: intD bs from h)
    injection h1 with h1
    rw [intD_inj h2, Int.ofNat.inj h1]
theorem dep_ints : ∀ ms : List Nat, PyData.depthAll (intD ms) = 0
  | [] => rfl
  | m :: ms => by
    show PyData.depthAll (.int (m : Int) :: intD ms) = 0
    rw [PyData.depthAll, PyData.depth, dep_ints ms]
    rfl
theorem alike_ints : ∀ a b : List Nat, alikeAll (intD a) (intD b) = true
  | [], _ => by unfold alikeAll; rfl
  | a :: as, [] => by rfl
  | a :: as, b :: bs => by
    show alikeAll (.int (a : Int) :: intD as) (.int (b : Int) :: intD bs) = true
    rw [alikeAll, alike, alike_ints as bs]
    rfl
theorem kd_L (l : Lab) : kd (encL l) = true := by
  unfold encL
  simp [kd, kdAll, kd_ints]
theorem kd_K (l : Lab) : kd (encK l) = true := by
  unfold encK
  simp [kd, kdAll, kd_ints]
def ktL : KT Lab where
  enc := encL
  kd := kd_L
  inj := fun {a b} h => by
    unfold encL at h
    injection h with h
    simp only [List.cons.injEq, PyData.int.injEq, PyData.tuple.injEq, true_and, and_true] at h
    exact Prod.ext (Int.ofNat.inj h.1) (intD_inj h.2)
  dp := fun l => by
    unfold encL
    simp [PyData.depth, PyData.depthAll, dep_ints]
def ktK : KT Lab where
  enc := encK
  kd := kd_K
  inj := fun {a b} h => by
    unfold encK at h
    injection h with h
    simp only [List.cons.injEq, PyData.int.injEq, PyData.tuple.injEq, true_and, and_true] at h
    exact Prod.ext (Int.ofNat.inj h.1) (intD_inj h.2)
  dp := fun l => by
    unfold encK
    simp [PyData.depth, PyData.depthAll, dep_ints]
def etL {P : Program} {w : World} : GS.ET P w Lab := GS.etN ktL (fun k => ⟨_, rfl⟩) P w
def etK {P : Program} {w : World} : GS.ET P w Lab := GS.etN ktK (fun k => ⟨_, rfl⟩) P w
theorem alike_L (a b : Lab) : alike (encL a) (encL b) = true := by
  unfold encL
  simp [alike, alikeAll, alike_ints]
theorem alike_K (a b : Lab) : alike (encK a) (encK b) = true := by
  unfold encK
  simp [alike, alikeAll, alike_ints]
theorem le_LK : dataLe false encL = dataLe false encK := by
  funext a b
  have e : ∀ a b : Lab, dataLt (encL a) (encL b) = dataLt (encK a) (encK b) := fun a b => by
    have h := PySem.W.dataLt_cons (x := .str (Str.ofString "label")) (y := .str (Str.ofString "label")) (by simp [alike]) [.int (a.1 : Int), .tuple (intD a.2)] [.int (b.1 : Int), .tuple (intD b.2)]
    rw [if_pos (by simp [PyData.eqv])] at h
    exact h
  rw [PySem.W.dataLe_eq, PySem.W.dataLe_eq]
  show (!dataLt (encL b) (encL a)) = !dataLt (encK b) (encK a)
  rw [e]
theorem sort_LK (ks : List Lab) : GS.sortK encL ks = GS.sortK encK ks := by
  unfold GS.sortK
  rw [le_LK]
theorem able_L {κ : Type} (f : κ → Lab) (es : List κ) : AllAlike (es.map fun e => encL (f e)) ∧ Sortable (es.map fun e => encL (f e)) :=
  ⟨AllAlike.of fun b b' => alike_L _ _, Sortable.tuples fun b => ⟨_, _, rfl⟩⟩
theorem able_K {κ : Type} (f : κ → Lab) (es : List κ) : AllAlike (es.map fun e => encK (f e)) ∧ Sortable (es.map fun e => encK (f e)) :=
  ⟨AllAlike.of fun b b' => alike_K _ _, Sortable.tuples fun b => ⟨_, _, rfl⟩⟩
theorem able_I {κ : Type} (f : κ → Int) (es : List κ) : AllAlike (es.map fun e => PyData.int (f e)) ∧ Sortable (es.map fun e => PyData.int (f e)) :=
  ⟨AllAlike.of fun b b' => (by rw [alike]), Sortable.others fun b => ⟨(fun z => nomatch z), fun xs z => nomatch z⟩⟩
/-- below -/
def belB (a b : Lab) : Bool := decide (a.1 ≤ b.1) && a.2.all fun m => decide (m ∈ b.2)
theorem bel_iff {a b : Lab} : belB a b = true ↔ a.1 ≤ b.1 ∧ ∀ m ∈ a.2, m ∈ b.2 := by
  unfold belB
  rw [Bool.and_eq_true, decide_eq_true_eq, List.all_eq_true]
  simp only [decide_eq_true_eq]
/-- the label at v -/
def LabAt (K : PySem.W.Frag) (H : Hp) (v : V) (l : Lab) : Prop := ∃ la ma, v = .ref la ∧ SqT K H la [.str "label", .int (l.1 : Int), .ref ma] ∧ SqT K H ma (intV l.2)
theorem tup_same {K : PySem.W.Frag} {H H' : Hp} {a : Addr} {xs : List V} (s : ∀ b o, H b = some o → (∀ ps, o ≠ .tbl ps) → H' b = some o) (h : SqT K H a xs) : SqT K H' a xs := by
  rcases h with (h | ⟨o, h⟩) | h
  · exact .inl (.inl (s _ _ h fun ps z => nomatch z))
  · exact .inl (.inr ⟨o, s _ _ h fun ps z => nomatch z⟩)
  · exact .inr h
/-- all that is no table stays -/
def NS (H H' : Hp) : Prop := ∀ b o, H b = some o → (∀ ps, o ≠ .tbl ps) → H' b = some o
theorem Same.ns {H H' : Hp} (s : Same H H') : NS H H' := fun b o e _ => s b o e
theorem Tb.ns {T : Addr} {H H' : Hp} (t : Tb T H H') (g : TabG H T) : NS H H' := fun b o e n => t.sm b o (tab_ne g e n) e
theorem NS.trans {H H1 H2 : Hp} (a : NS H H1) (b : NS H1 H2) : NS H H2 := fun x o e n => b x o (a x o e n) n
theorem LabAt.ns {K : PySem.W.Frag} {H H' : Hp} {v : V} {l : Lab} (s : NS H H') : LabAt K H v l → LabAt K H' v l := fun ⟨la, ma, e, a, b⟩ => ⟨la, ma, e, tup_same s a, tup_same s b⟩
/-- tuples stay -/
def TSt (K : PySem.W.Frag) (H H' : Hp) : Prop := ∀ x ys, SqT K H x ys → SqT K H' x ys
theorem NS.ts {K : PySem.W.Frag} {H H' : Hp} (s : NS H H') : TSt K H H' := fun _ _ h => tup_same s h
theorem Same.ts {K : PySem.W.Frag} {H H' : Hp} (s : Same H H') : TSt K H H' := NS.ts (Same.ns s)
theorem TSt.trans {K : PySem.W.Frag} {H H1 H2 : Hp} (a : TSt K H H1) (b : TSt K H1 H2) : TSt K H H2 := fun x ys h => b x ys (a x ys h)
theorem TSt.lst {K : PySem.W.Frag} {H : Hp} {E : Addr} {xs : List V} (ys : List V) (e : H E = some (.lst xs)) : TSt K H (upd H E (.lst ys)) := fun x zs h => by
  have ne : ∀ {o : HO}, H x = some o → (∀ zs, o ≠ .lst zs) → (upd H E (.lst ys)) x = some o := fun {o} e' n => by
    rw [upd_ne (fun z => by rw [z, e] at e'; exact n _ (Option.some.inj e').symm)]
    exact e'
  rcases h with (h | ⟨o, h⟩) | h
  · exact .inl (.inl (ne h fun ys z => nomatch z))
  · exact .inl (.inr ⟨o, ne h fun ys z => nomatch z⟩)
  · exact .inr h
theorem LabAt.ts {K : PySem.W.Frag} {H H' : Hp} {v : V} {l : Lab} (s : TSt K H H') : LabAt K H v l → LabAt K H' v l := fun ⟨la, ma, e, a, b⟩ => ⟨la, ma, e, s _ _ a, s _ _ b⟩
/-- the key (level, marks) at v -/
def KeyAt (K : PySem.W.Frag) (H : Hp) (v : V) (l : Lab) : Prop := ∃ t ma, v = .ref t ∧ SqT K H t [.int (l.1 : Int), .ref ma] ∧ SqT K H ma (intV l.2)
theorem KeyAt.ts {K : PySem.W.Frag} {H H' : Hp} {v : V} {l : Lab} (s : TSt K H H') : KeyAt K H v l → KeyAt K H' v l := fun ⟨la, ma, e, a, b⟩ => ⟨la, ma, e, s _ _ a, s _ _ b⟩
theorem LabAt.same {K : PySem.W.Frag} {H H' : Hp} {v : V} {l : Lab} (s : Same H H') (h : LabAt K H v l) : LabAt K H' v l := h.ns (Same.ns s)
theorem dpAll_ints {K : PySem.W.Frag} {H : Hp} : ∀ ms : List Nat, DpAll K H (intV ms) (intD ms)
  | [] => .nil
  | m :: ms => .cons (.int _) (dpAll_ints ms)
theorem LabAt.dp {K : PySem.W.Frag} {H : Hp} {v : V} {l : Lab} : LabAt K H v l → Dp K H v (encL l) := fun ⟨la, ma, e, a, b⟩ => by
  rw [e]
  exact .tup a (.cons (.str _) (.cons (.int _) (.cons (.tup b (dpAll_ints _)) .nil)))
theorem KeyAt.dp {K : PySem.W.Frag} {H : Hp} {v : V} {l : Lab} : KeyAt K H v l → Dp K H v (encK l) := fun ⟨la, ma, e, a, b⟩ => by
  rw [e]
  exact .tup a (.cons (.int _) (.cons (.tup b (dpAll_ints _)) .nil))
theorem inV_ints (m : Nat) : ∀ ms : List Nat, inV (.int (m : Int)) (intV ms) = decide (m ∈ ms)
  | [] => by rfl
  | k :: ms => by
    have e : inV (.int (m : Int)) (intV (k :: ms)) = (eqV (.int (k : Int)) (.int (m : Int)) || inV (.int (m : Int)) (intV ms)) := rfl
    rw [e, inV_ints m ms, Bool.eq_iff_iff, Bool.or_eq_true, decide_eq_true_eq, decide_eq_true_eq, List.mem_cons]
    constructor
    · rintro (h | h)
      · left
        have : (k : Int) = (m : Int) := by simpa [eqV] using h
        omega
      · exact .inr h
    · rintro (h | h)
      · left
        subst h
        simp [eqV]
      · exact .inr h
theorem flat_ints : ∀ ms : List Nat, (intV ms).all flatV = true
  | [] => rfl
  | m :: ms => flat_ints ms
theorem intV_len (ms : List Nat) : (intV ms).length = ms.length := List.length_map _
theorem getV {ms : List Nat} {i : Nat} {v : V} (h : (intV ms)[i]? = some v) : ∃ m : Nat, ms[i]? = some m ∧ v = .int (m : Int) := by
  obtain ⟨m, h1, h2⟩ := map_get h
  exact ⟨m, h1, h2.symm⟩
end K50
namespace K50
open PySem PySem.Spec PyProof.Rows L2 TR QR
open GxR (TabB TabG Tabbed)
abbrev sIB : Stmt := topS 2
abbrev nIB : List Str := ["one", "other", "mark"]
theorem scIB : FnScope nIB ["one", "other"] (defScope sIB) := ⟨rfl, rfl, rfl, by decide +kernel, rfl, by decide +kernel, by decide +kernel⟩
abbrev sLK : Stmt := topS 3
abbrev nLK : List Str := ["label"]
theorem scLK : FnScope nLK ["label"] (defScope sLK) := ⟨rfl, rfl, rfl, by decide +kernel, rfl, by decide +kernel, by decide +kernel⟩
abbrev sSL : Stmt := topS 4
abbrev nSL : List Str := ["labels"]
theorem scSL : FnScope nSL ["labels"] (defScope sSL) := ⟨rfl, rfl, rfl, by decide +kernel, rfl, by decide +kernel, by decide +kernel⟩
abbrev sJO : Stmt := topS 5
abbrev nJO : List Str := ["one", "other"]
theorem scJO : FnScope nJO ["one", "other"] (defScope sJO) := ⟨rfl, rfl, rfl, by decide +kernel, rfl, by decide +kernel, by decide +kernel⟩
abbrev sCO : Stmt := topS 6
abbrev nCO : List Str := ["one", "other", "mark"]
theorem scCO : FnScope nCO ["one", "other"] (defScope sCO) := ⟨rfl, rfl, rfl, by decide +kernel, rfl, by decide +kernel, by decide +kernel⟩
abbrev sLB : Stmt := topS 12
abbrev nLB : List Str := ["one", "other", "mark"]
theorem scLB : FnScope nLB ["one", "other"] (defScope sLB) := ⟨rfl, rfl, rfl, by decide +kernel, rfl, by decide +kernel, by decide +kernel⟩
section
variable {P : Program} {w : World} {K : PySem.W.Frag} {mg : Str → Option Value} {base : Heap}
def spIB (K : PySem.W.Frag) (T : Addr) : Sp := fun vs H Q _ => ∃ (v u : V) (a b : Lab), vs = [v, u] ∧ LabAt K H v a ∧ LabAt K H u b ∧ TabG H T ∧ ∀ H', Tb T H H' → Q (.bl (belB a b)) H'
theorem ok_IB {T1 c f : Addr} {oc kV doc pm ct : Value} {od an : Option Addr} {osl : Array (Option Value)} (lk : K.lookup f = some ⟨oc, od, .func (PySem.W.fnOf "is_below" "is_below" (defArgs sIB) (defBody sIB) (defScope sIB) .none kV doc pm an (.ref c) ct), osl⟩)
    (hcd : PySem.W.codeIn K (.ref c) "is_below" = true) (TB : TabB base mg c T1) (m_all : mg "all" = none) :
    FnOk P w K mg base CX0 2 f (PySem.W.fnOf "is_below" "is_below" (defArgs sIB) (defBody sIB) (defScope sIB) .none kV doc pm an (.ref c) ct) ["one", "other"] (spIB K T1) := by
  refine fn_of lk hcd scIB (fun vs H Q E h => ?_) fun A outer s H vs Q E hr h => ?_
  · obtain ⟨v, u, a, b, rfl, _⟩ := h
    rfl
  · obtain ⟨v, u, a, b, rfl, ha, hb, hT, q⟩ := h
    have hu := hr.units
    have hu1 := hu_of hr
    have zl := zl
    have hrX := hr
    refine ⟨_, (pss_one (ps_ret (pe_and (pe_cmpR op_le (pe_ix ix_tup (pv 0) (pe_int) (fun _ _ => rfl)) (pe_ix ix_tup (pv 1) (pe_int) (fun _ _ => rfl)) (nomark _)) (pe_one (GX.pe_allG (k := 0) (own := [("mark", 2)]) (g := gName 2) (tt := tYes) (te := tOp (rIn K false) (tVar 2) (tOp (rIxT K) (tVar 1) (tC (.int 2)))) hrX rfl scIB.nd (by rfl) m_all ⟨blkOk_by (N := nIB) (sc := defScope sIB) (by decide +kernel), by decide +kernel, rfl, rfl, TB, rfl⟩ (pi_tup (pe_ix ix_tup (pv 0) (pe_int) (fun _ _ => rfl))) (fun _ _ _ _ _ _ hrG => by exact pg_name (i := 2) scIB.nd rfl (.inl rfl)) (fun _ _ _ _ _ _ hrG => pts_nil) (fun _ _ _ _ _ _ hrG => by exact pe_cmpR op_in_seq (pv 2) (pe_ix ix_tup (pv 1) (pe_int) (fun _ _ => rfl)) (by rfl)) (fun _ => rfl)))))), ?_⟩
    have t0 : Tb T1 H H := ⟨fun _ _ _ e => e, hT⟩
    obtain ⟨la, ma, rfl, a1, a2⟩ := ha
    obtain ⟨lb, mb, rfl, b1, b2⟩ := hb
    have no : ∀ H', Tb T1 H H' → belB a b = false → Q (.bl false) H' := fun H' t z => by
      have := q H' t
      rw [z] at this
      exact this
    refine ⟨_, rfl, la, _, 1, _, rfl, rfl, a1, atI_nat (j := 1) rfl, _, rfl, lb, _, 1, _, rfl, rfl, b1, atI_nat (j := 1) rfl, _, _, rfl, rfl, _, rfl, ite2 (fun h1 => ?_) (fun h1 => ?_)⟩
    · have h1 : a.1 ≤ b.1 := by
        have := of_decide_eq_true h1
        omega
      refine ⟨_, rfl, la, _, 2, _, rfl, rfl, a1, atI_nat (j := 2) rfl, ma, rfl, ⟨_, a2⟩, hT, fun H2 t2 => ?_⟩
      have b3 : Tb T1 H H2 := ⟨fun x o n e => (t2.2 x n).trans e, t2.1⟩
      refine GX.wk_tup (xs := intV a.2) (fun k H' => Tb T1 H H' ∧ ∀ (i : Nat) (m : Nat), i < k → a.2[i]? = some m → m ∈ b.2) ⟨b3, fun i m h => by omega⟩ ?_ ?_ ?_
      · rintro k H' _ ⟨t5, _⟩
        exact tup_same (t5.ns hT) a2
      · rintro i y H3 hy ⟨t3, hm⟩
        obtain ⟨m, gm, rfl⟩ := getV hy
        refine ⟨rfl, _, rfl, _, rfl, lb, _, 2, _, rfl, rfl, tup_same (t3.ns hT) b1, atI_nat (j := 2) rfl, mb, _, rfl, .inr (tup_same (t3.ns hT) b2), rfl, flat_ints _, _, rfl, ?_⟩
        rw [show (if false = true then !inV (V.int (m : Int)) (intV b.2) else inV (V.int (m : Int)) (intV b.2)) = decide (m ∈ b.2) from inV_ints m b.2]
        by_cases hin : m ∈ b.2
        · rw [if_neg (by rw [decide_eq_true hin]; decide)]
          refine ⟨t3, fun i' m' h e => ?_⟩
          by_cases hk : i' = i
          · subst hk
            rw [gm] at e
            cases e
            exact hin
          · exact hm i' m' (by omega) e
        · rw [if_pos (decide_eq_false hin)]
          refine no H3 t3 (Bool.eq_false_iff.mpr fun z => hin ((bel_iff.mp z).2 m (List.mem_of_getElem? gm)))
      · rintro H3 ⟨t3, hm⟩
        rw [intV_len] at hm
        have := q H3 t3
        rw [bel_iff.mpr ⟨h1, fun m hmm => by
          obtain ⟨i, e⟩ := List.mem_iff_getElem?.mp hmm
          exact hm i m (List.getElem?_eq_some_iff.mp e).1 e⟩] at this
        exact this
    · have h1 : ¬ a.1 ≤ b.1 := fun z => h1 (decide_eq_true (by omega))
      exact no H t0 (Bool.eq_false_iff.mpr fun z => h1 (bel_iff.mp z).1)
def spLK (K : PySem.W.Frag) : Sp := fun vs H Q _ => ∃ (v : V) (a : Lab), vs = [v] ∧ LabAt K H v a ∧ ∀ H' t ma, Same H H' → H' t = some (.tup [.int (a.1 : Int), .ref ma]) → SqT K H' ma (intV a.2) → Q (.ref t) H'
theorem ok_LK {f : Addr} {fd : FuncData} (F : Fun K "label_key" "label_key" sLK f fd) : FnOk P w K mg base CX0 1 f fd ["label"] (spLK K) := by
  refine F.ok scLK (fun vs H Q E h => ?_) (fun cdv A outer s H vs Q E hr h => ?_)
  · obtain ⟨v, a, rfl, _⟩ := h
    rfl
  · obtain ⟨v, a, rfl, ha, q⟩ := h
    have hu := hr.units
    have hu1 := hu_of hr
    have zl := zl
    refine ⟨_, (pss_one (ps_ret (pe_tup (pa_cons (pe_ix ix_tup (pv 0) (pe_int) (fun _ _ => rfl)) (pa_cons (pe_ix ix_tup (pv 0) (pe_int) (fun _ _ => rfl)) pa_nil))))), ?_⟩
    obtain ⟨la, ma, rfl, a1, a2⟩ := ha
    refine ⟨_, rfl, la, _, 1, _, rfl, rfl, a1, atI_nat (j := 1) rfl, _, rfl, la, _, 2, _, rfl, rfl, a1, atI_nat (j := 2) rfl, by show 2 ≤ sizeLine; omega, fun t nt => ?_⟩
    exact q _ t ma (same_new nt) upd_same (tup_same (Same.ns (same_new nt)) a2)
def entL (G : List (Lab × V)) (K : PySem.W.Frag) (H : Hp) : Prop := ∀ e ∈ G, LabAt K H e.2 e.1
def spSL (K : PySem.W.Frag) : Sp := fun vs H Q _ => ∃ (l : Addr) (G : List (Lab × V)), vs = [.ref l] ∧ SqL K H l (G.map (·.2)) ∧ entL G K H ∧ G.length < 38 ∧
  ∀ H' p (F : List (Lab × V)), Same H H' → H p = none → H' p = some (.lst (F.map (·.2))) → (∀ e ∈ F, e ∈ G) → F.map (·.1) = GS.sortK encL (F.map (·.1)) → (F.map (·.1)).Nodup → (∀ e ∈ G, e.1 ∈ F.map (·.1)) → Q (.ref p) H'
theorem ok_SL {f : Addr} {fd : FuncData} (F : Fun K "sorted_labels" "sorted_labels" sSL f fd)
    (m_sorted : mg "sorted" = none) (m_set : mg "set" = none) : FnOk P w K mg base CX0 1 f fd ["labels"] (spSL K) := by
  refine F.ok scSL (fun vs H Q E h => ?_) (fun cdv A outer s H vs Q E hr h => ?_)
  · obtain ⟨l, G, rfl, _⟩ := h
    rfl
  · obtain ⟨l, G, rfl, hl, hG, hn, q⟩ := h
    have hu := hr.units
    have hu1 := hu_of hr
    have zl := zl
    refine ⟨_, (pss_one (ps_ret (pe_callB (GS.cr_sorted (T := (etL (P := P) (w := w))) rfl hu) (by rfl) m_sorted (by decide +kernel) (pa_cons (pe_callTy (GS.cr_set (T := (etL (P := P) (w := w))) rfl hu) (by rfl) m_set (by decide +kernel) (pa_cons (pv 0) pa_nil)) pa_nil)))), ?_⟩
    refine ⟨_, rfl, l, G, rfl, .inl hl, fun e he => (hG e he).dp, hn, fun s1 es H1 k1 n1 e1 ho => ?_⟩
    obtain ⟨al, so⟩ := able_L (fun e : Lab × V => e.1) es
    refine ⟨s1, es, rfl, e1, fun e he => ((hG e (ho.2.1 e he)).same k1).dp, al, so, fun p fs H2 k2 np e2 pf => ?_⟩
    have pe : (GS.sortE encL fs).Perm es := (GS.sortE_perm encL fs).trans pf
    have ks : (GS.sortE encL fs).map (·.1) = GS.sortK encL (fs.map (·.1)) := GS.sortE_keys encL fs
    refine q H2 p (GS.sortE encL fs) (same_trans k1 k2) (same_none k1 np) e2 (fun e he => ho.2.1 e (pe.mem_iff.mp he)) ?_ ?_ fun e he => (pe.map _).mem_iff.mpr (ho.2.2 e he)
    · rw [ks]
      exact GS.sortK_eq kd_L (fun {a b} h => ktL.inj h) (fun a _ b _ => alike_L a b) (GS.sortK_perm _ _).symm
    · exact (pe.map _).nodup_iff.mpr ho.1
def spJO (K : PySem.W.Frag) : Sp := fun vs H Q _ => ∃ (v u : V) (a b : Lab), vs = [v, u] ∧ LabAt K H v a ∧ LabAt K H u b ∧ a.2.length ≤ 16 ∧ b.2.length ≤ 16 ∧
  ∀ H' t c, Same H H' → LabAt K H' t c → c.1 = max a.1 b.1 → (∀ m, m ∈ c.2 ↔ m ∈ a.2 ∨ m ∈ b.2) → c.2.length ≤ 32 → Q t H'
theorem ok_JO {f : Addr} {fd : FuncData} (F : Fun K "joined" "joined" sJO f fd)
    (m_max : mg "max" = none) (m_tuple : mg "tuple" = none) (m_sorted : mg "sorted" = none) (m_set : mg "set" = none) : FnOk P w K mg base CX0 1 f fd ["one", "other"] (spJO K) := by
  refine F.ok scJO (fun vs H Q E h => ?_) (fun cdv A outer s H vs Q E hr h => ?_)
  · obtain ⟨v, u, a, b, rfl, _⟩ := h
    rfl
  · obtain ⟨v, u, a, b, rfl, ha, hb, la16, lb16, q⟩ := h
    have hu := hr.units
    have hu1 := hu_of hr
    have zl := zl
    refine ⟨_, (pss_one (ps_ret (pe_tup (pa_cons (pe_str) (pa_cons (pe_callB (call_max2 rfl) (by rfl) m_max (by decide +kernel) (pa_cons (pe_ix ix_tup (pv 0) (pe_int) (fun _ _ => rfl)) (pa_cons (pe_ix ix_tup (pv 1) (pe_int) (fun _ _ => rfl)) pa_nil))) (pa_cons (pe_callTy call_tuple_of (by rfl) m_tuple (by decide +kernel) (pa_cons (pe_callB (GS.cr_sorted (T := (GS.etI P w)) rfl hu) (by rfl) m_sorted (by decide +kernel) (pa_cons (pe_op (GS.op_or (T := (GS.etI P w)) hu) (pe_callTy (GS.cr_set (T := (GS.etI P w)) rfl hu) (by rfl) m_set (by decide +kernel) (pa_cons (pe_ix ix_tup (pv 0) (pe_int) (fun _ _ => rfl)) pa_nil)) (pe_callTy (GS.cr_set (T := (GS.etI P w)) rfl hu) (by rfl) m_set (by decide +kernel) (pa_cons (pe_ix ix_tup (pv 1) (pe_int) (fun _ _ => rfl)) pa_nil))) pa_nil)) pa_nil)) pa_nil)))))), ?_⟩
    obtain ⟨la, ma, rfl, a1, a2⟩ := ha
    obtain ⟨lb, mb, rfl, b1, b2⟩ := hb
    refine ⟨_, rfl, la, _, 1, _, rfl, rfl, a1, atI_nat (j := 1) rfl, _, rfl, lb, _, 1, _, rfl, rfl, b1, atI_nat (j := 1) rfl, _, _, rfl, ?_⟩
    have ent : ∀ ms : List Nat, (ms.map fun m : Nat => (((m : Int), V.int (m : Int)) : Int × V)).map (·.2) = intV ms := fun ms => by
      rw [List.map_map]
      rfl
    have els : ∀ {H' : Hp} (ms : List Nat), GS.ElsAt (GS.etI P w) K H' (ms.map fun m : Nat => (((m : Int), V.int (m : Int)) : Int × V)) := fun {H'} ms e he => by
      obtain ⟨m, _, rfl⟩ := List.mem_map.mp he
      exact .int _
    have els2 : ∀ {H' : Hp} {ms ks : List Nat} {es : List (Int × V)}, (∀ e ∈ es, e ∈ (ms.map fun m : Nat => (((m : Int), V.int (m : Int)) : Int × V)) ++ (ks.map fun m : Nat => (((m : Int), V.int (m : Int)) : Int × V))) → GS.ElsAt (GS.etI P w) K H' es := fun {H' ms ks es} h e he => by
      rcases List.mem_append.mp (h e he) with z | z
      · exact els ms e z
      · exact els ks e z
    refine ⟨_, rfl, la, _, 2, _, rfl, rfl, a1, atI_nat (j := 2) rfl, ma, a.2.map fun m : Nat => (((m : Int), V.int (m : Int)) : Int × V), rfl, .inr (by rw [ent]; exact a2), els _, by rw [List.length_map]; omega, fun s1 es1 H1 k1 n1 e1 o1 => ?_⟩
    refine ⟨_, rfl, lb, _, 2, _, rfl, rfl, tup_same (Same.ns k1) b1, atI_nat (j := 2) rfl, mb, b.2.map fun m : Nat => (((m : Int), V.int (m : Int)) : Int × V), rfl, .inr (by rw [ent]; exact tup_same (Same.ns k1) b2), els _, by rw [List.length_map]; omega, fun s2 es2 H2 k2 n2 e2 o2 => ?_⟩
    have e12 := k2 _ _ e1
    have ne12 : s1 ≠ s2 := ne_of_none e1 n2
    have k02 := same_trans k1 k2
    have len1 : ∀ {ms : List Nat} {es : List (Int × V)}, GS.Out Int (ms.map fun m : Nat => (((m : Int), V.int (m : Int)) : Int × V)) es → es.length ≤ ms.length := fun {ms es} o => by
      have := nat_nodup_len (es.map (fun e => e.1.toNat)) ms (by
        refine List.pairwise_map.mpr (List.Pairwise.imp_of_mem (fun {x y} hx hy hne e => hne ?_) (List.pairwise_map.mp o.1))
        obtain ⟨m, _, rfl⟩ := List.mem_map.mp (o.2.1 x hx)
        obtain ⟨k, _, rfl⟩ := List.mem_map.mp (o.2.1 y hy)
        have e : ((m : Int)).toNat = ((k : Int)).toNat := e
        rw [Int.toNat_natCast, Int.toNat_natCast] at e
        show (m : Int) = (k : Int)
        rw [e]) fun x hx => by
        obtain ⟨e, he, rfl⟩ := List.mem_map.mp hx
        obtain ⟨m, hm, rfl⟩ := List.mem_map.mp (o.2.1 e he)
        show ((m : Int)).toNat ∈ ms
        rw [Int.toNat_natCast]
        exact hm
      rw [List.length_map] at this
      exact this
    have l1 := len1 o1
    have l2 := len1 o2
    refine ⟨s1, s2, es1, es2, rfl, rfl, ne12, e12, e2, fun e he => els _ e (o1.2.1 e he), fun e he => els _ e (o2.2.1 e he), by omega, fun s3 es3 H3 k3 n3 e3 o3 => ?_⟩
    have in3 : ∀ e ∈ es3, e ∈ (a.2.map fun m : Nat => (((m : Int), V.int (m : Int)) : Int × V)) ++ (b.2.map fun m : Nat => (((m : Int), V.int (m : Int)) : Int × V)) := fun e he => by
      rcases List.mem_append.mp (o3.2.1 e he) with z | z
      · exact List.mem_append_left _ (o1.2.1 e z)
      · exact List.mem_append_right _ (o2.2.1 e z)
    obtain ⟨al, so⟩ := able_I (fun e : Int × V => e.1) es3
    refine ⟨s3, es3, rfl, e3, els2 in3, al, so, fun p fs H4 k4 np e4 pf => ?_⟩
    have k3 : Same H H4 := same_trans (same_trans k02 k3) k4
    have pe : (GS.sortE PyData.int fs).Perm es3 := (GS.sortE_perm PyData.int fs).trans pf
    have e3 : H4 p = some (.lst ((GS.sortE PyData.int fs).map (·.2))) := e4
    clear e4 k4
    generalize GS.sortE PyData.int fs = gs at e3 pe
    have eg : gs.map (·.2) = intV (gs.map fun e => e.1.toNat) := by
      unfold intV
      rw [List.map_map]
      refine List.map_congr_left fun e he => ?_
      rcases List.mem_append.mp (in3 e (pe.mem_iff.mp he)) with z | z
      all_goals
        obtain ⟨m, _, rfl⟩ := List.mem_map.mp z
        show V.int (m : Int) = V.int (((m : Int).toNat : Nat) : Int)
        rw [Int.toNat_natCast]
    have mm : ∀ m, m ∈ (gs.map fun e => e.1.toNat) ↔ m ∈ a.2 ∨ m ∈ b.2 := fun m => by
      constructor
      · intro h
        obtain ⟨e, he, rfl⟩ := List.mem_map.mp h
        rcases List.mem_append.mp (in3 e (pe.mem_iff.mp he)) with z | z
        · obtain ⟨k, hk, rfl⟩ := List.mem_map.mp z
          left
          show ((k : Int)).toNat ∈ a.2
          rw [Int.toNat_natCast]
          exact hk
        · obtain ⟨k, hk, rfl⟩ := List.mem_map.mp z
          right
          show ((k : Int)).toNat ∈ b.2
          rw [Int.toNat_natCast]
          exact hk
      · intro h
        have : ((m : Int)) ∈ es3.map (·.1) := by
          rcases h with h | h
          · obtain ⟨e, he, ee⟩ := List.mem_map.mp (o1.2.2 _ (List.mem_map.mpr ⟨m, h, rfl⟩))
            have := o3.2.2 e (List.mem_append_left _ he)
            rw [show e.1 = (m : Int) from ee] at this
            exact this
          · obtain ⟨e, he, ee⟩ := List.mem_map.mp (o2.2.2 _ (List.mem_map.mpr ⟨m, h, rfl⟩))
            have := o3.2.2 e (List.mem_append_right _ he)
            rw [show e.1 = (m : Int) from ee] at this
            exact this
        obtain ⟨e, he, ee⟩ := List.mem_map.mp this
        refine List.mem_map.mpr ⟨e, pe.mem_iff.mpr he, ?_⟩
        rw [ee, Int.toNat_natCast]
    have lg : (gs.map fun e => e.1.toNat).length ≤ 32 := by
      rw [List.length_map, pe.length_eq]
      have := nat_nodup_len (es3.map (fun e => e.1.toNat)) (a.2 ++ b.2) (by
        refine List.pairwise_map.mpr (List.Pairwise.imp_of_mem (fun {x y} hx hy hne e => hne ?_) (List.pairwise_map.mp o3.1))
        have nn : ∀ e ∈ es3, ((e.1.toNat : Nat) : Int) = e.1 := fun e he => by
          rcases List.mem_append.mp (in3 e he) with z | z
          all_goals
            obtain ⟨m, _, rfl⟩ := List.mem_map.mp z
            show (((m : Int).toNat : Nat) : Int) = (m : Int)
            rw [Int.toNat_natCast]
        rw [← nn x hx, ← nn y hy, e]) fun x hx => by
        obtain ⟨e, he, rfl⟩ := List.mem_map.mp hx
        exact List.mem_append.mpr ((mm _).mp (List.mem_map.mpr ⟨e, pe.mem_iff.mpr he, rfl⟩))
      rw [List.length_map, List.length_append] at this
      omega
    rw [eg] at e3
    generalize (gs.map fun e => e.1.toNat) = cs at e3 mm lg
    refine ⟨p, _, rfl, .inl ⟨SqL.of e3, fun t nt => ⟨by show 3 ≤ sizeLine; omega, fun r nr => ?_⟩⟩⟩
    have emx : (if (b.1 : Int) > (a.1 : Int) then (b.1 : Int) else (a.1 : Int)) = ((max a.1 b.1 : Nat) : Int) := by
      split <;> omega
    rw [emx]
    exact q _ (.ref r) (max a.1 b.1, cs) (same_trans k3 (same_trans (same_new nt) (same_new nr))) ⟨r, t, rfl, SqT.of upd_same, SqT.of (same_new nr _ _ upd_same)⟩ rfl mm lg
def spCO (K : PySem.W.Frag) : Sp := fun vs H Q _ => ∃ (v u : V) (a b : Lab), vs = [v, u] ∧ LabAt K H v a ∧ LabAt K H u b ∧ a.2.length ≤ 1000 ∧ ∀ H' t, Same H H' → LabAt K H' t (min a.1 b.1, a.2.filter fun m => decide (m ∈ b.2)) → Q t H'
theorem ok_CO {f : Addr} {fd : FuncData} (F : Fun K "common" "common" sCO f fd)
    (m_min : mg "min" = none) (m_tuple : mg "tuple" = none) : FnOk P w K mg base CX0 1 f fd ["one", "other"] (spCO K) := by
  refine F.ok scCO (fun vs H Q E h => ?_) (fun cdv A outer s H vs Q E hr h => ?_)
  · obtain ⟨v, u, a, b, rfl, _⟩ := h
    rfl
  · obtain ⟨v, u, a, b, rfl, ha, hb, hl, q⟩ := h
    have hu := hr.units
    have hu1 := hu_of hr
    have zl := zl
    refine ⟨_, (pss_one (ps_ret (pe_tup (pa_cons (pe_str) (pa_cons (pe_callB (call_min2 rfl) (by rfl) m_min (by decide +kernel) (pa_cons (pe_ix ix_tup (pv 0) (pe_int) (fun _ _ => rfl)) (pa_cons (pe_ix ix_tup (pv 1) (pe_int) (fun _ _ => rfl)) pa_nil))) (pa_cons (pe_callTy call_tuple_of (by rfl) m_tuple (by decide +kernel) (pa_cons (pe_lc (own := [("mark", 2)]) (g := gName 2) (tt := tTest (tOp (rIn K false) (tVar 2) (tOp (rIxT K) (tVar 1) (tC (.int 2))))) (te := tVar 2) rfl scCO.nd (pi_tup (pe_ix ix_tup (pv 0) (pe_int) (fun _ _ => rfl))) (blkOk_by (N := nCO) (sc := defScope sCO) (by decide +kernel)) (fun _ _ _ _ _ => by exact pg_name (i := 2) scCO.nd rfl (.inl rfl)) (fun _ _ _ _ _ => by exact pts_one (pt_cmpR op_in_seq (pv 2) (pe_ix ix_tup (pv 1) (pe_int) (fun _ _ => rfl)) (by rfl))) (fun _ _ _ _ _ => by exact pv 2)) pa_nil)) pa_nil)))))), ?_⟩
    obtain ⟨la, ma, rfl, a1, a2⟩ := ha
    obtain ⟨lb, mb, rfl, b1, b2⟩ := hb
    refine ⟨_, rfl, la, _, 1, _, rfl, rfl, a1, atI_nat (j := 1) rfl, _, rfl, lb, _, 1, _, rfl, rfl, b1, atI_nat (j := 1) rfl, _, _, rfl, ?_⟩
    refine ⟨_, rfl, la, _, 2, _, rfl, rfl, a1, atI_nat (j := 2) rfl, ma, rfl, ⟨_, a2⟩, fun D nD => ?_⟩
    refine lc_tup (xs := intV a.2) (fun i H2 => Same H H2 ∧ H2 D = some (.lst (intV ((a.2.take i).filter fun m => decide (m ∈ b.2))))) ⟨same_new nD, upd_same⟩ ?_ ?_ ?_
    · rintro i H2 _ ⟨s2, _⟩
      exact tup_same (Same.ns s2) a2
    · rintro i y H2 hy ⟨s2, e2⟩
      obtain ⟨m, gm, rfl⟩ := getV hy
      have et : a.2.take (i + 1) = a.2.take i ++ [m] := by rw [List.take_add_one, gm]; rfl
      have li : ((a.2.take i).filter fun m => decide (m ∈ b.2)).length ≤ i := by
        have := List.length_filter_le (fun m => decide (m ∈ b.2)) (a.2.take i)
        rw [List.length_take] at this
        omega
      have lt : i < a.2.length := (List.getElem?_eq_some_iff.mp gm).1
      refine ⟨rfl, _, rfl, _, rfl, lb, _, 2, _, rfl, rfl, tup_same (Same.ns s2) b1, atI_nat (j := 2) rfl, mb, _, rfl, .inr (tup_same (Same.ns s2) b2), rfl, flat_ints _, _, rfl, ?_⟩
      rw [show (if false = true then !inV (V.int (m : Int)) (intV b.2) else inV (V.int (m : Int)) (intV b.2)) = decide (m ∈ b.2) from inV_ints m b.2]
      refine ite2 (fun h => ?_) (fun h => ?_)
      · have h := of_decide_eq_true h
        refine ⟨_, rfl, _, e2, by rw [intV_len]; omega, fun b' o e => ?_, ?_⟩
        · rw [upd_ne (ne_of_none e nD)]
          exact s2 _ _ e
        · rw [upd_same, et, List.filter_append]
          simp only [List.filter_cons, List.filter_nil, decide_eq_true h, if_true]
          unfold intV
          rw [List.map_append]
          rfl
      · refine ⟨s2, ?_⟩
        rw [e2, et, List.filter_append]
        simp only [List.filter_cons, List.filter_nil, if_neg h, List.append_nil]
    · rintro H2 ⟨s2, e2⟩
      rw [intV_len, List.take_length] at e2
      refine ⟨D, _, rfl, .inl ⟨SqL.of e2, fun t nt => ⟨by show 3 ≤ sizeLine; omega, fun r nr => ?_⟩⟩⟩
      have emx : (if (b.1 : Int) < (a.1 : Int) then (b.1 : Int) else (a.1 : Int)) = ((min a.1 b.1 : Nat) : Int) := by
        split <;> omega
      rw [emx]
      exact q _ (.ref r) (same_trans s2 (same_trans (same_new nt) (same_new nr))) ⟨r, t, rfl, SqT.of upd_same, SqT.of (same_new nr _ _ upd_same)⟩
def spLB (K : PySem.W.Frag) : Sp := fun vs H Q _ => ∃ (v u : V) (a b : Lab), vs = [v, u] ∧ LabAt K H v a ∧ LabAt K H u b ∧ a.2.length ≤ 1000 ∧ ∀ H', Same H H' → Q (.bl (belB a b)) H'
theorem ok_LB {f : Addr} {fd : FuncData} (F : Fun K "_law_below" "_law_below" sLB f fd)
    (m_len : mg "len" = none) : FnOk P w K mg base CX0 1 f fd ["one", "other"] (spLB K) := by
  refine F.ok scLB (fun vs H Q E h => ?_) (fun cdv A outer s H vs Q E hr h => ?_)
  · obtain ⟨v, u, a, b, rfl, _⟩ := h
    rfl
  · obtain ⟨v, u, a, b, rfl, ha, hb, hl, q⟩ := h
    have hu := hr.units
    have hu1 := hu_of hr
    have zl := zl
    refine ⟨_, (pss_one (ps_ret (pe_and (pe_cmpR op_le (pe_ix ix_tup (pv 0) (pe_int) (fun _ _ => rfl)) (pe_ix ix_tup (pv 1) (pe_int) (fun _ _ => rfl)) (nomark _)) (pe_one (pe_cmpR op_eq (pe_callB call_len_seq (by rfl) m_len PySem.boot_len (pa_cons (pe_lc (own := [("mark", 2)]) (g := gName 2) (tt := tTest (tOp (rIn K true) (tVar 2) (tOp (rIxT K) (tVar 1) (tC (.int 2))))) (te := tVar 2) rfl scLB.nd (pi_tup (pe_ix ix_tup (pv 0) (pe_int) (fun _ _ => rfl))) (blkOk_by (N := nLB) (sc := defScope sLB) (by decide +kernel)) (fun _ _ _ _ _ => by exact pg_name (i := 2) scLB.nd rfl (.inl rfl)) (fun _ _ _ _ _ => by exact pts_one (pt_cmpR op_notIn_seq (pv 2) (pe_ix ix_tup (pv 1) (pe_int) (fun _ _ => rfl)) (by rfl))) (fun _ _ _ _ _ => by exact pv 2)) pa_nil)) (pe_int) (nomark _)))))), ?_⟩
    obtain ⟨la, ma, rfl, a1, a2⟩ := ha
    obtain ⟨lb, mb, rfl, b1, b2⟩ := hb
    refine ⟨_, rfl, la, _, 1, _, rfl, rfl, a1, atI_nat (j := 1) rfl, _, rfl, lb, _, 1, _, rfl, rfl, b1, atI_nat (j := 1) rfl, _, _, rfl, rfl, _, rfl, ite2 (fun h1 => ?_) (fun h1 => ?_)⟩
    · have h1 : a.1 ≤ b.1 := by
        have := of_decide_eq_true h1
        omega
      refine ⟨_, rfl, la, _, 2, _, rfl, rfl, a1, atI_nat (j := 2) rfl, ma, rfl, ⟨_, a2⟩, fun D nD => ?_⟩
      refine lc_tup (xs := intV a.2) (fun i H2 => Same H H2 ∧ H2 D = some (.lst (intV ((a.2.take i).filter fun m => !decide (m ∈ b.2))))) ⟨same_new nD, upd_same⟩ ?_ ?_ ?_
      · rintro i H2 _ ⟨s2, _⟩
        exact tup_same (Same.ns s2) a2
      · rintro i y H2 hy ⟨s2, e2⟩
        obtain ⟨m, gm, rfl⟩ := getV hy
        have et : a.2.take (i + 1) = a.2.take i ++ [m] := by rw [List.take_add_one, gm]; rfl
        have li : ((a.2.take i).filter fun m => !decide (m ∈ b.2)).length ≤ i := by
          have := List.length_filter_le (fun m => !decide (m ∈ b.2)) (a.2.take i)
          rw [List.length_take] at this
          omega
        have lt : i < a.2.length := (List.getElem?_eq_some_iff.mp gm).1
        refine ⟨rfl, _, rfl, _, rfl, lb, _, 2, _, rfl, rfl, tup_same (Same.ns s2) b1, atI_nat (j := 2) rfl, mb, _, rfl, .inr (tup_same (Same.ns s2) b2), rfl, flat_ints _, _, rfl, ?_⟩
        rw [show (if true = true then !inV (V.int (m : Int)) (intV b.2) else inV (V.int (m : Int)) (intV b.2)) = !decide (m ∈ b.2) from congrArg not (inV_ints m b.2)]
        refine ite2 (fun h => ?_) (fun h => ?_)
        · refine ⟨_, rfl, _, e2, by rw [intV_len]; omega, fun b' o e => ?_, ?_⟩
          · rw [upd_ne (ne_of_none e nD)]
            exact s2 _ _ e
          · rw [upd_same, et, List.filter_append]
            simp only [List.filter_cons, List.filter_nil, if_pos h]
            unfold intV
            rw [List.map_append]
            rfl
        · refine ⟨s2, ?_⟩
          rw [e2, et, List.filter_append]
          simp only [List.filter_cons, List.filter_nil, if_neg h, List.append_nil]
      · rintro H2 ⟨s2, e2⟩
        rw [intV_len, List.take_length] at e2
        refine ⟨D, _, rfl, .inl (SqL.of e2), rfl, ?_⟩
        have := q H2 s2
        rw [show belB a b = decide (V.int ((intV (a.2.filter fun m => !decide (m ∈ b.2))).length : Int) = V.int 0) by
          rw [intV_len, Bool.eq_iff_iff, bel_iff, decide_eq_true_eq]
          have e0 : V.int (((a.2.filter fun m => !decide (m ∈ b.2)).length : Nat) : Int) = V.int 0 ↔ (a.2.filter fun m => !decide (m ∈ b.2)) = [] := by
            rw [← List.length_eq_zero_iff]
            constructor
            · intro z
              have := V.int.inj z
              omega
            · intro z
              rw [z]
              rfl
          rw [e0, List.filter_eq_nil_iff]
          simp only [h1, true_and]
          constructor
          · intro z m hm
            simp [z m hm]
          · intro z m hm
            have := z m hm
            simpa using this] at this
        exact this
    · have h1 : ¬ a.1 ≤ b.1 := fun z => h1 (decide_eq_true (by omega))
      have := q H same_refl
      rw [show belB a b = false from Bool.eq_false_iff.mpr fun z => h1 (bel_iff.mp z).1] at this
      exact this
end
end K50
namespace K50
open PySem PySem.Spec PyProof.Rows L2 TR QR
open GxR (TabB TabG Tabbed)
abbrev sAN : Stmt := topS 11
abbrev nAN : List Str := ["state", "mark"]
theorem scAN : FnScope nAN ["state"] (defScope sAN) := ⟨rfl, rfl, rfl, by decide +kernel, rfl, by decide +kernel, by decide +kernel⟩
abbrev sNE : Stmt := topS 13
abbrev nNE : List Str := ["label", "found", "mark", "marks", "each"]
theorem scNE : FnScope nNE ["label"] (defScope sNE) := ⟨rfl, rfl, rfl, by decide +kernel, rfl, by decide +kernel, by decide +kernel⟩
section
variable {P : Program} {w : World} {K : PySem.W.Frag} {mg : Str → Option Value} {base : Heap}
theorem Dr.ns {p c : Addr} {H H' : Hp} (st : StateAt H p c) (d : Dr p c H H') {K : PySem.W.Frag} {v : V} {l : Lab} (h : LabAt K H v l) : LabAt K H' v l := by
  obtain ⟨la, ma, e, a, b⟩ := h
  obtain ⟨⟨_, e1⟩, ⟨_, e2⟩⟩ := st.some
  have key : ∀ {x : Addr} {xs : List V}, SqT K H x xs → SqT K H' x xs := fun {x xs} h => by
    rcases h with (h | ⟨o, h⟩) | h
    · exact .inl (.inl (d.ou _ _ (fun z => by rw [z, e1] at h; cases h) (fun z => by rw [z, e2] at h; cases h) h))
    · exact .inl (.inr ⟨o, d.ou _ _ (fun z => by rw [z, e1] at h; cases h) (fun z => by rw [z, e2] at h; cases h) h⟩)
    · exact .inr h
  exact ⟨la, ma, e, key a, key b⟩
def spAN (K : PySem.W.Frag) : Sp := fun vs H Q _ => ∃ (p c : Addr), vs = [.ref p] ∧ StateAt H p c ∧ ∀ H' t l, Dr p c H H' → LabAt K H' t l → l.1 < 8 → l.2.length ≤ 6 → (∀ m ∈ l.2, m < 6) → Q t H'
theorem ok_AN {f fT : Addr} {fd fdT : FuncData} (F : Fun K "_law_any" "_law_any" sAN f fd)
    (GT : FnOk P w K mg base CX0 1 fT fdT ["state", "most"] spTake) (bT : Binds K fdT ["state", "most"] []) (gT : mg "_law_take" = some (.ref fT)) (kT : PySem.W.keepIn K (.ref fT) = true)
    (m_range : mg "range" = none) (m_tuple : mg "tuple" = none) : FnOk P w K mg base CX0 2 f fd ["state"] (spAN K) := by
  refine F.ok scAN (fun vs H Q E h => ?_) (fun cdv A outer s H vs Q E hr h => ?_)
  · obtain ⟨p, c, rfl, _⟩ := h
    rfl
  · obtain ⟨p, c, rfl, st, q⟩ := h
    have hu := hr.units
    have hu1 := hu_of hr
    have hr1 : Room 1 _ := hr.mono (by decide)
    have zl := zl
    refine ⟨_, (pss_one (ps_ret (pe_tup (pa_cons (pe_str) (pa_cons (pe_call GT hr1 (by rfl) gT kT bT .nil pass0 (pa_cons (pv 0) (pa_cons (pe_int) pa_nil))) (pa_cons (pe_callTy call_tuple_of (by rfl) m_tuple (by decide +kernel) (pa_cons (pe_lc (own := [("mark", 1)]) (g := gName 1) (tt := tTest (tOp rEq (tCall spTake [] E0 (tCons (tVar 0) (tCons (tC (.int 2)) tNil))) (tC (.int 0)))) (te := tVar 1) rfl scAN.nd (pi_range1 (by rfl) m_range (pa_cons (pe_int) pa_nil)) (blkOk_by (N := nAN) (sc := defScope sAN) (by decide +kernel)) (fun _ _ _ _ _ => by exact pg_name (i := 1) scAN.nd rfl (.inl rfl)) (fun _ _ _ _ _ => by exact pts_one (pt_cmpR op_eq (pe_call GT hr1 (by rfl) gT kT bT .nil pass0 (pa_cons (pv 0) (pa_cons (pe_int) pa_nil))) (pe_int) (nomark _))) (fun _ _ _ _ _ => by exact pv 1)) pa_nil)) pa_nil)))))), ?_⟩
    refine ⟨_, rfl, p, c, 8, rfl, by decide, st, fun H1 lv _ llv st1 d1 => ?_⟩
    have llv := llv (by decide)
    have dr1 : Dr p c H H1 := (Dr.refl st).drawn st1 d1
    refine ⟨_, rfl, by decide, by decide, fun D nD => ?_⟩
    have nD0 := dr1.none nD
    have nDp := st.new nD0
    refine lc_range (lo := 0) (n := 6) (fun k H3 => Dr p c H H3 ∧ ∃ ms : List Nat, ms.length ≤ k ∧ (∀ m ∈ ms, m < 6) ∧ H3 D = some (.lst (intV ms))) ⟨dr1.same (same_new nD), [], Nat.zero_le _, (fun m hm => nomatch hm), upd_same⟩ ?_ ?_
    · rintro k H3 hk ⟨dr3, ms, lm, sm, eD⟩
      refine ⟨rfl, _, rfl, p, c, 2, rfl, by decide, dr3.st, fun H4 r _ lr st4 d4 => ⟨rfl, _, rfl, ?_⟩⟩
      have dr4 := dr3.drawn st4 d4
      have eD4 := (d4 D nDp.1 nDp.2).trans eD
      refine ite2 (fun h => ?_) (fun h => ?_)
      · refine ⟨_, rfl, _, eD4, by rw [intV_len]; omega, ⟨dr4.st.upd nDp, fun b' o n1 n2 e => ?_⟩, ms ++ [k], by rw [List.length_append]; exact Nat.succ_le_succ lm, fun m hm => ?_, ?_⟩
        · rw [upd_ne (ne_of_none e nD0)]
          exact dr4.ou b' o n1 n2 e
        · rcases List.mem_append.mp hm with z | z
          · exact sm m z
          · rw [List.mem_singleton.mp z]
            omega
        · rw [upd_same]
          unfold intV
          rw [List.map_append]
          simp
      · exact ⟨dr4, ms, by omega, sm, eD4⟩
    · rintro H3 ⟨dr3, ms, lm, sm, eD⟩
      refine ⟨D, _, rfl, .inl ⟨SqL.of eD, fun t nt => ⟨by show 3 ≤ sizeLine; omega, fun r nr => ?_⟩⟩⟩
      exact q _ (.ref r) (lv, ms) (dr3.same (same_trans (same_new nt) (same_new nr))) ⟨r, t, rfl, SqT.of upd_same, SqT.of (same_new nr _ _ upd_same)⟩ llv lm sm
def LabsIn (K : PySem.W.Frag) (H : Hp) (xs : List V) : Prop := ∀ x ∈ xs, ∃ l, LabAt K H x l ∧ l.2.length ≤ 101
theorem LabsIn.same {K : PySem.W.Frag} {H H' : Hp} {xs : List V} (h : LabsIn K H xs) (s : ∀ v l, LabAt K H v l → LabAt K H' v l) : LabsIn K H' xs := fun x hx => by
  obtain ⟨l, a, b⟩ := h x hx
  exact ⟨l, s _ _ a, b⟩
def spNE (K : PySem.W.Frag) : Sp := fun vs H Q _ => ∃ (v : V) (a : Lab), vs = [v] ∧ LabAt K H v a ∧ a.2.length ≤ 100 ∧ ∀ H' D xs, Same H H' → H' D = some (.lst xs) → LabsIn K H' xs → Q (.ref D) H'
theorem ok_NE {f : Addr} {fd : FuncData} (F : Fun K "_law_near" "_law_near" sNE f fd)
    (m_range : mg "range" = none) (m_max : mg "max" = none) (m_min : mg "min" = none) (m_tuple : mg "tuple" = none) (m_sorted : mg "sorted" = none) : FnOk P w K mg base CX0 1 f fd ["label"] (spNE K) := by
  refine F.ok scNE (fun vs H Q E h => ?_) (fun cdv A outer s H vs Q E hr h => ?_)
  · obtain ⟨v, a, rfl, _⟩ := h
    rfl
  · obtain ⟨v, a, rfl, ha, hl, q⟩ := h
    have hu := hr.units
    have hu1 := hu_of hr
    have zl := zl
    refine ⟨_, (pss_cons (ps_set (i := 1) scNE.nd rfl (.inl rfl) (pe_lst (pa_cons (pv 0) pa_nil)))
      (pss_cons (ps_for PassesOwn.never rfl (pi_range1 (by rfl) m_range (pa_cons (pe_int) pa_nil)) (pg_name (i := 2) scNE.nd rfl (.inr rfl))
      (pss_cons (ps_setLc (i := 3) (own := [("each", 4)]) (g := gName 4) (tt := tTest (tOp rNe (tVar 4) (tVar 2))) (te := tVar 4) rfl scNE.nd rfl rfl (sw_true rfl rfl rfl (by decide +kernel)) (pi_tup (pe_ix ix_tup (pv 0) (pe_int) (fun _ _ => rfl))) (blkOk_by (N := nNE) (sc := defScope sNE) (by decide +kernel)) (fun _ _ _ _ _ => by exact pg_name (i := 4) scNE.nd rfl (.inl rfl)) (fun _ _ _ _ _ => by exact pts_one (pt_cmpR op_ne (pv 4) (pv 2) (nomark _))) (fun _ _ _ _ _ => by exact pv 4))
      (pss_cons (ps_expr (pe_bm PySem.F.plainAttrs_list PySem.F.slot_list_append PySem.F.type_list_append mt_append (pv 1) (pa_cons (pe_tup (pa_cons (pe_str) (pa_cons (pe_ix ix_tup (pv 0) (pe_int) (fun _ _ => rfl)) (pa_cons (pe_callTy call_tuple_of (by rfl) m_tuple (by decide +kernel) (pa_cons (pv 3) pa_nil)) pa_nil)))) pa_nil)))
      (pss_one (ps_expr (pe_bm PySem.F.plainAttrs_list PySem.F.slot_list_append PySem.F.type_list_append mt_append (pv 1) (pa_cons (pe_tup (pa_cons (pe_str) (pa_cons (pe_ix ix_tup (pv 0) (pe_int) (fun _ _ => rfl)) (pa_cons (pe_callTy call_tuple_of (by rfl) m_tuple (by decide +kernel) (pa_cons (pe_callB cr_sortedI (by rfl) m_sorted (by decide +kernel) (pa_cons (pe_op op_cat (pv 3) (pe_lst (pa_cons (pv 2) pa_nil))) pa_nil)) pa_nil)) pa_nil)))) pa_nil)))))))
      (pss_one (ps_ret (pe_op op_cat (pv 1) (pe_lst (pa_cons (pe_tup (pa_cons (pe_str) (pa_cons (pe_callB (call_max2 rfl) (by rfl) m_max (by decide +kernel) (pa_cons (pe_int) (pa_cons (pe_op op_sub (pe_ix ix_tup (pv 0) (pe_int) (fun _ _ => rfl)) (pe_int)) pa_nil))) (pa_cons (pe_ix ix_tup (pv 0) (pe_int) (fun _ _ => rfl)) pa_nil)))) (pa_cons (pe_tup (pa_cons (pe_str) (pa_cons (pe_callB (call_min2 rfl) (by rfl) m_min (by decide +kernel) (pa_cons (pe_int) (pa_cons (pe_op op_add (pe_ix ix_tup (pv 0) (pe_int) (fun _ _ => rfl)) (pe_int)) pa_nil))) (pa_cons (pe_ix ix_tup (pv 0) (pe_int) (fun _ _ => rfl)) pa_nil)))) pa_nil)))))))), ?_⟩
    obtain ⟨la, ma, rfl, a1, a2⟩ := ha
    refine ⟨_, rfl, by show 1 ≤ sizeLine; omega, fun F nF => ?_⟩
    have s0 : Same H (upd H F (.lst [.ref la])) := same_new nF
    have e0 : (upd H F (.lst [.ref la])) F = some (.lst [.ref la]) := upd_same
    generalize upd H F (.lst [.ref la]) = H1 at s0 e0
    refine ⟨_, rfl, by decide, by decide, for_range (lo := 0) (n := 6) (fun i σ H' => ∃ (y2 y3 y4 : Option V) (xs : List V), σ = [some (.ref la), some (.ref F), y2, y3, y4] ∧ Same H H' ∧ H' F = some (.lst xs) ∧ xs.length ≤ 2 * i + 1 ∧ LabsIn K H' xs)
      ⟨none, none, none, _, rfl, s0, e0, Nat.le_refl _, fun x hx => ⟨a, by rw [List.mem_singleton.mp hx]; exact ⟨la, ma, rfl, tup_same (Same.ns s0) a1, tup_same (Same.ns s0) a2⟩, by omega⟩⟩ ?_ ?_⟩
    · rintro i σ H2 hi ⟨y2, y3, y4, xs, rfl, s2, eF, lx, hx⟩
      dsimp only [tNext, tSeq, tIfS, tAsg, gName, tC]
      refine ⟨_, rfl, la, _, 2, _, rfl, rfl, tup_same (Same.ns s2) a1, atI_nat (j := 2) rfl, ma, rfl, ⟨_, tup_same (Same.ns s2) a2⟩, fun D nD => ?_⟩
      have nF0 : F ≠ D := ne_of_none eF nD
      have s02 : Same H2 (upd H2 D (.lst (intV []))) := same_new nD
      refine lc_tup (xs := intV a.2) (fun k H3 => Same H2 H3 ∧ ∃ ms : List Nat, ms.length ≤ k ∧ H3 D = some (.lst (intV ms))) ⟨s02, [], Nat.zero_le _, upd_same⟩ ?_ ?_ ?_
      · rintro k H3 _ ⟨s3, _⟩
        exact tup_same (Same.ns (same_trans s2 s3)) a2
      · rintro k y H3 hy ⟨s3, ms, lm, eD⟩
        obtain ⟨m, gm, rfl⟩ := getV hy
        have lt : k < a.2.length := (List.getElem?_eq_some_iff.mp gm).1
        refine ⟨rfl, _, rfl, _, rfl, rfl, _, rfl, ite2 (fun h => ?_) (fun h => ?_)⟩
        · refine ⟨_, rfl, _, eD, by rw [intV_len]; omega, fun b' o e => ?_, ms ++ [m], by rw [List.length_append]; exact Nat.succ_le_succ lm, ?_⟩
          · rw [upd_ne (ne_of_none e nD)]
            exact s3 _ _ e
          · rw [upd_same]
            unfold intV
            rw [List.map_append]
            rfl
        · exact ⟨s3, ms, by omega, eD⟩
      · rintro H3 ⟨s3, ms, lm, eD⟩
        rw [intV_len] at lm
        have eF3 := s3 _ _ eF
        have s03 := same_trans s2 s3
        -- one more label is put at the end of the list
        have put : ∀ {H4 : Hp} {xs4 : List V} {t r : Addr} {ks : List Nat}, Same H H4 → H4 F = some (.lst xs4) → LabsIn K H4 xs4 → H4 r = some (.tup [.str "label", .int (a.1 : Int), .ref t]) → H4 t = some (.tup (intV ks)) → ks.length ≤ 101 →
            Same H (upd H4 F (.lst (xs4 ++ [.ref r]))) ∧ LabsIn K (upd H4 F (.lst (xs4 ++ [.ref r]))) (xs4 ++ [.ref r]) := fun {H4 xs4 t r ks} s4 e4 h4 er et lk => by
          have nr : r ≠ F := fun z => by rw [z, e4] at er; cases er
          have nt : t ≠ F := fun z => by rw [z, e4] at et; cases et
          have tups : ∀ v l, LabAt K H4 v l → LabAt K (upd H4 F (.lst (xs4 ++ [.ref r]))) v l := fun v l h => by
            obtain ⟨x, y, e, p1, p2⟩ := h
            have key : ∀ {x : Addr} {xs : List V}, SqT K H4 x xs → SqT K (upd H4 F (.lst (xs4 ++ [.ref r]))) x xs := fun {x xs} h => by
              have ne : ∀ {o : HO}, H4 x = some o → (∀ ys, o ≠ .lst ys) → (upd H4 F (.lst (xs4 ++ [.ref r]))) x = some o := fun {o} e n => by
                rw [upd_ne (fun z => by rw [z, e4] at e; exact n _ (Option.some.inj e).symm)]
                exact e
              rcases h with (h | ⟨o, h⟩) | h
              · exact .inl (.inl (ne h fun ys z => nomatch z))
              · exact .inl (.inr ⟨o, ne h fun ys z => nomatch z⟩)
              · exact .inr h
            exact ⟨x, y, e, key p1, key p2⟩
          refine ⟨same_upd nF s4, fun x hx => ?_⟩
          rcases List.mem_append.mp hx with z | z
          · obtain ⟨l, p1, p2⟩ := h4 x z
            exact ⟨l, tups _ _ p1, p2⟩
          · rw [List.mem_singleton.mp z]
            exact ⟨(a.1, ks), tups _ _ ⟨r, t, rfl, SqT.of er, SqT.of et⟩, lk⟩
        have ns3 := Same.ns s03
        refine ⟨_, rfl, .inl ⟨rfl, _, SqL.of eF3⟩, _, rfl, la, _, 1, _, rfl, rfl, tup_same ns3 a1, atI_nat (j := 1) rfl, _, rfl, D, _, rfl, .inl ⟨SqL.of eD, fun t nt => ⟨by show 3 ≤ sizeLine; omega, fun r nr => ?_⟩⟩⟩
        have k4 : Same H3 (upd (upd H3 t (.tup (intV ms))) r (.tup [.str "label", .int (a.1 : Int), .ref t])) := same_trans (same_new nt) (same_new nr)
        have er := upd_same (H := upd H3 t (.tup (intV ms))) (a := r) (o := .tup [.str "label", .int (a.1 : Int), .ref t])
        have et : (upd (upd H3 t (.tup (intV ms))) r (.tup [.str "label", .int (a.1 : Int), .ref t])) t = some (.tup (intV ms)) := same_new nr _ _ upd_same
        have eF4 := k4 _ _ eF3
        have eD4 := k4 _ _ eD
        obtain ⟨p1, p2⟩ := put (same_trans s03 k4) eF4 (hx.same fun v l h => h.same (same_trans s3 k4)) er et (by omega)
        refine ⟨F, _, _, rfl, rfl, eF4, by omega, ?_⟩
        have eF5 : (upd (upd (upd H3 t (.tup (intV ms))) r (.tup [.str "label", .int (a.1 : Int), .ref t])) F (.lst (xs ++ [.ref r]))) F = some (.lst (xs ++ [.ref r])) := upd_same
        have eD5 : (upd (upd (upd H3 t (.tup (intV ms))) r (.tup [.str "label", .int (a.1 : Int), .ref t])) F (.lst (xs ++ [.ref r]))) D = some (.lst (intV ms)) := by
          rw [upd_ne (Ne.symm nF0)]
          exact eD4
        generalize upd (upd (upd H3 t (.tup (intV ms))) r (.tup [.str "label", .int (a.1 : Int), .ref t])) F (.lst (xs ++ [.ref r])) = H5 at p1 p2 eF5 eD5
        refine ⟨_, rfl, .inl ⟨rfl, _, SqL.of eF5⟩, _, rfl, la, _, 1, _, rfl, rfl, tup_same (Same.ns p1) a1, atI_nat (j := 1) rfl, _, rfl, _, rfl, by show 1 ≤ sizeLine; omega, fun b nb => ?_⟩
        have eb := upd_same (H := H5) (a := b) (o := .lst [.int ((0 : Int) + (i : Int))])
        have s5 : Same H5 (upd H5 b (.lst [.int ((0 : Int) + (i : Int))])) := same_new nb
        refine ⟨D, b, _, _, rfl, rfl, s5 _ _ eD5, eb, by rw [intV_len]; show ms.length + 1 ≤ sizeLine; omega, fun d nd => ?_⟩
        have ed := upd_same (H := upd H5 b (.lst [.int ((0 : Int) + (i : Int))])) (a := d) (o := .lst (intV ms ++ [.int ((0 : Int) + (i : Int))]))
        have s6 := same_trans s5 (same_new (o := .lst (intV ms ++ [.int ((0 : Int) + (i : Int))])) nd)
        rw [show intV ms ++ [V.int ((0 : Int) + (i : Int))] = ((ms ++ [i]).map fun m : Nat => (m : Int)).map V.int by unfold intV; rw [List.map_map, List.map_append]; simp] at ed s6 ⊢
        refine ⟨d, _, rfl, SqL.of ed, fun ns p pm pw np => ?_⟩
        obtain ⟨ks, ek⟩ : ∃ ks : List Nat, ns = ks.map fun m : Nat => (m : Int) := by
          refine ⟨ns.map Int.toNat, ?_⟩
          rw [List.map_map]
          refine (List.map_id _).symm.trans (List.map_congr_left fun x hx => ?_)
          obtain ⟨m, _, rfl⟩ := List.mem_map.mp (pm.mem_iff.mp hx)
          rfl
        have lks : ks.length ≤ 101 := by
          have := pm.length_eq
          rw [ek, List.length_map, List.length_map, List.length_append] at this
          simp at this
          omega
        subst ek
        have ep := upd_same (H := upd (upd H5 b (.lst [.int ((0 : Int) + (i : Int))])) d (.lst (((ms ++ [i]).map fun m : Nat => (m : Int)).map V.int))) (a := p) (o := .lst ((ks.map fun m : Nat => (m : Int)).map V.int))
        have s7 := same_trans s6 (same_new (o := .lst ((ks.map fun m : Nat => (m : Int)).map V.int)) np)
        rw [show (ks.map fun m : Nat => (m : Int)).map V.int = intV ks by unfold intV; rw [List.map_map]; rfl] at ep s7 ⊢
        refine ⟨p, _, rfl, .inl ⟨SqL.of ep, fun t2 nt2 => ⟨by show 3 ≤ sizeLine; omega, fun r2 nr2 => ?_⟩⟩⟩
        have s8 := same_trans s7 (same_trans (same_new (o := .tup (intV ks)) nt2) (same_new (o := .tup [.str "label", .int (a.1 : Int), .ref t2]) nr2))
        have er2 := upd_same (H := upd (upd (upd (upd H5 b (.lst [.int ((0 : Int) + (i : Int))])) d (.lst (((ms ++ [i]).map fun m : Nat => (m : Int)).map V.int))) p (.lst (intV ks))) t2 (.tup (intV ks))) (a := r2) (o := .tup [.str "label", .int (a.1 : Int), .ref t2])
        have et2 := same_new (o := .tup [.str "label", .int (a.1 : Int), .ref t2]) nr2 _ _ (upd_same (a := t2) (o := .tup (intV ks)))
        have eF8 := s8 _ _ eF5
        obtain ⟨q1, q2⟩ := put (same_trans p1 s8) eF8 (p2.same fun v l h => h.same s8) er2 et2 lks
        refine ⟨F, _, _, rfl, rfl, eF8, by rw [List.length_append]; show xs.length + 1 < sizeLine; omega, ?_⟩
        exact ⟨_, _, _, _, rfl, q1, upd_same, by rw [List.length_append, List.length_append]; show xs.length + 1 + 1 ≤ _; omega, q2⟩
    · rintro σ H2 ⟨y2, y3, y4, xs, rfl, s2, eF, lx, hx⟩
      have ns2 := Same.ns s2
      refine ⟨_, rfl, _, rfl, la, _, 1, _, rfl, rfl, tup_same ns2 a1, atI_nat (j := 1) rfl, _, _, rfl, rfl, _, _, rfl, _, rfl, la, _, 2, _, rfl, rfl, tup_same ns2 a1, atI_nat (j := 2) rfl, by show 3 ≤ sizeLine; omega, fun r1 n1 => ?_⟩
      have ea : (if (a.1 : Int) - 1 > 0 then (a.1 : Int) - 1 else 0) = ((a.1 - 1 : Nat) : Int) := by
        split <;> omega
      rw [ea]
      have k1 := same_trans s2 (same_new (o := .tup [.str "label", .int ((a.1 - 1 : Nat) : Int), .ref ma]) n1)
      refine ⟨_, rfl, la, _, 1, _, rfl, rfl, tup_same (Same.ns k1) a1, atI_nat (j := 1) rfl, _, _, rfl, rfl, _, _, rfl, _, rfl, la, _, 2, _, rfl, rfl, tup_same (Same.ns k1) a1, atI_nat (j := 2) rfl, by show 3 ≤ sizeLine; omega, fun r2 n2 => ?_⟩
      have eb : (if (a.1 : Int) + 1 < 7 then (a.1 : Int) + 1 else 7) = ((min 7 (a.1 + 1) : Nat) : Int) := by
        split <;> omega
      rw [eb]
      have k12 := same_new (o := .tup [.str "label", .int ((min 7 (a.1 + 1) : Nat) : Int), .ref ma]) n2
      have k2 := same_trans k1 k12
      refine ⟨by show 2 ≤ sizeLine; omega, fun b nb => ?_⟩
      have k3 := same_trans k2 (same_new (o := .lst [.ref r1, .ref r2]) nb)
      have eF3 := same_new (o := .lst [.ref r1, .ref r2]) nb _ _ (k12 _ _ (same_new (o := .tup [.str "label", .int ((a.1 - 1 : Nat) : Int), .ref ma]) n1 _ _ eF))
      refine ⟨F, b, _, _, rfl, rfl, eF3, upd_same, by show xs.length + 2 ≤ sizeLine; omega, fun d nd => ?_⟩
      have k4 := same_trans k3 (same_new (o := .lst (xs ++ [.ref r1, .ref r2])) nd)
      refine q _ d _ k4 upd_same fun x hxm => ?_
      rcases List.mem_append.mp hxm with z | z
      · obtain ⟨l, p1, p2⟩ := hx x z
        refine ⟨l, p1.same ?_, p2⟩
        exact same_trans (same_new (o := .tup [.str "label", .int ((a.1 - 1 : Nat) : Int), .ref ma]) n1) (same_trans k12 (same_trans (same_new nb) (same_new nd)))
      · rcases List.mem_cons.mp z with z | z
        · rw [z]
          exact ⟨(a.1 - 1, a.2), ⟨r1, ma, rfl, SqT.of (same_new nd _ _ (same_new nb _ _ (k12 _ _ upd_same))), tup_same (Same.ns k4) a2⟩, by show a.2.length ≤ 101; omega⟩
        · rw [List.mem_singleton.mp z]
          exact ⟨(min 7 (a.1 + 1), a.2), ⟨r2, ma, rfl, SqT.of (same_new nd _ _ (same_new nb _ _ upd_same)), tup_same (Same.ns k4) a2⟩, by show a.2.length ≤ 101; omega⟩
end
end K50
namespace K50
open PySem PySem.Spec PyProof.Rows L2 TR QR
open GxR (TabB TabG Tabbed)
abbrev sPA : Stmt := topS 14
abbrev nPA : List Str := ["one", "other", "high", "low", "label"]
theorem scPA : FnScope nPA ["one", "other"] (defScope sPA) := ⟨rfl, rfl, rfl, by decide +kernel, rfl, by decide +kernel, by decide +kernel⟩
section
variable {P : Program} {w : World} {K : PySem.W.Frag} {mg : Str → Option Value} {base : Heap}
theorem Tb.same {T : Addr} {H H1 H2 : Hp} (a : Tb T H H1) (s : Same H1 H2) : Tb T H H2 := ⟨fun b o n e => s _ _ (a.sm b o n e), tab_same a.tg s⟩
theorem Tb.trans {T : Addr} {H H1 H2 : Hp} (a : Tb T H H1) (s : Tb T H1 H2) : Tb T H H2 := ⟨fun b o n e => s.sm _ _ n (a.sm b o n e), s.tg⟩
theorem LabsIn.same' {K : PySem.W.Frag} {H H' : Hp} {xs : List V} (h : LabsIn K H xs) (s : Same H H') : LabsIn K H' xs := h.same fun v l z => z.same s
def spPA (K : PySem.W.Frag) (T : Addr) : Sp := fun vs H Q _ => ∃ (v u : V) (a b : Lab), vs = [v, u] ∧ LabAt K H v a ∧ LabAt K H u b ∧ a.2.length ≤ 16 ∧ b.2.length ≤ 16 ∧ TabG H T ∧ ∀ H', Tb T H H' → Q (.bl true) H'
theorem tNot_t {t : TT} {σ : L2.St} {H : Hp} {Q : Bool → Hp → Prop} (h : t σ H fun b H' => Q (!b) H') : tNot t σ H Q := h
theorem ok_PA {f fNE fJO fCO fIB fLB : Addr} {fd fdNE fdJO fdCO fdIB fdLB : FuncData} (F : Fun K "_law_pair" "_law_pair" sPA f fd)
    (GNE : FnOk P w K mg base CX0 1 fNE fdNE ["label"] (spNE K)) (bNE : Binds K fdNE ["label"] []) (gNE : mg "_law_near" = some (.ref fNE)) (kNE : PySem.W.keepIn K (.ref fNE) = true)
    (GJO : FnOk P w K mg base CX0 1 fJO fdJO ["one", "other"] (spJO K)) (bJO : Binds K fdJO ["one", "other"] []) (gJO : mg "joined" = some (.ref fJO)) (kJO : PySem.W.keepIn K (.ref fJO) = true)
    (GCO : FnOk P w K mg base CX0 1 fCO fdCO ["one", "other"] (spCO K)) (bCO : Binds K fdCO ["one", "other"] []) (gCO : mg "common" = some (.ref fCO)) (kCO : PySem.W.keepIn K (.ref fCO) = true)
    (GIB : FnOk P w K mg base CX0 2 fIB fdIB ["one", "other"] (spIB K T1)) (bIB : Binds K fdIB ["one", "other"] []) (gIB : mg "is_below" = some (.ref fIB)) (kIB : PySem.W.keepIn K (.ref fIB) = true)
    (GLB : FnOk P w K mg base CX0 1 fLB fdLB ["one", "other"] (spLB K)) (bLB : Binds K fdLB ["one", "other"] []) (gLB : mg "_law_below" = some (.ref fLB)) (kLB : PySem.W.keepIn K (.ref fLB) = true)
    (m_repr : mg "repr" = none) : FnOk P w K mg base CX0 3 f fd ["one", "other"] (spPA K T1) := by
  refine F.ok scPA (fun vs H Q E h => ?_) (fun cdv A outer s H vs Q E hr h => ?_)
  · obtain ⟨v, u, a, b, rfl, _⟩ := h
    rfl
  · obtain ⟨v, u, a, b, rfl, ha, hb, la, lb, hT, q⟩ := h
    have hu := hr.units
    have hu1 := hu_of hr
    have hr1 : Room 1 _ := hr.mono (by decide)
    have hr2 : Room 2 _ := hr.mono (by decide)
    have zl := zl
    refine ⟨_, (pss_cons (ps_par (i := 2) (j := 3) (by rfl) scPA.nd rfl rfl (by decide) rfl rfl (pa_cons (pe_call GJO hr1 (by rfl) gJO kJO bJO .nil pass0 (pa_cons (pv 0) (pa_cons (pv 1) pa_nil))) (pa_cons (pe_call GCO hr1 (by rfl) gCO kCO bCO .nil pass0 (pa_cons (pv 0) (pa_cons (pv 1) pa_nil))) pa_nil)) (by rfl))
      (pss_cons (ps_if (pt_cmpR op_ne (pe_callB GX.cr_reprB (by rfl) m_repr (by decide +kernel) (pa_cons (pe_call GIB hr2 (by rfl) gIB kIB bIB .nil pass0 (pa_cons (pv 0) (pa_cons (pv 1) pa_nil))) pa_nil)) (pe_callB GX.cr_reprB (by rfl) m_repr (by decide +kernel) (pa_cons (pe_call GLB hr1 (by rfl) gLB kLB bLB .nil pass0 (pa_cons (pv 0) (pa_cons (pv 1) pa_nil))) pa_nil)) (nomark _))
      (pss_one (ps_ret (pe_bl))) pss_nil)
      (pss_cons (ps_for PassesOwn.never rfl (pi_list (pe_call GNE hr1 (by rfl) gNE kNE bNE .nil pass0 (pa_cons (pv 2) pa_nil))) (pg_name (i := 4) scPA.nd rfl (.inl rfl))
      (pss_one (ps_if (PW.pt (pw_and (pt_val (pe_call GLB hr1 (by rfl) gLB kLB bLB .nil pass0 (pa_cons (pv 0) (pa_cons (pv 4) pa_nil)))) (pw_and (pt_val (pe_call GLB hr1 (by rfl) gLB kLB bLB .nil pass0 (pa_cons (pv 1) (pa_cons (pv 4) pa_nil)))) (pw_and1 (pt_not (pt_val (pe_call GLB hr1 (by rfl) gLB kLB bLB .nil pass0 (pa_cons (pv 2) (pa_cons (pv 4) pa_nil)))))))))
      (pss_one (ps_ret (pe_bl))) pss_nil)))
      (pss_cons (ps_for PassesOwn.never rfl (pi_list (pe_call GNE hr1 (by rfl) gNE kNE bNE .nil pass0 (pa_cons (pv 3) pa_nil))) (pg_name (i := 4) scPA.nd rfl (.inl rfl))
      (pss_one (ps_if (PW.pt (pw_and (pt_val (pe_call GLB hr1 (by rfl) gLB kLB bLB .nil pass0 (pa_cons (pv 4) (pa_cons (pv 0) pa_nil)))) (pw_and (pt_val (pe_call GLB hr1 (by rfl) gLB kLB bLB .nil pass0 (pa_cons (pv 4) (pa_cons (pv 1) pa_nil)))) (pw_and1 (pt_not (pt_val (pe_call GLB hr1 (by rfl) gLB kLB bLB .nil pass0 (pa_cons (pv 4) (pa_cons (pv 3) pa_nil)))))))))
      (pss_one (ps_ret (pe_bl))) pss_nil)))
      (pss_cons (ps_if (PW.pt (pw_or (pt_not (pt_val (pe_call GLB hr1 (by rfl) gLB kLB bLB .nil pass0 (pa_cons (pv 0) (pa_cons (pv 2) pa_nil))))) (pw_or (pt_not (pt_val (pe_call GLB hr1 (by rfl) gLB kLB bLB .nil pass0 (pa_cons (pv 1) (pa_cons (pv 2) pa_nil))))) (pw_or (pt_not (pt_val (pe_call GLB hr1 (by rfl) gLB kLB bLB .nil pass0 (pa_cons (pv 3) (pa_cons (pv 0) pa_nil))))) (pw_or1 (pt_not (pt_val (pe_call GLB hr1 (by rfl) gLB kLB bLB .nil pass0 (pa_cons (pv 3) (pa_cons (pv 1) pa_nil))))))))))
      (pss_one (ps_ret (pe_bl))) pss_nil)
      (pss_one (ps_ret (pe_bl)))))))), ?_⟩
    have t0 : Tb T1 H H := ⟨fun _ _ _ e => e, hT⟩
    refine ⟨_, rfl, _, rfl, v, u, a, b, rfl, ha, hb, la, lb, fun H1 th c s1 hc c1 cm cl => ?_⟩
    refine ⟨_, rfl, _, rfl, v, u, a, b, rfl, ha.same s1, hb.same s1, by omega, fun H2 tl s2 hd => ?_⟩
    have s02 := same_trans s1 s2
    have ha2 := ha.same s02
    have hb2 := hb.same s02
    have hc2 := hc.same s2
    obtain ⟨d, ed⟩ : ∃ d : Lab, d = (min a.1 b.1, a.2.filter fun m => decide (m ∈ b.2)) := ⟨_, rfl⟩
    rw [← ed] at hd
    have dm : ∀ m, m ∈ d.2 ↔ m ∈ a.2 ∧ m ∈ b.2 := fun m => by rw [ed]; simp [List.mem_filter]
    have d1 : d.1 = min a.1 b.1 := by rw [ed]
    have dl : d.2.length ≤ 16 := by
      rw [ed]
      exact Nat.le_trans (List.length_filter_le _ _) la
    clear ed
    have t2 : Tb T1 H H2 := t0.same s02
    clear s02 s1 s2 hc ha hb hT t0
    refine ⟨_, _, rfl, ?_⟩
    dsimp only [tNext, tSeq, tIfS, tAsg, gName, tC]
    refine ⟨_, rfl, _, rfl, v, u, a, b, rfl, ha2, hb2, t2.tg, fun H3 t3 => ⟨_, rfl, ?_⟩⟩
    have ns3 := t3.ns t2.tg
    have ha3 := ha2.ns ns3
    have hb3 := hb2.ns ns3
    have hc3 := hc2.ns ns3
    have hd3 := hd.ns ns3
    have t03 := t2.trans t3
    refine ⟨_, rfl, _, rfl, v, u, a, b, rfl, ha3, hb3, by omega, fun H4 s4 => ⟨_, rfl, rfl, _, rfl, ite2 (fun h => absurd h (by simp)) (fun _ => ?_)⟩⟩
    have ha4 := ha3.same s4
    have hb4 := hb3.same s4
    have hc4 := hc3.same s4
    have hd4 := hd3.same s4
    have t04 := t03.same s4
    clear ha2 hb2 hc2 hd ns3 ha3 hb3 hc3 hd3 t03 t2 t3 s4
    have acb : belB a c = true := bel_iff.mpr ⟨by omega, fun m hm => (cm m).mpr (.inl hm)⟩
    have bcb : belB b c = true := bel_iff.mpr ⟨by omega, fun m hm => (cm m).mpr (.inr hm)⟩
    have dab : belB d a = true := bel_iff.mpr ⟨by omega, fun m hm => ((dm m).mp hm).1⟩
    have dbb : belB d b = true := bel_iff.mpr ⟨by omega, fun m hm => ((dm m).mp hm).2⟩
    -- the labels near the joined one
    refine ⟨_, rfl, th, c, rfl, hc4, by omega, fun H5 D5 xs5 s5 e5 x5 => ?_⟩
    refine ⟨_, rfl, ⟨_, SqL.of e5⟩, for_list (xs := xs5) (fun i σ H' => ∃ y4 : Option V, σ = [some v, some u, some th, some tl, y4] ∧ Same H5 H') ⟨none, rfl, same_refl⟩ ?_ ?_ ?_⟩
    · rintro i σ H' _ ⟨_, _, s6⟩
      exact SqL.of (s6 _ _ e5)
    · rintro i x σ H6 hx ⟨y4, rfl, s6⟩
      obtain ⟨l, hl0, ll⟩ := x5 x (List.mem_of_getElem? hx)
      have hl6 := hl0.same s6
      have s56 := same_trans s5 s6
      refine ⟨_, rfl, _, rfl, v, x, a, l, rfl, ha4.same s56, hl6, by omega, fun H7 s7 => ⟨_, rfl, ?_⟩⟩
      refine ite2 (fun q1 => ?_) (fun q1 => ?_)
      · have s57 := same_trans s56 s7
        refine ⟨_, rfl, _, rfl, u, x, b, l, rfl, hb4.same s57, hl6.same s7, by omega, fun H8 s8 => ⟨_, rfl, ?_⟩⟩
        refine ite2 (fun q2 => ?_) (fun q2 => ?_)
        · have s58 := same_trans s57 s8
          have q3 : belB c l = true := by
            obtain ⟨x1, x2⟩ := bel_iff.mp q1
            obtain ⟨z1, z2⟩ := bel_iff.mp q2
            exact bel_iff.mpr ⟨by omega, fun m hm => ((cm m).mp hm).elim (x2 m) (z2 m)⟩
          refine ⟨_, rfl, _, rfl, th, x, c, l, rfl, hc4.same s58, (hl6.same s7).same s8, by omega, fun H9 s9 => ⟨_, rfl, ?_⟩⟩
          rw [q3]
          exact ⟨_, rfl, same_trans s6 (same_trans s7 (same_trans s8 s9))⟩
        · exact ⟨_, rfl, same_trans s6 (same_trans s7 s8)⟩
      · exact ⟨_, rfl, same_trans s6 s7⟩
    rintro σ H6 ⟨y4, rfl, s6⟩
    have s46 := same_trans s5 s6
    -- the labels near the common one
    refine ⟨_, rfl, tl, d, rfl, hd4.same s46, by omega, fun H7 D7 xs7 s7 e7 x7 => ?_⟩
    refine ⟨_, rfl, ⟨_, SqL.of e7⟩, for_list (xs := xs7) (fun i σ H' => ∃ y4 : Option V, σ = [some v, some u, some th, some tl, y4] ∧ Same H7 H') ⟨_, rfl, same_refl⟩ ?_ ?_ ?_⟩
    · rintro i σ H' _ ⟨_, _, s8⟩
      exact SqL.of (s8 _ _ e7)
    · rintro i x σ H8 hx ⟨y4, rfl, s8⟩
      obtain ⟨l, hl0, ll⟩ := x7 x (List.mem_of_getElem? hx)
      have hl8 := hl0.same s8
      have s48 := same_trans s46 (same_trans s7 s8)
      refine ⟨_, rfl, _, rfl, x, v, l, a, rfl, hl8, ha4.same s48, by omega, fun H9 s9 => ⟨_, rfl, ?_⟩⟩
      refine ite2 (fun q1 => ?_) (fun q1 => ?_)
      · have s49 := same_trans s48 s9
        refine ⟨_, rfl, _, rfl, x, u, l, b, rfl, hl8.same s9, hb4.same s49, by omega, fun H10 s10 => ⟨_, rfl, ?_⟩⟩
        refine ite2 (fun q2 => ?_) (fun q2 => ?_)
        · have s410 := same_trans s49 s10
          have q3 : belB l d = true := by
            obtain ⟨x1, x2⟩ := bel_iff.mp q1
            obtain ⟨z1, z2⟩ := bel_iff.mp q2
            exact bel_iff.mpr ⟨by omega, fun m hm => (dm m).mpr ⟨x2 m hm, z2 m hm⟩⟩
          refine ⟨_, rfl, _, rfl, x, tl, l, d, rfl, (hl8.same s9).same s10, hd4.same s410, by omega, fun H11 s11 => ⟨_, rfl, ?_⟩⟩
          rw [q3]
          exact ⟨_, rfl, same_trans s8 (same_trans s9 (same_trans s10 s11))⟩
        · exact ⟨_, rfl, same_trans s8 (same_trans s9 s10)⟩
      · exact ⟨_, rfl, same_trans s8 s9⟩
    rintro σ H8 ⟨y5, rfl, s8⟩
    have s48 := same_trans s46 (same_trans s7 s8)
    refine ⟨_, rfl, _, rfl, v, th, a, c, rfl, ha4.same s48, hc4.same s48, by omega, fun H9 s9 => ⟨_, rfl, ?_⟩⟩
    rw [acb]
    have s49 := same_trans s48 s9
    refine ⟨_, rfl, _, rfl, u, th, b, c, rfl, hb4.same s49, hc4.same s49, by omega, fun H10 s10 => ⟨_, rfl, ?_⟩⟩
    rw [bcb]
    have s410 := same_trans s49 s10
    refine ⟨_, rfl, _, rfl, tl, v, d, a, rfl, hd4.same s410, ha4.same s410, by omega, fun H11 s11 => ⟨_, rfl, ?_⟩⟩
    rw [dab]
    have s411 := same_trans s410 s11
    refine ⟨_, rfl, _, rfl, tl, u, d, b, rfl, hd4.same s411, hb4.same s411, by omega, fun H12 s12 => ⟨_, rfl, ?_⟩⟩
    rw [dbb]
    exact q _ (t04.same (same_trans s411 s12))
end
end K50
namespace K50
open PySem PySem.Spec PyProof.Rows L2 TR QR
open GxR (TabB TabG Tabbed)
abbrev sLaw : Stmt := topS 15
abbrev nLAW : List Str := ["script", "state", "labels", "kept", "one", "other", "due", "k", "level", "marks", "label"]
theorem scLAW : FnScope nLAW ["script"] (defScope sLaw) := ⟨rfl, rfl, rfl, by decide +kernel, rfl, by decide +kernel, by decide +kernel⟩
theorem plain_ints : ∀ ms : List Nat, PyData.plainAll (intD ms) = true
  | [] => rfl
  | m :: ms => by
    show PyData.plainAll (.int (m : Int) :: intD ms) = true
    rw [PyData.plainAll, PyData.plain, plain_ints ms]
    rfl
theorem plain_L (l : Lab) : (encL l).plain = true := by
  unfold encL
  simp [PyData.plain, PyData.plainAll, plain_ints]
theorem plain_K (l : Lab) : (encK l).plain = true := by
  unfold encK
  simp [PyData.plain, PyData.plainAll, plain_ints]
theorem dep_L (l : Lab) : (encL l).depth ≤ 8 := ktL.dp l
theorem dep_K (l : Lab) : (encK l).depth ≤ 8 := ktK.dp l
def okB (l : Lab) : Prop := l.1 < 8 ∧ l.2.length ≤ 6 ∧ ∀ m ∈ l.2, m < 6
theorem short_int {n : Nat} (h : n < 8) : PyData.leavesShort 8 (.int (n : Int)) = true := by
  have k : ∀ n < 8, PyData.leavesShort 8 (.int ((n : Nat) : Int)) = true := by decide +kernel
  exact k n h
theorem ints_facts : ∀ ms : List Nat, (∀ m ∈ ms, m < 6) → PyData.leavesShortAll 8 (intD ms) = true ∧ PyData.showableAll (intD ms) = true ∧ PyData.hasDictAll (intD ms) = false ∧ PyData.bulkAll (intD ms) = ms.length
  | [], _ => ⟨rfl, rfl, rfl, rfl⟩
  | m :: ms, h => by
    obtain ⟨a, b, c, d⟩ := ints_facts ms fun x hx => h x (List.mem_cons_of_mem _ hx)
    have hm := short_int (n := m) (by have := h m List.mem_cons_self; omega)
    refine ⟨?_, ?_, ?_, ?_⟩
    · show PyData.leavesShortAll 8 (.int (m : Int) :: intD ms) = true
      rw [PyData.leavesShortAll, a, hm]
      rfl
    · show PyData.showableAll (.int (m : Int) :: intD ms) = true
      rw [PyData.showableAll, b, PyData.showable]
      have : m < 8 := by have := h m List.mem_cons_self; omega
      have k : ∀ n < 8, PyData.showable (.int ((n : Nat) : Int)) = true := by decide +kernel
      have := k m this
      rw [PyData.showable] at this
      rw [this]
      rfl
    · show PyData.hasDictAll (.int (m : Int) :: intD ms) = false
      rw [PyData.hasDictAll, c, PyData.hasDict]
      rfl
    · show PyData.bulkAll (.int (m : Int) :: intD ms) = ms.length + 1
      rw [PyData.bulkAll, d, PyData.bulk]
      omega
theorem lab_facts {l : Lab} (h : okB l) : PyData.leavesShort 8 (encL l) = true ∧ PyData.showable (encL l) = true ∧ PyData.hasDict (encL l) = false ∧ PyData.bulk (encL l) ≤ 20 := by
  obtain ⟨a, b, c, d⟩ := ints_facts l.2 h.2.2
  have h1 := short_int h.1
  have k : ∀ n < 8, PyData.showable (.int ((n : Nat) : Int)) = true := by decide +kernel
  have h2 := k l.1 h.1
  have hs : PyData.leavesShort 8 (.str (Str.ofString "label")) = true ∧ PyData.showable (.str (Str.ofString "label")) = true ∧ PyData.hasDict (.str (Str.ofString "label")) = false ∧ PyData.bulk (.str (Str.ofString "label")) = 5 := by decide +kernel
  obtain ⟨s1, s2, s3, s4⟩ := hs
  have t1 : PyData.leavesShort 8 (.tuple (intD l.2)) = true := by rw [PyData.leavesShort]; exact a
  have t2 : PyData.showable (.tuple (intD l.2)) = true := by rw [PyData.showable]; exact b
  have t3 : PyData.hasDict (.tuple (intD l.2)) = false := by rw [PyData.hasDict]; exact c
  have t4 : PyData.bulk (.tuple (intD l.2)) = l.2.length := by rw [PyData.bulk]; exact d
  have i3 : PyData.hasDict (.int (l.1 : Int)) = false := by rw [PyData.hasDict]
  have i4 : PyData.bulk (.int (l.1 : Int)) = 0 := by rw [PyData.bulk]
  have hb := h.2.1
  unfold encL
  generalize PyData.tuple (intD l.2) = x at t1 t2 t3 t4 ⊢
  generalize PyData.int (l.1 : Int) = y at h1 h2 i3 i4 ⊢
  generalize PyData.str (Str.ofString "label") = z at s1 s2 s3 s4 ⊢
  refine ⟨?_, ?_, ?_, ?_⟩
  · simp [PyData.leavesShort, PyData.leavesShortAll, t1, h1, s1]
  · simp [PyData.showable, PyData.showableAll, t2, h2, s2]
  · simp [PyData.hasDict, PyData.hasDictAll, t3, i3, s3]
  · simp only [PyData.bulk, PyData.bulkAll, t4, i4, s4]
    omega
def labsD (F : List (Lab × V)) : PyData := .list (F.map fun e => encL e.1)
theorem labs_facts : ∀ {F : List (Lab × V)}, (∀ e ∈ F, okB e.1) → PyData.leavesShortAll 8 (F.map fun e => encL e.1) = true ∧ PyData.showableAll (F.map fun e => encL e.1) = true ∧ PyData.hasDictAll (F.map fun e => encL e.1) = false ∧ PyData.bulkAll (F.map fun e => encL e.1) ≤ 21 * F.length ∧ PyData.depthAll (F.map fun e => encL e.1) ≤ 8
  | [], _ => ⟨rfl, rfl, rfl, Nat.zero_le _, Nat.zero_le _⟩
  | x :: F, h => by
    obtain ⟨a1, a2, a3, a4⟩ := lab_facts (h x List.mem_cons_self)
    obtain ⟨b1, b2, b3, b4, b5⟩ := labs_facts fun q hq => h q (List.mem_cons_of_mem _ hq)
    have a5 := dep_L x.1
    rw [List.map_cons]
    refine ⟨?_, ?_, ?_, ?_, ?_⟩
    · rw [PyData.leavesShortAll, a1, b1]
      rfl
    · rw [PyData.showableAll, a2, b2]
      rfl
    · rw [PyData.hasDictAll, a3, b3]
      rfl
    · rw [PyData.bulkAll, List.length_cons]
      omega
    · rw [PyData.depthAll]
      omega
theorem labsD_facts {F : List (Lab × V)} (h : ∀ e ∈ F, okB e.1) (l : F.length ≤ 100) : (labsD F).showable = true ∧ (labsD F).hasDict = false ∧ (labsD F).depth ≤ 60 ∧ (labsD F).shown.length ≤ sizeLine := by
  obtain ⟨a1, a2, a3, a4, a5⟩ := labs_facts h
  have z : sizeLine = 16777216 := sizeLine_eq
  refine ⟨?_, ?_, ?_, ?_⟩
  · rw [labsD, PyData.showable]; exact a2
  · rw [labsD, PyData.hasDict]; exact a3
  · rw [labsD, PyData.depth]; omega
  · have := PyData.shown_le_bulk 8 (Nat.le_refl _) (labsD F) (by rw [labsD, PyData.leavesShort]; exact a1)
    have e : (labsD F).bulk ≤ 21 * F.length + 5 := by rw [labsD, PyData.bulk]; omega
    omega
theorem dpAll_of {K : PySem.W.Frag} {H : Hp} {enc : Lab → PyData} : ∀ {F : List (Lab × V)}, (∀ e ∈ F, Dp K H e.2 (enc e.1)) → DpAll K H (F.map (·.2)) (F.map fun e => enc e.1)
  | [], _ => .nil
  | x :: F, h => .cons (h x List.mem_cons_self) (dpAll_of fun e he => h e (List.mem_cons_of_mem _ he))
theorem dp_labs {K : PySem.W.Frag} {H : Hp} {D : Addr} {F : List (Lab × V)} (hD : SqL K H D (F.map (·.2))) (h : entL F K H) : Dp K H (.ref D) (labsD F) := .lst hD (dpAll_of fun e he => (h e he).dp)
theorem plainAll_of {enc : Lab → PyData} (h : ∀ l, (enc l).plain = true) : ∀ ks : List Lab, PyData.plainAll (ks.map enc) = true
  | [] => rfl
  | k :: ks => by
    rw [List.map_cons, PyData.plainAll, h k, plainAll_of h ks]
    rfl
theorem depAll_of {enc : Lab → PyData} (h : ∀ l, (enc l).depth ≤ 8) : ∀ ks : List Lab, PyData.depthAll (ks.map enc) ≤ 8
  | [] => Nat.zero_le _
  | k :: ks => by
    have a := h k
    have b := depAll_of h ks
    rw [List.map_cons, PyData.depthAll]
    omega
theorem entL.ns {F : List (Lab × V)} {K : PySem.W.Frag} {H H' : Hp} (h : entL F K H) (s : NS H H') : entL F K H' := fun e he => (h e he).ns s
theorem nat_nodup_lenG {α : Type} [DecidableEq α] {l m : List α} (h : l.Nodup) (hs : ∀ x ∈ l, x ∈ m) : l.length ≤ m.length := by
  have key : ∀ (l m : List α), l.Nodup → (∀ x ∈ l, x ∈ m) → l.length ≤ m.length := fun l => by
    induction l with
    | nil => intro m _ _; exact Nat.zero_le _
    | cons x l ih =>
      intro m hn hs
      obtain ⟨h1, h2⟩ := List.nodup_cons.mp hn
      have hx := hs x List.mem_cons_self
      have := ih (m.erase x) h2 fun y hy => (List.mem_erase_of_ne (fun e : y = x => h1 (by rw [← e]; exact hy))).2 (hs y (List.mem_cons_of_mem _ hy))
      rw [List.length_erase_of_mem hx] at this
      have := List.length_pos_of_mem hx
      rw [List.length_cons]
      omega
  exact key l m h hs
theorem st_ne {H : Hp} {T p c : Addr} (g : TabG H T) (s : StateAt H p c) : p ≠ T ∧ c ≠ T := by
  obtain ⟨⟨_, e1⟩, ⟨_, e2⟩⟩ := s.some
  exact ⟨tab_ne g e1 (fun ps z => nomatch z), tab_ne g e2 (fun ps z => nomatch z)⟩
theorem or_decT {T : Addr} {tA tB : TT} {σ : L2.St} {H : Hp} {Q : Bool → Hp → Prop} {p q : Prop} [Decidable p] [Decidable q] (g : TabG H T) (hA : ∀ R : Bool → Hp → Prop, (∀ H1, Tb T H H1 → R (decide p) H1) → tA σ H R)
    (hB : ¬ p → ∀ H1, Tb T H H1 → ∀ R : Bool → Hp → Prop, (∀ H2, Tb T H1 H2 → R (decide q) H2) → tB σ H1 R) (h : ∀ H2, Tb T H H2 → Q (decide (p ∨ q)) H2) : tOr tA tB σ H Q := by
  refine hA _ fun H1 s1 => ?_
  by_cases hp : p
  · show if decide p = true then Q true H1 else tB σ H1 Q
    rw [decide_eq_true hp]
    have := h H1 s1
    rw [decide_eq_true (Or.inl hp)] at this
    exact this
  · show if decide p = true then Q true H1 else tB σ H1 Q
    rw [decide_eq_false hp]
    refine hB hp H1 s1 Q fun H2 s2 => ?_
    have := h H2 (s1.trans s2)
    rw [show decide (p ∨ q) = decide q from decide_eq_decide.mpr ⟨fun z => z.resolve_left hp, fun z => .inr z⟩] at this
    exact this
theorem Tb.refl {T : Addr} {H : Hp} (g : TabG H T) : Tb T H H := ⟨fun _ _ _ e => e, g⟩
theorem hPE_ {K : PySem.W.Frag} {PE : Addr} {d : Option Addr} {n : Nat} {s : Array (Option Value)} (l : K.lookup PE = some ⟨.type "tuple", d, .seq #[] n, s⟩) (H : Hp) : SqT K H PE [] := .inr ⟨_, #[], n, l, rfl, rfl, by simp, .nil⟩
theorem hPU_ {K : PySem.W.Frag} {PU PE : Addr} {d : Option Addr} {n : Nat} {s : Array (Option Value)} {k1 k2 : Tok} (l : K.lookup PU = some ⟨.type "tuple", d, .seq #[.str "label" k1, .int 0 k2, .ref PE] n, s⟩) (H : Hp) : SqT K H PU [.str "label", .int 0, .ref PE] :=
  .inr ⟨_, _, n, l, rfl, rfl, by show 3 ≤ sizeLine; have := zl; omega, .cons ⟨k1, rfl⟩ (.cons ⟨k2, rfl⟩ (.cons rfl .nil))⟩
section
variable {P : Program} {w : World} {K : PySem.W.Frag} {mg : Str → Option Value} {base : Heap}
def spLaw (K : PySem.W.Frag) (T1 : Addr) : Sp := fun vs H Q _ => ∃ (a : Addr) (ns : List Int), vs = [.ref a] ∧ SqL K H a (ns.map V.int) ∧ ns.length ≤ 63 ∧ TabG H T1 ∧ ∀ H', Q (.bl true) H'
theorem ok_LAW {T1 PU PE f fST fT fAN fLK fIB fPA fSL : Addr} {fdST fdT fdAN fdLK fdIB fdPA fdSL : FuncData} {oc kV doc pm cdv ct : Value} {od an : Option Addr} {osl : Array (Option Value)} (lk : K.lookup f = some ⟨oc, od, .func (PySem.W.fnOf "law" "law" (defArgs sLaw) (defBody sLaw) (defScope sLaw) .none kV doc pm an cdv ct), osl⟩)
    (hcd : PySem.W.codeIn K cdv "law" = true) (hPU : ∀ H, SqT K H PU [.str "label", .int 0, .ref PE]) (hPE : ∀ H, SqT K H PE [])
    (GST : FnOk P w K mg base CX0 1 fST fdST ["script"] (spState K)) (bST : Binds K fdST ["script"] []) (gST : mg "_law_state" = some (.ref fST)) (kST : PySem.W.keepIn K (.ref fST) = true)
    (GT : FnOk P w K mg base CX0 1 fT fdT ["state", "most"] spTake) (bT : Binds K fdT ["state", "most"] []) (gT : mg "_law_take" = some (.ref fT)) (kT : PySem.W.keepIn K (.ref fT) = true)
    (GAN : FnOk P w K mg base CX0 2 fAN fdAN ["state"] (spAN K)) (bAN : Binds K fdAN ["state"] []) (gAN : mg "_law_any" = some (.ref fAN)) (kAN : PySem.W.keepIn K (.ref fAN) = true)
    (GLK : FnOk P w K mg base CX0 1 fLK fdLK ["label"] (spLK K)) (bLK : Binds K fdLK ["label"] []) (gLK : mg "label_key" = some (.ref fLK)) (kLK : PySem.W.keepIn K (.ref fLK) = true)
    (GIB : FnOk P w K mg base CX0 2 fIB fdIB ["one", "other"] (spIB K T1)) (bIB : Binds K fdIB ["one", "other"] []) (gIB : mg "is_below" = some (.ref fIB)) (kIB : PySem.W.keepIn K (.ref fIB) = true)
    (GPA : FnOk P w K mg base CX0 3 fPA fdPA ["one", "other"] (spPA K T1)) (bPA : Binds K fdPA ["one", "other"] []) (gPA : mg "_law_pair" = some (.ref fPA)) (kPA : PySem.W.keepIn K (.ref fPA) = true)
    (GSL : FnOk P w K mg base CX0 1 fSL fdSL ["labels"] (spSL K)) (bSL : Binds K fdSL ["labels"] []) (gSL : mg "sorted_labels" = some (.ref fSL)) (kSL : PySem.W.keepIn K (.ref fSL) = true)
    (gPU : mg "PUBLIC" = some (.ref PU)) (m_range : mg "range" = none) (m_repr : mg "repr" = none) (m_sorted : mg "sorted" = none) (m_set : mg "set" = none) :
    GX.FnC P w K mg base f (PySem.W.fnOf "law" "law" (defArgs sLaw) (defBody sLaw) (defScope sLaw) .none kV doc pm an cdv ct) ["script"] (spLaw K T1) := by
  refine GX.fn_C (k := 4) ⟨rfl, by decide +kernel, by decide +kernel⟩ lk hcd scLAW (fun vs H Q E h => ?_) fun A outer s H vs Q E hg hr h => ?_
  · obtain ⟨a, ns, rfl, _⟩ := h
    rfl
  · obtain ⟨a0, ns, rfl, hS, hl, g1, q⟩ := h
    have hu := hr.units
    have hu1 := hu_of hr
    have hr1 : Room 1 _ := hr.mono (by decide)
    have hr2 : Room 2 _ := hr.mono (by decide)
    have hr3 : Room 3 _ := hr.mono (by decide)
    have zl := zl
    have hgd : (A.deeper (envOfC "law" (defScope sLaw) s.heap.objs.size f cdv)).guards = some [] := hg
    refine ⟨_, (pss_cons (ps_set (i := 1) scLAW.nd rfl (.inr rfl) (pe_call GST hr1 (by rfl) gST kST bST .nil pass0 (pa_cons (pv 0) pa_nil)))
      (pss_cons (ps_setLc (i := 2) (own := [("k", 7)]) (g := gName 7) (tt := tYes) (te := tCall (spAN K) [] E0 (tCons (tVar 1) tNil)) rfl scLAW.nd rfl rfl (sw_true rfl rfl rfl (by decide +kernel)) (pi_range1 (by rfl) m_range (pa_cons (pe_op op_add (pe_int) (pe_call GT hr1 (by rfl) gT kT bT .nil pass0 (pa_cons (pv 1) (pa_cons (pe_int) pa_nil)))) pa_nil)) (blkOk_by (N := nLAW) (sc := defScope sLaw) (by decide +kernel)) (fun _ _ _ _ _ => by exact pg_name (i := 7) scLAW.nd rfl (.inl rfl)) (fun _ _ _ _ _ => pts_nil) (fun _ _ _ _ _ => by exact pe_call GAN hr2 (by rfl) gAN kAN bAN .nil pass0 (pa_cons (pv 1) pa_nil)))
      (pss_cons (ps_expr (pe_bm PySem.F.plainAttrs_list PySem.F.slot_list_append PySem.F.type_list_append mt_append (pv 2) (pa_cons (pe_ix ix_list (pv 2) (pe_int) (fun _ _ => rfl)) pa_nil)))
      (pss_cons (ps_set (i := 3) scLAW.nd rfl (.inl rfl) (pe_callB (GX.cr_repr hgd hu) (by rfl) m_repr (by decide +kernel) (pa_cons (pv 2) pa_nil)))
      (pss_cons (ps_for PassesOwn.never rfl (pi_list (pv 2)) (pg_name (i := 4) scLAW.nd rfl (.inl rfl))
      (pss_cons (ps_if (PW.pt (pw_or (pt_cmpR (op_neP hu) (pe_call GLK hr1 (by rfl) gLK kLK bLK .nil pass0 (pa_cons (pv 4) pa_nil)) (pe_tup (pa_cons (pe_ix ix_tup (pv 4) (pe_int) (fun _ _ => rfl)) (pa_cons (pe_ix ix_tup (pv 4) (pe_int) (fun _ _ => rfl)) pa_nil))) (nomark _)) (pw_or1 (pt_not (pt_val (pe_call GIB hr2 (by rfl) gIB kIB bIB .nil pass0 (pa_cons (pe_glob (v := V.ref PU) (by rfl) gPU rfl) (pa_cons (pv 4) pa_nil))))))))
      (pss_one (ps_ret (pe_bl))) pss_nil)
      (pss_one (ps_for PassesOwn.never rfl (pi_list (pv 2)) (pg_name (i := 5) scLAW.nd rfl (.inl rfl))
      (pss_one (ps_if (pt_not (pt_val (pe_call GPA hr3 (by rfl) gPA kPA bPA .nil pass0 (pa_cons (pv 4) (pa_cons (pv 5) pa_nil)))))
      (pss_one (ps_ret (pe_bl))) pss_nil))))))
      (pss_cons (ps_set (i := 6) scLAW.nd rfl (.inl rfl) (pe_callB (GS.cr_sorted (T := (etK (P := P) (w := w))) rfl hu) (by rfl) m_sorted (by decide +kernel) (pa_cons (pe_callTy (GS.cr_set (T := (etK (P := P) (w := w))) rfl hu) (by rfl) m_set (by decide +kernel) (pa_cons (pe_lc (own := [("label", 10)]) (g := gName 10) (tt := tYes) (te := tTup (tCons (tOp (rIxT K) (tVar 10) (tC (.int 1))) (tCons (tOp (rIxT K) (tVar 10) (tC (.int 2))) tNil))) rfl scLAW.nd (pi_list (pv 2)) (blkOk_by (N := nLAW) (sc := defScope sLaw) (by decide +kernel)) (fun _ _ _ _ _ => by exact pg_name (i := 10) scLAW.nd rfl (.inl rfl)) (fun _ _ _ _ _ => pts_nil) (fun _ _ _ _ _ => by exact pe_tup (pa_cons (pe_ix ix_tup (pv 10) (pe_int) (fun _ _ => rfl)) (pa_cons (pe_ix ix_tup (pv 10) (pe_int) (fun _ _ => rfl)) pa_nil)))) pa_nil)) pa_nil)))
      (pss_cons (ps_if (pt_cmpR (op_neP hu) (pe_call GSL hr1 (by rfl) gSL kSL bSL .nil pass0 (pa_cons (pv 2) pa_nil)) (pe_lc (own := [("level", 8), ("marks", 9)]) (g := gTup K 2 (gCons (gName 8) (gCons (gName 9) gNil))) (tt := tYes) (te := tTup (tCons (tC (.str "label")) (tCons (tVar 8) (tCons (tVar 9) tNil)))) rfl scLAW.nd (pi_list (pv 6)) (blkOk_by (N := nLAW) (sc := defScope sLaw) (by decide +kernel)) (fun _ _ _ _ _ => by exact pg_tup (by rfl) (pgs_cons (pg_name (i := 8) scLAW.nd rfl (.inl rfl)) (pgs_cons (pg_name (i := 9) scLAW.nd rfl (.inl rfl)) pgs_nil))) (fun _ _ _ _ _ => pts_nil) (fun _ _ _ _ _ => by exact pe_tup (pa_cons (pe_str) (pa_cons (pv 8) (pa_cons (pv 9) pa_nil))))) (nomark _))
      (pss_one (ps_ret (pe_bl))) pss_nil)
      (pss_one (ps_ret (pe_and (pe_cmpR op_eq (pe_callB (GX.cr_repr hgd hu) (by rfl) m_repr (by decide +kernel) (pa_cons (pv 2) pa_nil)) (pv 3) (nomark _)) (pe_one (pe_cmpR (op_eqP hu) (pe_glob (v := V.ref PU) (by rfl) gPU rfl) (pe_tup (pa_cons (pe_str) (pa_cons (pe_int) (pa_cons (pe_tup (pa_nil)) pa_nil)))) (nomark _))))))))))))), ?_⟩
    refine ⟨_, rfl, a0, ns, rfl, hS, hl, fun H1 p c sm1 np nc st1 => ?_⟩
    have g11 := tab_same g1 sm1
    refine ⟨_, rfl, p, c, 5, rfl, by decide, st1, fun H2 r _ lr st2 d2 => ?_⟩
    have lr := lr (by decide)
    have dr2 : Dr p c H1 H2 := (Dr.refl st1).drawn st2 d2
    refine ⟨_, _, rfl, rfl, _, rfl, by omega, by omega, fun D nD => ?_⟩
    have nD0 := dr2.none nD
    have nDp := st1.new nD0
    refine lc_range (lo := 0) (n := ((1 + (r : Int))).toNat) (fun k H3 => Dr p c H1 H3 ∧ ∃ F : List (Lab × V), F.length = k ∧ H3 D = some (.lst (F.map (·.2))) ∧ entL F K H3 ∧ ∀ e ∈ F, okB e.1)
      ⟨dr2.same (same_new nD), [], rfl, upd_same, (fun e he => nomatch he), fun e he => nomatch he⟩ ?_ ?_
    · rintro k H3 hk ⟨dr3, F, lF, eD, hF, oF⟩
      refine ⟨rfl, _, rfl, p, c, rfl, dr3.st, fun H4 t l dr4 hl4 b1 b2 b3 => ?_⟩
      have eD4 := dr4.ou D _ nDp.1 nDp.2 eD
      have dr14 := dr3.trans dr4
      have tups : ∀ {xs : List V} v l, LabAt K H4 v l → LabAt K (upd H4 D (.lst xs)) v l := fun {xs} v l h => h.ts (TSt.lst xs eD4)
      refine ⟨_, eD4, by rw [List.length_map]; omega, ⟨dr14.st.upd nDp, fun b' o n1 n2 e => ?_⟩, F ++ [(l, t)], by rw [List.length_append, lF]; rfl, by rw [upd_same, List.map_append]; rfl, fun e he => ?_, fun e he => ?_⟩
      · rw [upd_ne (ne_of_none e nD0)]
        exact dr14.ou b' o n1 n2 e
      · rcases List.mem_append.mp he with z | z
        · exact tups _ _ (Dr.ns dr3.st dr4 (hF e z))
        · rw [List.mem_singleton.mp z]
          exact tups _ _ hl4
      · rcases List.mem_append.mp he with z | z
        · exact oF e z
        · rw [List.mem_singleton.mp z]
          exact ⟨b1, b2, b3⟩
    rintro H3 ⟨dr3, F, lF, eD, hF, oF⟩
    have lF1 : F.length = 1 + r := by omega
    obtain ⟨e0, F', rfl⟩ : ∃ e0 F', F = e0 :: F' := by
      cases F with
      | nil => rw [List.length_nil] at lF1; omega
      | cons x y => exact ⟨x, y, rfl⟩
    refine ⟨_, rfl, .inl ⟨rfl, _, SqL.of eD⟩, _, rfl, D, _, 0, _, rfl, rfl, SqL.of eD, atI_nat (j := 0) rfl, D, _, _, rfl, rfl, eD, by rw [List.length_map]; omega, ?_⟩
    have ns4 : ∀ v l, LabAt K H3 v l → LabAt K (upd H3 D (.lst ((e0 :: F').map (·.2) ++ [e0.2]))) v l := fun v l h => h.ts (TSt.lst _ eD)
    obtain ⟨G, eG⟩ : ∃ G : List (Lab × V), G = (e0 :: F') ++ [e0] := ⟨_, rfl⟩
    have hG : entL G K (upd H3 D (.lst ((e0 :: F').map (·.2) ++ [e0.2]))) := fun e he => by
      rw [eG] at he
      rcases List.mem_append.mp he with z | z
      · exact ns4 _ _ (hF e z)
      · rw [List.mem_singleton.mp z]
        exact ns4 _ _ (hF e0 List.mem_cons_self)
    have oG : ∀ e ∈ G, okB e.1 := fun e he => by
      rw [eG] at he
      rcases List.mem_append.mp he with z | z
      · exact oF e z
      · rw [List.mem_singleton.mp z]
        exact oF e0 List.mem_cons_self
    have lG : G.length ≤ 6 := by
      rw [eG, List.length_append, lF1]
      show 1 + r + 1 ≤ 6
      omega
    have eDG : (upd H3 D (.lst ((e0 :: F').map (·.2) ++ [e0.2]))) D = some (.lst (G.map (·.2))) := by
      rw [upd_same, eG, List.map_append]
      rfl
    have g4 : TabG (upd H3 D (.lst ((e0 :: F').map (·.2) ++ [e0.2]))) T1 := by
      have a := st_ne g11 st1
      obtain ⟨ps, z1, z2⟩ := g11
      have y := dr3.ou T1 _ (Ne.symm a.1) (Ne.symm a.2) z1
      refine ⟨ps, ?_, z2⟩
      rw [upd_ne (fun z => by rw [z, eD] at y; cases y)]
      exact y
    clear eG ns4 hF oF lF lF1
    generalize upd H3 D (.lst ((e0 :: F').map (·.2) ++ [e0.2])) = H4 at hG eDG g4
    obtain ⟨q1, q2, q3, q4⟩ := labsD_facts oG (by omega)
    dsimp only [tNext, tSeq, tIfS, tAsg, gName, tC]
    refine ⟨_, rfl, D, labsD G, rfl, dp_labs (SqL.of eDG) hG, q1, q2, q3, q4, ?_⟩
    have eDns : ∀ {H'}, Tb T1 H4 H' → H' D = some (.lst (G.map (·.2))) := fun {H'} t => t.ns g4 _ _ eDG fun ps z => nomatch z
    refine ⟨_, rfl, D, rfl, ⟨_, SqL.of eDG⟩, for_list (xs := G.map (·.2)) (fun i σ H' => ∃ y4 y5 : Option V, σ = [some (.ref a0), some (.ref p), some (.ref D), some (.str (labsD G).shown), y4, y5, none, none, none, none, none] ∧ Tb T1 H4 H') ⟨none, none, rfl, Tb.refl g4⟩ ?_ ?_ ?_⟩
    · rintro i σ H' _ ⟨_, _, _, t⟩
      exact SqL.of (eDns t)
    · rintro i x σ H5 hx ⟨y4, y5, rfl, t5⟩
      obtain ⟨e, ge, rfl⟩ := map_get hx
      have he := List.mem_of_getElem? ge
      have hl5 := (hG e he).ns (t5.ns g4)
      have b5 := oG e he
      dsimp only [tNext, tSeq, tIfS, tAsg, gName, tC]
      refine or_decT t5.tg (p := False) (q := False) (fun R k => ?_) (fun _ H6 t6 R k => ?_) fun H6 t6 => ite2 (fun h => absurd (of_decide_eq_true h) (by simp)) (fun _ => ?_)
      · refine ⟨_, rfl, e.2, e.1, rfl, hl5, fun H6 t m6 s6 et em => ?_⟩
        obtain ⟨la, ma, ev, a1, a2⟩ := hl5.same s6
        rw [ev]
        refine ⟨_, rfl, la, _, 1, _, rfl, rfl, a1, atI_nat (j := 1) rfl, _, rfl, la, _, 2, _, rfl, rfl, a1, atI_nat (j := 2) rfl, by show 2 ≤ sizeLine; omega, fun t2 n2 => ?_⟩
        refine ⟨encK e.1, encK e.1, .tup (SqT.of (same_new n2 _ _ et)) (.cons (.int _) (.cons (.tup (tup_same (Same.ns (same_new n2)) em) (dpAll_ints _)) .nil)), .tup (SqT.of upd_same) (.cons (.int _) (.cons (.tup (tup_same (Same.ns (same_new n2)) a2) (dpAll_ints _)) .nil)), plain_K _, plain_K _, Nat.le_trans (dep_K _) (by decide), _, rfl, to_dec (by rw [PySem.SeqAt.eqv_refl_plain _ (plain_K _)]; rfl) (k _ ((Tb.refl t5.tg).same (same_trans s6 (same_new n2))))⟩
      · refine ⟨_, rfl, .ref PU, e.2, (0, []), e.1, rfl, ⟨PU, PE, rfl, hPU _, hPE _⟩, hl5.ns (t6.ns t5.tg), t6.tg, fun H7 t7 => ⟨_, rfl, ?_⟩⟩
        have z : belB (0, []) e.1 = true := bel_iff.mpr ⟨Nat.zero_le _, fun m hm => nomatch hm⟩
        rw [z]
        exact to_dec (by simp) (k _ t7)
      have t46 := t5.trans t6
      refine ⟨_, rfl, D, rfl, ⟨_, SqL.of (eDns t46)⟩, for_list (xs := G.map (·.2)) (fun i σ H' => ∃ y5 : Option V, σ = [some (.ref a0), some (.ref p), some (.ref D), some (.str (labsD G).shown), some e.2, y5, none, none, none, none, none] ∧ Tb T1 H4 H') ⟨_, rfl, t46⟩ ?_ ?_ ?_⟩
      · rintro i σ H' _ ⟨_, _, t⟩
        exact SqL.of (eDns t)
      · rintro i2 x2 σ H7 hx2 ⟨z5, rfl, t7⟩
        obtain ⟨e2, ge2, rfl⟩ := map_get hx2
        have he2 := List.mem_of_getElem? ge2
        have n7 := t7.ns g4
        refine ⟨_, rfl, _, rfl, e.2, e2.2, e.1, e2.1, rfl, (hG e he).ns n7, (hG e2 he2).ns n7, by have := b5.2.1; omega, by have := (oG e2 he2).2.1; omega, t7.tg, fun H8 t8 => ⟨_, rfl, ?_⟩⟩
        exact ⟨_, rfl, t7.trans t8⟩
      · rintro σ H7 ⟨z5, rfl, t7⟩
        exact ⟨_, _, rfl, t7⟩
    rintro σ H5 ⟨y4, y5, rfl, t5⟩
    have n5 := t5.ns g4
    have eD5 := eDns t5
    have hG5 := hG.ns n5
    -- the keys of the labels
    dsimp only [tNext, tSeq, tIfS, tAsg, gName, tC]
    refine ⟨_, rfl, D, rfl, ⟨_, SqL.of eD5⟩, fun E nE => ?_⟩
    refine lc_list (xs := G.map (·.2)) (fun i H' => Same H5 H' ∧ ∃ M : List (Lab × V), M.map (·.1) = (G.take i).map (·.1) ∧ H' E = some (.lst (M.map (·.2))) ∧ ∀ e ∈ M, KeyAt K H' e.2 e.1) ⟨same_new nE, [], rfl, upd_same, fun e he => nomatch he⟩ ?_ ?_ ?_
    · rintro i H' _ ⟨s, _⟩
      exact SqL.of (s _ _ eD5)
    · rintro i x H6 hx ⟨s6, M, kM, eE, dM⟩
      obtain ⟨e, ge, rfl⟩ := map_get hx
      have lt : i < G.length := (List.getElem?_eq_some_iff.mp ge).1
      have lM : M.length = i := by
        have := congrArg List.length kM
        rw [List.length_map, List.length_map, List.length_take] at this
        omega
      obtain ⟨la, ma, ev, a1, a2⟩ := (hG5 e (List.mem_of_getElem? ge)).same s6
      rw [ev]
      refine ⟨rfl, _, rfl, la, _, 1, _, rfl, rfl, a1, atI_nat (j := 1) rfl, _, rfl, la, _, 2, _, rfl, rfl, a1, atI_nat (j := 2) rfl, by show 2 ≤ sizeLine; omega, fun t nt => ?_⟩
      have st := same_new (o := .tup [.int (e.1.1 : Int), .ref ma]) nt
      have eE2 := st _ _ eE
      have tl := TSt.lst (K := K) (M.map (·.2) ++ [V.ref t]) eE2
      refine ⟨_, eE2, by rw [List.length_map]; omega, fun b' o eb => ?_, M ++ [(e.1, .ref t)], ?_, by rw [upd_same, List.map_append]; rfl, fun x hx => ?_⟩
      · rw [upd_ne (ne_of_none eb nE)]
        exact st _ _ (s6 _ _ eb)
      · rw [List.map_append, kM, List.take_add_one, ge, List.map_append]
        rfl
      · rcases List.mem_append.mp hx with z | z
        · exact ((dM x z).ts (Same.ts st)).ts tl
        · rw [List.mem_singleton.mp z]
          exact ⟨t, ma, rfl, tl _ _ (SqT.of upd_same), tl _ _ (Same.ts st _ _ a2)⟩
    rintro H6 ⟨s6, M, kM, eE, dM⟩
    rw [List.length_map, List.take_length] at kM
    have lM : M.length = G.length := by
      have := congrArg List.length kM
      rw [List.length_map, List.length_map] at this
      exact this
    refine ⟨E, M, rfl, .inl (SqL.of eE), fun e he => (dM e he).dp, by omega, fun S es H7 s7 nS eS oS => ?_⟩
    have dS : ∀ e ∈ es, KeyAt K H7 e.2 e.1 := fun e he => (dM e (oS.2.1 e he)).ts (Same.ts s7)
    obtain ⟨al, so⟩ := able_K (fun e : Lab × V => e.1) es
    refine ⟨S, es, rfl, eS, fun e he => (dS e he).dp, al, so, fun U fs H8 s8 nU eU pf => ?_⟩
    have pe : (GS.sortE encK fs).Perm es := (GS.sortE_perm encK fs).trans pf
    have kd : (GS.sortE encK fs).map (·.1) = GS.sortK encK (fs.map (·.1)) := GS.sortE_keys encK fs
    have eU : H8 U = some (.lst ((GS.sortE encK fs).map (·.2))) := eU
    have dF : ∀ e ∈ GS.sortE encK fs, KeyAt K H8 e.2 e.1 := fun e he => (dS e (pe.mem_iff.mp he)).ts (Same.ts s8)
    have nF : ((GS.sortE encK fs).map (·.1)).Nodup := (pe.map _).nodup_iff.mpr oS.1
    have mF : ∀ k, k ∈ (GS.sortE encK fs).map (·.1) ↔ k ∈ G.map (·.1) := fun k => by
      rw [(pe.map _).mem_iff, ← kM]
      constructor
      · intro h
        obtain ⟨e, he, rfl⟩ := List.mem_map.mp h
        exact List.mem_map.mpr ⟨e, oS.2.1 e he, rfl⟩
      · intro h
        obtain ⟨e, he, rfl⟩ := List.mem_map.mp h
        exact oS.2.2 e he
    have sF : (GS.sortE encK fs).map (·.1) = GS.sortK encK ((GS.sortE encK fs).map (·.1)) := by
      conv => lhs; rw [kd]
      rw [kd]
      exact GS.sortK_eq kd_K (fun {a b} h => ktK.inj h) (fun a _ b _ => alike_K a b) (GS.sortK_perm _ _).symm
    have lF : (GS.sortE encK fs).length ≤ 6 := by
      have := nat_nodup_lenG nF (fun k hk => (mF k).mp hk)
      rw [List.length_map, List.length_map] at this
      omega
    generalize GS.sortE encK fs = F at eU dF nF mF sF lF
    have s58 := same_trans s6 (same_trans s7 s8)
    have eD8 := s58 _ _ eD5
    have hG8 := hG5.ns (Same.ns s58)
    refine ⟨_, rfl, D, G, rfl, SqL.of eD8, hG8, by omega, fun H9 p1 F1 s9 n1 e1 m1 k1 nd1 a1 => ?_⟩
    have eU9 := s9 _ _ eU
    refine ⟨_, rfl, U, rfl, ⟨_, SqL.of eU9⟩, fun E2 nE2 => ?_⟩
    refine lc_list (xs := F.map (·.2)) (fun i H' => Same H9 H' ∧ ∃ M : List (Lab × V), M.map (·.1) = (F.take i).map (·.1) ∧ H' E2 = some (.lst (M.map (·.2))) ∧ ∀ e ∈ M, LabAt K H' e.2 e.1) ⟨same_new nE2, [], rfl, upd_same, fun e he => nomatch he⟩ ?_ ?_ ?_
    · rintro i H' _ ⟨s, _⟩
      exact SqL.of (s _ _ eU9)
    · rintro i x H10 hx ⟨s10, M2, kM2, eE2, dM2⟩
      obtain ⟨e, ge, rfl⟩ := map_get hx
      have lt : i < F.length := (List.getElem?_eq_some_iff.mp ge).1
      have lM2 : M2.length = i := by
        have := congrArg List.length kM2
        rw [List.length_map, List.length_map, List.length_take] at this
        omega
      obtain ⟨t, ma, ev, a1, a2⟩ := ((dF e (List.mem_of_getElem? ge)).ts (Same.ts s9)).ts (Same.ts s10)
      rw [ev]
      refine ⟨t, _, rfl, a1, rfl, ?_⟩
      refine ⟨_, _, rfl, _, _, rfl, rfl, rfl, _, rfl, _, rfl, by show 3 ≤ sizeLine; omega, fun t2 n2 => ?_⟩
      have st := same_new (o := .tup [.str (Str.ofString "label"), .int (e.1.1 : Int), .ref ma]) n2
      have eE3 := st _ _ eE2
      have tl := TSt.lst (K := K) (M2.map (·.2) ++ [V.ref t2]) eE3
      refine ⟨_, eE3, by rw [List.length_map]; omega, fun b' o eb => ?_, M2 ++ [(e.1, .ref t2)], ?_, by rw [upd_same, List.map_append]; rfl, fun x hx => ?_⟩
      · rw [upd_ne (ne_of_none eb nE2)]
        exact st _ _ (s10 _ _ eb)
      · rw [List.map_append, kM2, List.take_add_one, ge, List.map_append]
        rfl
      · rcases List.mem_append.mp hx with z | z
        · exact ((dM2 x z).ts (Same.ts st)).ts tl
        · rw [List.mem_singleton.mp z]
          exact ⟨t2, ma, rfl, tl _ _ (SqT.of upd_same), tl _ _ (Same.ts st _ _ a2)⟩
    rintro H10 ⟨s10, M2, kM2, eE2, dM2⟩
    rw [List.length_map, List.take_length] at kM2
    have ek : F1.map (·.1) = M2.map (·.1) := by
      rw [kM2, k1, sF, sort_LK]
      refine GS.sortK_eq kd_K (fun {a b} h => ktK.inj h) (fun a _ b _ => alike_K a b) (GS.perm_of_nodup nd1 nF fun k => ?_)
      rw [mF]
      constructor
      · intro h
        obtain ⟨e, he, rfl⟩ := List.mem_map.mp h
        exact List.mem_map.mpr ⟨e, m1 e he, rfl⟩
      · intro h
        obtain ⟨e, he, rfl⟩ := List.mem_map.mp h
        exact a1 e he
    have ed : labsD F1 = labsD M2 := by
      have := congrArg (List.map encL) ek
      rw [List.map_map, List.map_map] at this
      exact congrArg PyData.list this
    have pl : (labsD M2).plain = true := by
      unfold labsD
      rw [PyData.plain]
      have := plainAll_of plain_L (M2.map (·.1))
      rw [List.map_map] at this
      exact this
    have dl : (labsD M2).depth ≤ 60 := by
      unfold labsD
      rw [PyData.depth]
      have := depAll_of dep_L (M2.map (·.1))
      rw [List.map_map] at this
      have e : (encL ∘ fun x : Lab × V => x.1) = fun e => encL e.1 := rfl
      rw [e] at this
      omega
    have hF1 : entL F1 K H10 := fun e he => ((hG8 e (m1 e he)).same s9).same s10
    refine ⟨labsD F1, labsD M2, dp_labs (SqL.of (s10 _ _ e1)) hF1, dp_labs (SqL.of eE2) dM2, by rw [ed]; exact pl, pl, by rw [ed]; exact dl, _, rfl, ?_⟩
    rw [ed, PySem.SeqAt.eqv_refl_plain _ pl]
    refine ite2 (fun h => absurd h (by decide)) (fun _ => ?_)
    have s810 := same_trans s9 s10
    have eD10 := s810 _ _ eD8
    have hG10 := hG8.ns (Same.ns s810)
    refine ⟨_, rfl, D, labsD G, rfl, dp_labs (SqL.of eD10) hG10, q1, q2, q3, q4, _, rfl, rfl, _, rfl, ite2 (fun _ => ?_) (fun h => absurd (decide_eq_true rfl) h)⟩
    refine ⟨by show 0 ≤ sizeLine; omega, fun t0 n0 => ⟨by show 3 ≤ sizeLine; omega, fun t1 n1 => ?_⟩⟩
    refine ⟨encL (0, []), encL (0, []), LabAt.dp (l := (0, [])) ⟨PU, PE, rfl, hPU _, hPE _⟩, LabAt.dp (l := (0, [])) ⟨t1, t0, rfl, SqT.of upd_same, SqT.of (same_new n1 _ _ upd_same)⟩, plain_L _, plain_L _, Nat.le_trans (dep_L _) (by decide), ?_⟩
    rw [PySem.SeqAt.eqv_refl_plain _ (plain_L _)]
    exact q _
end
end K50
namespace K50
open PySem PySem.Spec PyProof.Rows L2 TR QR
theorem all_mk {l : PySem.W.OpenLaw} {q : Program} {w : World} {K : PySem.W.Frag} {h : Heap} {mg : Str → Option Value} {fa : Addr} (X : K.In h) (G : h.Ns mainGlobals mg) (hfa : mg "law" = some (.ref fa)) (tabs : GX.AllTabs q K mg h) (hrecT1 : ((recsOf q).any fun e => e.name == ("is_below" : Str)) = true)
    {fST fT fAN fSL fLK fIB fNE fJO fCO fLB fPA fLAW : Addr} {odST anST odT anT odAN anAN odSL anSL odLK anLK odIB anIB odNE anNE odJO anJO odCO anCO odLB anLB odPA anPA odLAW anLAW : Option Addr} {slST slT slAN slSL slLK slIB slNE slJO slCO slLB slPA slLAW : Array (Option Value)}
    {ocST kVST dcST pmST ctST cdST ocT kVT dcT pmT ctT cdT ocAN kVAN dcAN pmAN ctAN cdAN ocSL kVSL dcSL pmSL ctSL cdSL ocLK kVLK dcLK pmLK ctLK cdLK ocIB kVIB dcIB pmIB ctIB ocNE kVNE dcNE pmNE ctNE cdNE ocJO kVJO dcJO pmJO ctJO cdJO ocCO kVCO dcCO pmCO ctCO cdCO ocLB kVLB dcLB pmLB ctLB cdLB ocPA kVPA dcPA pmPA ctPA cdPA ocLAW kVLAW dcLAW pmLAW ctLAW cdLAW : Value}
    {cIB T1 : Addr} {eIB : Value} {ddIB : Option Addr} {vsIB : Array Value} {ssIB : Array (Option Value)}
    (aST : PySem.W.nsIn K mainGlobals "_law_state" = some (some (.ref fST)))
    (lST : K.lookup fST = some ⟨ocST, odST, .func (PySem.W.fnOf "_law_state" "_law_state" (defArgs sState) (defBody sState) (defScope sState) .none kVST dcST pmST anST cdST ctST), slST⟩)
    (cST1 : PySem.W.codeIn K cdST "_law_state" = true) (kST1 : PySem.W.keepIn K (.ref fST) = true)
    (aT : PySem.W.nsIn K mainGlobals "_law_take" = some (some (.ref fT)))
    (lT : K.lookup fT = some ⟨ocT, odT, .func (PySem.W.fnOf "_law_take" "_law_take" (defArgs sT) (defBody sT) (defScope sT) .none kVT dcT pmT anT cdT ctT), slT⟩)
    (cT1 : PySem.W.codeIn K cdT "_law_take" = true) (kT1 : PySem.W.keepIn K (.ref fT) = true)
    (aAN : PySem.W.nsIn K mainGlobals "_law_any" = some (some (.ref fAN)))
    (lAN : K.lookup fAN = some ⟨ocAN, odAN, .func (PySem.W.fnOf "_law_any" "_law_any" (defArgs sAN) (defBody sAN) (defScope sAN) .none kVAN dcAN pmAN anAN cdAN ctAN), slAN⟩)
    (cAN1 : PySem.W.codeIn K cdAN "_law_any" = true) (kAN1 : PySem.W.keepIn K (.ref fAN) = true)
    (aSL : PySem.W.nsIn K mainGlobals "sorted_labels" = some (some (.ref fSL)))
    (lSL : K.lookup fSL = some ⟨ocSL, odSL, .func (PySem.W.fnOf "sorted_labels" "sorted_labels" (defArgs sSL) (defBody sSL) (defScope sSL) .none kVSL dcSL pmSL anSL cdSL ctSL), slSL⟩)
    (cSL1 : PySem.W.codeIn K cdSL "sorted_labels" = true) (kSL1 : PySem.W.keepIn K (.ref fSL) = true)
    (aLK : PySem.W.nsIn K mainGlobals "label_key" = some (some (.ref fLK)))
    (lLK : K.lookup fLK = some ⟨ocLK, odLK, .func (PySem.W.fnOf "label_key" "label_key" (defArgs sLK) (defBody sLK) (defScope sLK) .none kVLK dcLK pmLK anLK cdLK ctLK), slLK⟩)
    (cLK1 : PySem.W.codeIn K cdLK "label_key" = true) (kLK1 : PySem.W.keepIn K (.ref fLK) = true)
    (aIB : PySem.W.nsIn K mainGlobals "is_below" = some (some (.ref fIB)))
    (lIB : K.lookup fIB = some ⟨ocIB, odIB, .func (PySem.W.fnOf "is_below" "is_below" (defArgs sIB) (defBody sIB) (defScope sIB) .none kVIB dcIB pmIB anIB (.ref cIB) ctIB), slIB⟩)
    (cIB1 : PySem.W.codeIn K (.ref cIB) "is_below" = true) (kIB1 : PySem.W.keepIn K (.ref fIB) = true)
    (aNE : PySem.W.nsIn K mainGlobals "_law_near" = some (some (.ref fNE)))
    (lNE : K.lookup fNE = some ⟨ocNE, odNE, .func (PySem.W.fnOf "_law_near" "_law_near" (defArgs sNE) (defBody sNE) (defScope sNE) .none kVNE dcNE pmNE anNE cdNE ctNE), slNE⟩)
    (cNE1 : PySem.W.codeIn K cdNE "_law_near" = true) (kNE1 : PySem.W.keepIn K (.ref fNE) = true)
    (aJO : PySem.W.nsIn K mainGlobals "joined" = some (some (.ref fJO)))
    (lJO : K.lookup fJO = some ⟨ocJO, odJO, .func (PySem.W.fnOf "joined" "joined" (defArgs sJO) (defBody sJO) (defScope sJO) .none kVJO dcJO pmJO anJO cdJO ctJO), slJO⟩)
    (cJO1 : PySem.W.codeIn K cdJO "joined" = true) (kJO1 : PySem.W.keepIn K (.ref fJO) = true)
    (aCO : PySem.W.nsIn K mainGlobals "common" = some (some (.ref fCO)))
    (lCO : K.lookup fCO = some ⟨ocCO, odCO, .func (PySem.W.fnOf "common" "common" (defArgs sCO) (defBody sCO) (defScope sCO) .none kVCO dcCO pmCO anCO cdCO ctCO), slCO⟩)
    (cCO1 : PySem.W.codeIn K cdCO "common" = true) (kCO1 : PySem.W.keepIn K (.ref fCO) = true)
    (aLB : PySem.W.nsIn K mainGlobals "_law_below" = some (some (.ref fLB)))
    (lLB : K.lookup fLB = some ⟨ocLB, odLB, .func (PySem.W.fnOf "_law_below" "_law_below" (defArgs sLB) (defBody sLB) (defScope sLB) .none kVLB dcLB pmLB anLB cdLB ctLB), slLB⟩)
    (cLB1 : PySem.W.codeIn K cdLB "_law_below" = true) (kLB1 : PySem.W.keepIn K (.ref fLB) = true)
    (aPA : PySem.W.nsIn K mainGlobals "_law_pair" = some (some (.ref fPA)))
    (lPA : K.lookup fPA = some ⟨ocPA, odPA, .func (PySem.W.fnOf "_law_pair" "_law_pair" (defArgs sPA) (defBody sPA) (defScope sPA) .none kVPA dcPA pmPA anPA cdPA ctPA), slPA⟩)
    (cPA1 : PySem.W.codeIn K cdPA "_law_pair" = true) (kPA1 : PySem.W.keepIn K (.ref fPA) = true)
    (aLAW : PySem.W.nsIn K mainGlobals "law" = some (some (.ref fLAW)))
    (lLAW : K.lookup fLAW = some ⟨ocLAW, odLAW, .func (PySem.W.fnOf "law" "law" (defArgs sLaw) (defBody sLaw) (defScope sLaw) .none kVLAW dcLAW pmLAW anLAW cdLAW ctLAW), slLAW⟩)
    (cLAW1 : PySem.W.codeIn K cdLAW "law" = true) (kLAW1 : PySem.W.keepIn K (.ref fLAW) = true)
    (tIBc : K.lookup cIB = some ⟨eIB, ddIB, .fields vsIB, ssIB⟩) (tIBv : vsIB[11]? = some (.ref T1)) (tIBh : PySem.W.codeHdIn K cIB T1 = true) (tIBn : K.lookup T1 = none)
    {PU PE : Addr} {dPU dPE : Option Addr} {nPU nPE : Nat} {sPU sPE : Array (Option Value)} {kP1 kP2 : Tok} (gPU0 : PySem.W.nsIn K mainGlobals "PUBLIC" = some (some (.ref PU))) (lPU : K.lookup PU = some ⟨.type "tuple", dPU, .seq #[.str "label" kP1, .int 0 kP2, .ref PE] nPU, sPU⟩) (lPE : K.lookup PE = some ⟨.type "tuple", dPE, .seq #[] nPE, sPE⟩)
    (z_len : PySem.W.nsIn K mainGlobals "len" = some none)
    (z_range : PySem.W.nsIn K mainGlobals "range" = some none)
    (z_max : PySem.W.nsIn K mainGlobals "max" = some none)
    (z_min : PySem.W.nsIn K mainGlobals "min" = some none)
    (z_int : PySem.W.nsIn K mainGlobals "int" = some none)
    (z_abs : PySem.W.nsIn K mainGlobals "abs" = some none)
    (z_tuple : PySem.W.nsIn K mainGlobals "tuple" = some none)
    (z_sorted : PySem.W.nsIn K mainGlobals "sorted" = some none)
    (z_set : PySem.W.nsIn K mainGlobals "set" = some none)
    (z_all : PySem.W.nsIn K mainGlobals "all" = some none)
    (z_repr : PySem.W.nsIn K mainGlobals "repr" = some none)
    : GX.LawC l w K 63 "script" mg fa h := by
  have e := hfa.symm.trans (PySem.W.mg_of X G aLAW)
  cases e
  have FST := fun_mk (st := sState) lST cST1 kST1
  have bST := FST.binds (ps := ["script"]) fun _ _ _ _ _ _ us hl => match us, hl with | [_], _ => rfl
  have gST := PySem.W.mg_of X G aST
  have FT := fun_mk (st := sT) lT cT1 kT1
  have bT := FT.binds (ps := ["state", "most"]) fun _ _ _ _ _ _ us hl => match us, hl with | [_, _], _ => rfl
  have gT := PySem.W.mg_of X G aT
  have FAN := fun_mk (st := sAN) lAN cAN1 kAN1
  have bAN := FAN.binds (ps := ["state"]) fun _ _ _ _ _ _ us hl => match us, hl with | [_], _ => rfl
  have gAN := PySem.W.mg_of X G aAN
  have FSL := fun_mk (st := sSL) lSL cSL1 kSL1
  have bSL := FSL.binds (ps := ["labels"]) fun _ _ _ _ _ _ us hl => match us, hl with | [_], _ => rfl
  have gSL := PySem.W.mg_of X G aSL
  have FLK := fun_mk (st := sLK) lLK cLK1 kLK1
  have bLK := FLK.binds (ps := ["label"]) fun _ _ _ _ _ _ us hl => match us, hl with | [_], _ => rfl
  have gLK := PySem.W.mg_of X G aLK
  have bIB : Binds K (PySem.W.fnOf "is_below" "is_below" (defArgs sIB) (defBody sIB) (defScope sIB) .none kVIB dcIB pmIB anIB (.ref cIB) ctIB) ["one", "other"] [] := .all fun us hl => match us, hl with | [_, _], _ => rfl
  have gIB := PySem.W.mg_of X G aIB
  have FNE := fun_mk (st := sNE) lNE cNE1 kNE1
  have bNE := FNE.binds (ps := ["label"]) fun _ _ _ _ _ _ us hl => match us, hl with | [_], _ => rfl
  have gNE := PySem.W.mg_of X G aNE
  have FJO := fun_mk (st := sJO) lJO cJO1 kJO1
  have bJO := FJO.binds (ps := ["one", "other"]) fun _ _ _ _ _ _ us hl => match us, hl with | [_, _], _ => rfl
  have gJO := PySem.W.mg_of X G aJO
  have FCO := fun_mk (st := sCO) lCO cCO1 kCO1
  have bCO := FCO.binds (ps := ["one", "other"]) fun _ _ _ _ _ _ us hl => match us, hl with | [_, _], _ => rfl
  have gCO := PySem.W.mg_of X G aCO
  have FLB := fun_mk (st := sLB) lLB cLB1 kLB1
  have bLB := FLB.binds (ps := ["one", "other"]) fun _ _ _ _ _ _ us hl => match us, hl with | [_, _], _ => rfl
  have gLB := PySem.W.mg_of X G aLB
  have FPA := fun_mk (st := sPA) lPA cPA1 kPA1
  have bPA := FPA.binds (ps := ["one", "other"]) fun _ _ _ _ _ _ us hl => match us, hl with | [_, _], _ => rfl
  have gPA := PySem.W.mg_of X G aPA
  have gLAW := PySem.W.mg_of X G aLAW
  have gPU := PySem.W.mg_of X G gPU0
  have m_len := PySem.W.mg_none_of X G z_len
  have m_range := PySem.W.mg_none_of X G z_range
  have m_max := PySem.W.mg_none_of X G z_max
  have m_min := PySem.W.mg_none_of X G z_min
  have m_int := PySem.W.mg_none_of X G z_int
  have m_abs := PySem.W.mg_none_of X G z_abs
  have m_tuple := PySem.W.mg_none_of X G z_tuple
  have m_sorted := PySem.W.mg_none_of X G z_sorted
  have m_set := PySem.W.mg_none_of X G z_set
  have m_all := PySem.W.mg_none_of X G z_all
  have m_repr := PySem.W.mg_none_of X G z_repr
  have emIB : h.get? T1 = some { cls := .none, data := .fields #[] } := tabs "is_below" fIB hrecT1 gIB cIB T1 _ _ _ _ _ _ lIB rfl rfl tIBc tIBv
  have all_ : ∀ {P : Addr × Addr → Prop}, P (cIB, T1) →  (∀ p ∈ ([(cIB, T1)] : List (Addr × Addr)), P p) := fun xIB p hp => by
    simp only [List.mem_cons, List.not_mem_nil, or_false] at hp
    rcases hp with rfl
    · exact xIB
  refine ⟨PySem.W.fnOf "law" "law" (defArgs sLaw) (defBody sLaw) (defScope sLaw) .none kVLAW dcLAW pmLAW anLAW cdLAW ctLAW, [(cIB, T1)], spLaw K T1, all_ emIB, all_ tIBn, all_ (PySem.W.codeHd_of_K X tIBh), fun s v => .of_eq rfl, ?_, ?_⟩
  · intro H a ns hl hbits hH hS
    have qIB := hH (cIB, T1) (by simp)
    exact ⟨a, ns, rfl, hS, hl, ⟨#[], qIB, trivial⟩, fun _ => rfl⟩
  · intro base _ _ hT
    have TBIB := hT (cIB, T1) (by simp)
    have GST := ok_state (P := l.prog) (w := w) (mg := mg) (base := base) FST m_len m_abs
    have GT := ok_T (P := l.prog) (w := w) (mg := mg) (base := base) FT m_len m_int
    have GAN := ok_AN (P := l.prog) (w := w) (mg := mg) (base := base) FAN GT bT gT kT1 m_range m_tuple
    have GSL := ok_SL (P := l.prog) (w := w) (mg := mg) (base := base) FSL m_sorted m_set
    have GLK := ok_LK (P := l.prog) (w := w) (mg := mg) (base := base) FLK
    have GIB := ok_IB (P := l.prog) (w := w) (mg := mg) (base := base) lIB cIB1 TBIB m_all
    have GNE := ok_NE (P := l.prog) (w := w) (mg := mg) (base := base) FNE m_range m_max m_min m_tuple m_sorted
    have GJO := ok_JO (P := l.prog) (w := w) (mg := mg) (base := base) FJO m_max m_tuple m_sorted m_set
    have GCO := ok_CO (P := l.prog) (w := w) (mg := mg) (base := base) FCO m_min m_tuple
    have GLB := ok_LB (P := l.prog) (w := w) (mg := mg) (base := base) FLB m_len
    have GPA := ok_PA (P := l.prog) (w := w) (mg := mg) (base := base) FPA GNE bNE gNE kNE1 GJO bJO gJO kJO1 GCO bCO gCO kCO1 GIB bIB gIB kIB1 GLB bLB gLB kLB1 m_repr
    exact ok_LAW (PU := PU) (PE := PE) lLAW cLAW1 (hPU_ lPU) (hPE_ lPE) GST bST gST kST1 GT bT gT kT1 GAN bAN gAN kAN1 GLK bLK gLK kLK1 GIB bIB gIB kIB1 GPA bPA gPA kPA1 GSL bSL gSL kSL1 gPU m_range m_repr m_sorted m_set
end K50
open PySem PySem.W PyProof.Rows
set_option maxRecDepth 100000 in
set_option maxHeartbeats 0 in
theorem PySem.Challenge.cw_quiltward_k50_labels_and_their_order_holds : PySem.Challenge.rw_quiltward_k50_labels_and_their_order.Holds := by
  w_on; o_law; k_head; (case hw => w_witness2)
  k_fill
  refine GX.walk_tabsC (l := PySem.Challenge.rw_quiltward_k50_labels_and_their_order) (n := 63) (x := "script") rfl (by decide) rfl (fun w h Y => PySem.W.kIn_of Y) ?F
  case F =>
    intro w mg fa h Y KX G hmg tabs
    refine' K50.all_mk KX G hmg tabs ?hrecT1 ?aST ?lST ?cST1 ?kST1 ?aT ?lT ?cT1 ?kT1 ?aAN ?lAN ?cAN1 ?kAN1 ?aSL ?lSL ?cSL1 ?kSL1 ?aLK ?lLK ?cLK1 ?kLK1 ?aIB ?lIB ?cIB1 ?kIB1 ?aNE ?lNE ?cNE1 ?kNE1 ?aJO ?lJO ?cJO1 ?kJO1 ?aCO ?lCO ?cCO1 ?kCO1 ?aLB ?lLB ?cLB1 ?kLB1 ?aPA ?lPA ?cPA1 ?kPA1 ?aLAW ?lLAW ?cLAW1 ?kLAW1 ?tIBc ?tIBv ?tIBh ?tIBn ?gPU0 ?lPU ?lPE ?z_len ?z_range ?z_max ?z_min ?z_int ?z_abs ?z_tuple ?z_sorted ?z_set ?z_all ?z_repr
    (case hrecT1 => decide +kernel)
    (case aST => k_is)
    (case lST => k_is)
    (case cST1 => k_is)
    (case kST1 => k_is)
    (case aT => k_is)
    (case lT => k_is)
    (case cT1 => k_is)
    (case kT1 => k_is)
    (case aAN => k_is)
    (case lAN => k_is)
    (case cAN1 => k_is)
    (case kAN1 => k_is)
    (case aSL => k_is)
    (case lSL => k_is)
    (case cSL1 => k_is)
    (case kSL1 => k_is)
    (case aLK => k_is)
    (case lLK => k_is)
    (case cLK1 => k_is)
    (case kLK1 => k_is)
    (case aIB => k_is)
    (case lIB => k_is)
    (case cIB1 => k_is)
    (case kIB1 => k_is)
    (case aNE => k_is)
    (case lNE => k_is)
    (case cNE1 => k_is)
    (case kNE1 => k_is)
    (case aJO => k_is)
    (case lJO => k_is)
    (case cJO1 => k_is)
    (case kJO1 => k_is)
    (case aCO => k_is)
    (case lCO => k_is)
    (case cCO1 => k_is)
    (case kCO1 => k_is)
    (case aLB => k_is)
    (case lLB => k_is)
    (case cLB1 => k_is)
    (case kLB1 => k_is)
    (case aPA => k_is)
    (case lPA => k_is)
    (case cPA1 => k_is)
    (case kPA1 => k_is)
    (case aLAW => k_is)
    (case lLAW => k_is)
    (case cLAW1 => k_is)
    (case kLAW1 => k_is)
    (case tIBc => k_is)
    (case tIBv => rfl)
    (case tIBh => first | rfl | kernel_rfl)
    (case tIBn => first | rfl | kernel_rfl)
    (case gPU0 => k_is)
    (case lPU => k_is)
    (case lPE => k_is)
    (case z_len => k_is)
    (case z_range => k_is)
    (case z_max => k_is)
    (case z_min => k_is)
    (case z_int => k_is)
    (case z_abs => k_is)
    (case z_tuple => k_is)
    (case z_sorted => k_is)
    (case z_set => k_is)
    (case z_all => k_is)
    (case z_repr => k_is)
