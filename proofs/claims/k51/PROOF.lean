import PyProof.Rows.All
import Wide.All
import OpenK.AllK
import Wide.FinOn
import PySem.Challenge.RW_quiltward_k51_paths_and_rules
import HandS.ForSpec
import HandS.ForMost
import HandS.RevRange
import HandS.Style
import HandS.More
import HandS.TupLe
import HandS.StrMore
import HandS.IsInst
import HandS.Wide
import HandS.TupMul
import KE.DataEq
import KE.Datum
import KE.GoesEnum
import PyProof.Draws
import PyProof.EnumMake
import PyProof.StrOps2
import PyProof.StrLawsChain
import PyProof.StrLawsTight
import HandS.Walk
import HandS.Comp
import HandS.AnyAll
import PyProof.GenQ
import PyProof.ToksMono
import HandS.Dict
import HandS.DictTup
import HandS.DictComp
import HandS.TupLen
import PyProof.DictMoreH
import PyProof.DictTruth
import HandS.EndTab
import PyProof.ReprRoads
import HandS.EndOwn
import KE.DataCmp
import HandS.TupAny
import HandS.Text
import KE.DatumMore
import KE.DatumOrd
import PyProof.ReprBulk
set_option Elab.async false
set_option linter.all false
set_option maxRecDepth 100000
set_option maxHeartbeats 4000000
/-! rules of my own over the hand layer: text * int, enumerate(text) -/
namespace TR
open PySem PySem.Spec PyProof.Rows L2
abbrev Sg (l : List Nat) : Str := ⟨l.toArray⟩
abbrev tl (s : Str) : List Nat := s.cps.toList
theorem sg_tl (s : Str) : Sg (tl s) = s := rfl
theorem ext_tl {a b : Str} (h : tl a = tl b) : a = b := by
  cases a
  cases b
  exact congrArg Str.mk (Array.toList_inj.mp h)
theorem len_tl (s : Str) : s.length = (tl s).length := rfl
/-! ### text * int -/
def repL (l : List Nat) (k : Int) : List Nat := (List.replicate k.toNat l).flatten
def rRepS : R2 := fun x y H Q => ∃ (s : Str) (k : Int), x = .str s ∧ y = .int k ∧ k ≤ 1000 ∧ -1000 ≤ k ∧ s.length ≤ 1000 ∧ Q (.str (Sg (repL (tl s) k))) H
theorem fold_cps (x : Array Nat) : ∀ (m : Nat) (b : Array Nat), ((List.replicate m x).foldl (· ++ ·) b).toList = b.toList ++ (List.replicate m x.toList).flatten
  | 0, b => by simp
  | m + 1, b => by
    rw [List.replicate_succ, List.foldl_cons, fold_cps x m, List.replicate_succ, List.flatten_cons, Array.toList_append, List.append_assoc]
theorem op_repS {X : Cx} : OpR X (binaryOp .Mult) rRepS := by
  intro pins s σ H x y v u Q I rx ry h
  obtain ⟨i, k, rfl, rfl, h1, h2, hz, q⟩ := h
  obtain ⟨t, rfl⟩ := rx
  obtain ⟨t', rfl⟩ := ry
  have hm : (i.length : Int) * k ≤ 1000000 := by
    by_cases kz : 0 ≤ k
    · have a1 : (i.length : Int) * k ≤ 1000 * k := Int.mul_le_mul_of_nonneg_right (by omega) kz
      omega
    · have a1 := Int.mul_nonneg (show (0 : Int) ≤ i.length by omega) (show (0 : Int) ≤ -k by omega)
      rw [Int.mul_neg] at a1
      omega
  refine P.mul_str (by
    rw [decide_eq_false (by omega : ¬ k < -(2 ^ 63 : Int)), decide_eq_false (by omega : ¬ k ≥ 2 ^ 63)]
    rfl) (fun hk _ => ?_) (fun hk _ => ?_) ?_
  · have := (Int.le_ediv_iff_mul_le (show 0 < k by omega)).mpr (show (i.length : Int) * k ≤ 2 ^ 63 - 1 by omega)
    omega
  · have e : i.length * k.toNat ≤ 1000000 := by
      have : ((i.length * k.toNat : Nat) : Int) = (i.length : Int) * k := by
        rw [Int.natCast_mul, Int.toNat_of_nonneg (by omega)]
      omega
    show decide (i.length * k.toNat > sizeLine) = false
    refine decide_eq_false ?_
    rw [sizeLine_eq]
    omega
  · have end_ : ∀ (z : Str), tl z = repL (tl i) k → V.str z = V.str (Sg (repL (tl i) k)) := fun z e => by rw [← e]
    by_cases h1 : k < 1
    · rw [if_pos h1]
      refine ⟨Nat.zero_le _, .str (Sg (repL (tl i) k)), H, I.tok _, ⟨s.toks, ?_⟩, q⟩
      have e : repL (tl i) k = [] := by
        unfold repL
        rw [show k.toNat = 0 by omega]
        rfl
      rw [e]
      rfl
    · rw [if_neg h1]
      cases hc : (k == 1 || i.length == 0)
      · rw [if_neg Bool.false_ne_true]
        have e := fold_cps i.cps k.toNat #[]
        rw [Array.toList_empty, List.nil_append] at e
        have e2 : (⟨(List.replicate k.toNat i.cps).foldl (· ++ ·) #[]⟩ : Str) = Sg (repL (tl i) k) := ext_tl e
        have lz : (repL (tl i) k).length ≤ sizeLine := by
          unfold repL
          rw [PyProof.Rows.lm_len_rep_flat, sizeLine_eq]
          have : ((k.toNat * (tl i).length : Nat) : Int) = (i.length : Int) * k := by
            rw [Int.natCast_mul, Int.toNat_of_nonneg (by omega), Int.mul_comm]
            rfl
          omega
        show (Made.str ⟨(List.replicate k.toNat i.cps).foldl (· ++ ·) #[]⟩).post _ _
        rw [e2]
        exact ⟨lz, .str (Sg (repL (tl i) k)), H, I.tok _, ⟨s.toks, rfl⟩, q⟩
      · rw [if_pos rfl]
        refine ⟨.str (Sg (repL (tl i) k)), H, I, ⟨t, ?_⟩, q⟩
        refine congrArg (Value.str · t) (ext_tl ?_)
        show tl i = repL (tl i) k
        unfold repL
        rcases Bool.or_eq_true_iff.mp hc with z | z
        · rw [beq_iff_eq.mp z]
          show tl i = [tl i].flatten
          simp
        · have z : (tl i) = [] := List.eq_nil_of_length_eq_zero (beq_iff_eq.mp z)
          rw [z]
          simp
/-! ### enumerate(text) -/
def Ites (x : Str) : It := ⟨fun i _ => i < x.cps.size, fun i H v H' => ∃ T c, v = .ref T ∧ H T = none ∧ H' = upd H T (.tup [.int (i : Nat), .str ⟨#[c]⟩]) ∧ x.cps[i]? = some c, fun i _ => i = x.cps.size⟩
theorem turn_enumS {P : Program} {w : World} {K : PySem.W.Frag} {elts : List Expr} {kk : Nat} {tpos : Pos} (x : Str) (t : Tok) (ty : String) (hty : ty = "str_ascii_iterator" ∨ ty = "str_iterator") (e it : Addr) :
    Turn P w K (.Tuple elts kk tpos) (Ites x) [e, it] e (fun i h => (∃ old, IsEnum h e it ((i : Nat) : Int) old) ∧ h.IsStrIter it ty x t i ∧ e ≠ it) where
  mem := by simp
  obj := fun i h st b hb => by
    obtain ⟨⟨old, he⟩, ⟨o, ho, hc, hd⟩, _⟩ := st
    have e' : b = e ∨ b = it := by simpa using hb
    rcases e' with z | z
    · rw [z]; exact ⟨_, he, fun v q => nomatch q⟩
    · rw [z]; exact ⟨o, ho, fun v q => by rw [hd] at q; cases q⟩
  keep := fun i h h' st k => let ⟨⟨old, he⟩, ⟨o, ho, r⟩, hne⟩ := st; ⟨⟨old, k e (by simp) _ he⟩, ⟨o, k it (by simp) o ho, r⟩, hne⟩
  item := by
    intro X hP hw hK hc i pins s σ H E I hf st hg
    subst hP hw hK
    obtain ⟨⟨old, he⟩, hit, hne⟩ := st
    have hel : e < s.heap.objs.size := Heap.lt_size he
    have hil : it < s.heap.objs.size := by obtain ⟨_, q, _⟩ := hit; exact Heap.lt_size q
    have D : Draws X.prog X.w X.A.in1 it [it] x.cps.size (fun i v => ∃ c u, x.cps[i]? = some c ∧ v = .str ⟨#[c]⟩ u) (fun i h => h.IsStrIter it ty x t i) := by
      rcases hty with z | z
      · rw [z]; exact Draws.strAscii (A := X.A.in1) (I.ok.hd hc) it x t
      · rw [z]; exact Draws.strWide (A := X.A.in1) (I.ok.hd hc) it x t
    refine wpAny_pyNext_enum_itemC D he hit hg hne (by simpa using hne) fun y h' tk hy ho hit' hT hsz hk => ?_
    obtain ⟨c, u, hcx, rfl⟩ := hy
    refine ⟨_, rfl, wpAny_letOwnedTupleGo_enum (s := { s with heap := h', toks := tk + 1 }) ho fun h'' he' sb => ?_⟩
    have hT2 : h''.get? s.heap.objs.size = some { cls := .type "tuple", data := .seq #[.int i tk, .str ⟨#[c]⟩ u] } := (sb.2 _ (Nat.ne_of_gt hel)).trans hT
    have new : ObjOk X.prog X.w (upd H s.heap.objs.size (.tup [.int (i : Nat), .str ⟨#[c]⟩])) h'' s.heap.objs.size (.tup [.int (i : Nat), .str ⟨#[c]⟩]) :=
      ⟨by show 2 ≤ sizeLine; decide, [.int i tk, .str ⟨#[c]⟩ u], .cons ⟨_, rfl⟩ (.cons ⟨_, rfl⟩ .nil), ⟨_, hT2, rfl, _, rfl⟩⟩
    have I1 : Inv X pins σ (upd H s.heap.objs.size (.tup [.int (i : Nat), .str ⟨#[c]⟩])) { s with heap := h'', toks := tk + 1 } :=
      I.turnedNew (ch := [e, it]) (fun b ob hb q => (sb.2 b (fun z => hb (by simp [z]))).trans (hk b ob (fun z => hb (by simp [z])) (fun z => hb (by simp [z])) q)) hf (Nat.le_refl _) new
    refine ⟨.ref s.heap.objs.size, _, I1, rfl, ⟨_, c, rfl, I.hok.fresh (Nat.le_refl _), rfl, hcx⟩, ⟨⟨.str ⟨#[c]⟩ u, ?_⟩, ?_, hne⟩, fun b hb => ?_⟩
    · have e1 : ((i + 1 : Nat) : Int) = (i : Int) + 1 := by omega
      rw [e1]; exact he'
    · obtain ⟨o, ho2, r⟩ := hit'
      exact ⟨o, (sb.2 it (Ne.symm hne)).trans ho2, r⟩
    · have hb' : b < s.heap.objs.size := by
        have e' : b = e ∨ b = it := by simpa using hb
        rcases e' with z | z
        · rw [z]; exact hel
        · rw [z]; exact hil
      rw [upd_ne (Nat.ne_of_lt hb')]
      exact (hf b hb).1
  done := by
    intro X hP hw hK hc i pins s σ H E I hf st hg
    subst hP hw hK
    obtain ⟨⟨old, he⟩, hit, hne⟩ := st
    obtain ⟨f0, f1, f2, f3, f4, f5⟩ := hf it (by simp)
    have D : Draws X.prog X.w X.A.in1 it [it] x.cps.size (fun i v => ∃ c u, x.cps[i]? = some c ∧ v = .str ⟨#[c]⟩ u) (fun i h => h.IsStrIter it ty x t i) := by
      rcases hty with z | z
      · rw [z]; exact Draws.strAscii (A := X.A.in1) (I.ok.hd hc) it x t
      · rw [z]; exact Draws.strWide (A := X.A.in1) (I.ok.hd hc) it x t
    have hg' : i = x.cps.size := hg
    subst hg'
    exact wpAny_pyNext_enum_endD D he hit fun h' eb => ⟨rfl, I.turned (t' := s.toks) (fun b o hb q => eb b o hb q) f0 f1 f3 f4 f5⟩
  self := fun A i s Q E st h => let ⟨⟨_, he⟩, _⟩ := st; wpAny_pyIter_enum he h
def iEnumS (ta : TA) : TI := fun σ H R => ta σ H fun vs H1 => ∃ x, vs = [.str x] ∧ R (Ites x) H1
theorem pi_enumS {X : Cx} {e : Expr} {ta : TA} {p pos tpos : Pos} {elts : List Expr} {kk : Nat} (hg : Gl X "enumerate") (hm : X.mg "enumerate" = none) (ha : PA X [e] ta) (hs : starEach [e] X.env = [(false, eval e X.env)] := by rfl) :
    PI X (.Tuple elts kk tpos) (.Call (.Name "enumerate" p) [e] [] pos) (iEnumS ta) := by
  refine ⟨fun pins s σ H R I h => ?_⟩
  refine Call_ (ld_blt I hg hm boot_enumerate (PyProof.Rows.callWith_type1 (thn (ha.run pos pins s σ H _ I h) fun us s1 ⟨vs, H1, I1, r1, q1⟩ => ?_) hs rfl))
  obtain ⟨x, ex, q⟩ := q1
  subst ex
  cases r1 with
  | cons r rr =>
    cases rr
    obtain ⟨t, rfl⟩ := r
    refine call_enumerate_str fun h' he hit hsz hk => wpAny_pyIter_enum he ?_
    have I2 : Inv X pins σ H1 { s1 with heap := h' } := I1.kept (t' := s1.toks) hk
    refine ⟨s1.heap.objs.size + 1, [s1.heap.objs.size + 1, s1.heap.objs.size], _, _, H1, rfl, I2, turn_enumS x t (strIterType x) (by unfold strIterType; split <;> simp) (s1.heap.objs.size + 1) s1.heap.objs.size, ⟨⟨.none, he⟩, hit, Nat.succ_ne_self _⟩, fun b hb => ?_, q⟩
    have e' : b = s1.heap.objs.size + 1 ∨ b = s1.heap.objs.size := by simpa using hb
    have hle : s1.heap.objs.size ≤ b := by
      rcases e' with z | z
      · rw [z]; exact Nat.le_add_right _ _
      · rw [z]; exact Nat.le_refl _
    exact I1.fpOk hle (I1.hok.fresh hle)
theorem walk_enumS (x : Str) : Walk (Ites x) x.cps.size (fun _ => True) (fun i H v H' => ∃ T c, v = .ref T ∧ H T = none ∧ H' = upd H T (.tup [.int (i : Nat), .str ⟨#[c]⟩]) ∧ x.cps[i]? = some c) where
  goes := fun i H h _ => h
  stops := fun H _ => rfl
  yields := fun i H v H' h _ y => y
theorem for_enumS {x : Str} {g : TG} {tb : TS} {D : Ends} {σ : L2.St} {H : Hp} (Pv : Nat → L2.St → Hp → Prop) (h0 : Pv 0 σ H)
    (hs : ∀ i c T σ H, (tl x)[i]? = some c → Pv i σ H → H T = none → g (.ref T) σ (upd H T (.tup [.int (i : Nat), .str ⟨#[c]⟩])) fun σ2 H2 => tb { D with nx := Pv (i + 1), ct := Pv (i + 1), bk := D.nx } σ2 H2) (hd : ∀ σ H, Pv (tl x).length σ H → D.nx σ H) :
    ∃ W : Nat → Nat → L2.St → Hp → Prop, (∃ m, W 0 m σ H) ∧ ∀ i m σ H, W i m σ H →
      ((Ites x).stop i H ∧ D.nx σ H) ∨ ((Ites x).go i H ∧ ∃ N : L2.St → Hp → Prop, (∀ σ' H', N σ' H' → ∃ m', m' < m ∧ W (i + 1) m' σ' H') ∧ ∀ v H', (Ites x).yld i H v H' → g v σ H' fun σ2 H2 => tb { D with nx := N, ct := N, bk := D.nx } σ2 H2) :=
  for_it (walk_enumS x) Pv h0 (fun _ _ _ _ _ => trivial) (fun i v σ H H' hi hp ⟨T, c, e1, e2, e3, e4⟩ => by
    subst e1
    subst e3
    exact hs i c T σ H (by rw [Array.getElem?_toList]; exact e4) hp e2) (fun σ H hp => hd σ H hp)
end TR
namespace QR
open PySem PySem.Spec PyProof.Rows L2
section
variable {X : Cx}
def rEqP (K : PySem.W.Frag) : R2 := fun x y H Q => ∃ d e, Dp K H x d ∧ Dp K H y e ∧ d.plain = true ∧ e.plain = true ∧ d.depth ≤ 60 ∧ Q (.bl (PyData.eqv d e)) H
def rNeP (K : PySem.W.Frag) : R2 := fun x y H Q => ∃ d e, Dp K H x d ∧ Dp K H y e ∧ d.plain = true ∧ e.plain = true ∧ d.depth ≤ 60 ∧ Q (.bl (!PyData.eqv d e)) H
theorem op_eqP (hu : X.A.units + 64 < cLine) : OpR X (compareOp .Eq) (rEqP X.K) := fun pins s σ H x y v u Q I rx ry ⟨d, e, hd, he, pd, pe, dd, q⟩ => by
  obtain ⟨as, r1⟩ := Dp.reads I d x v hd rx
  obtain ⟨bs, r2⟩ := Dp.reads I e y u he ry
  exact PySem.SeqAt.eq_plain r1 r2 pd pe (by omega) ⟨.bl _, H, I, rfl, q⟩
theorem op_neP (hu : X.A.units + 64 < cLine) : OpR X (compareOp .NotEq) (rNeP X.K) := fun pins s σ H x y v u Q I rx ry ⟨d, e, hd, he, pd, pe, dd, q⟩ => by
  obtain ⟨as, r1⟩ := Dp.reads I d x v hd rx
  obtain ⟨bs, r2⟩ := Dp.reads I e y u he ry
  exact PySem.SeqAt.ne_plain r1 r2 pd pe (by omega) ⟨.bl _, H, I, rfl, q⟩
end
/-! ### == and != of values with a Lean type -/
section
variable {α : Type} [DecidableEq α] [PySem.W.Datum α] {K : PySem.W.Frag} {H : Hp} {x y : V} {a b : α} {Q : VK}
theorem eq_dat (hx : Dp K H x (PySem.W.Datum.toD a)) (hy : Dp K H y (PySem.W.Datum.toD b)) (hd : PySem.W.Datum.depth α ≤ 60) (q : Q (.bl (decide (a = b))) H) : rEqP K x y H Q :=
  ⟨_, _, hx, hy, PySem.W.Datum.plain a, PySem.W.Datum.plain b, Nat.le_trans (PySem.W.Datum.depth_le a) hd, by rw [PySem.W.Datum.eqv]; exact q⟩
theorem ne_dat (hx : Dp K H x (PySem.W.Datum.toD a)) (hy : Dp K H y (PySem.W.Datum.toD b)) (hd : PySem.W.Datum.depth α ≤ 60) (q : Q (.bl (!decide (a = b))) H) : rNeP K x y H Q :=
  ⟨_, _, hx, hy, PySem.W.Datum.plain a, PySem.W.Datum.plain b, Nat.le_trans (PySem.W.Datum.depth_le a) hd, by rw [PySem.W.Datum.eqv]; exact q⟩
end
end QR
/-! mathematics of texts and their lines -/
namespace TR
open PySem PySem.Spec PyProof.Rows L2
/-- the parts of l between the c's -/
def cutAt (c : Nat) : List Nat → List (List Nat)
  | [] => [[]]
  | x :: l => if x = c then [] :: cutAt c l else match cutAt c l with
    | [] => [[x]]
    | p :: r => (x :: p) :: r
def joinL (c : Nat) : List (List Nat) → List Nat
  | [] => []
  | [p] => p
  | p :: q :: r => p ++ c :: joinL c (q :: r)
theorem cut_free {c : Nat} : ∀ {p : List Nat}, c ∉ p → cutAt c p = [p]
  | [], _ => rfl
  | x :: p, h => by
    have h1 : x ≠ c := fun e => h (e ▸ List.mem_cons_self)
    have h2 : c ∉ p := fun e => h (List.mem_cons_of_mem _ e)
    unfold cutAt
    rw [if_neg h1, cut_free h2]
theorem cut_app {c : Nat} {l : List Nat} : ∀ {p : List Nat}, c ∉ p → cutAt c (p ++ c :: l) = p :: cutAt c l
  | [], _ => by
    show cutAt c (c :: l) = _
    rw [cutAt, if_pos rfl]
  | x :: p, h => by
    have h1 : x ≠ c := fun e => h (e ▸ List.mem_cons_self)
    have h2 : c ∉ p := fun e => h (List.mem_cons_of_mem _ e)
    show cutAt c (x :: (p ++ c :: l)) = _
    rw [cutAt, if_neg h1, cut_app h2]
theorem cut_join {c : Nat} : ∀ {P : List (List Nat)}, P ≠ [] → (∀ p ∈ P, c ∉ p) → cutAt c (joinL c P) = P
  | [], h, _ => absurd rfl h
  | [p], _, h => cut_free (h p List.mem_cons_self)
  | p :: q :: r, _, h => by
    rw [joinL, cut_app (h p List.mem_cons_self), cut_join (List.cons_ne_nil _ _) fun x hx => h x (List.mem_cons_of_mem _ hx)]
theorem cut_ne (c : Nat) : ∀ l, cutAt c l ≠ []
  | [] => List.cons_ne_nil _ _
  | x :: l => by
    unfold cutAt
    split
    · exact List.cons_ne_nil _ _
    · split <;> exact List.cons_ne_nil _ _
theorem tl_app (a b : Str) : tl (a ++ b) = tl a ++ tl b := by
  show (a.cps ++ b.cps).toList = _
  rw [Array.toList_append]
theorem tl_join (c : Nat) : ∀ P : List Str, tl (Str.join ⟨#[c]⟩ P) = joinL c (P.map tl)
  | [] => rfl
  | [p] => rfl
  | p :: q :: r => by
    show tl (p ++ ⟨#[c]⟩ ++ Str.join ⟨#[c]⟩ (q :: r)) = _
    rw [tl_app, tl_app, tl_join c (q :: r), List.append_assoc]
    rfl
theorem split_ne (x y : Str) : Txt.split x y ≠ [] := by
  unfold Txt.split
  split
  · exact List.cons_ne_nil _ _
  · split
    · exact List.cons_ne_nil _ _
    · unfold Builtin.Str.partsBetween
      generalize Builtin.Str.occurrences x y 0 x.length (x.length + 1) = cs
      cases cs <;> exact List.cons_ne_nil _ _
theorem split_cut (x : Str) (c : Nat) : Txt.split x ⟨#[c]⟩ = (cutAt c (tl x)).map Sg := by
  have h1 : (Txt.split x ⟨#[c]⟩).map tl = cutAt c (tl x) := by
    have e := StrLaws.join_split x ⟨#[c]⟩
    have e2 := tl_join c (Txt.split x ⟨#[c]⟩)
    rw [e] at e2
    rw [e2, cut_join (by
      intro z
      exact split_ne x ⟨#[c]⟩ (List.map_eq_nil_iff.mp z))]
    intro p hp
    obtain ⟨q, hq, rfl⟩ := List.mem_map.mp hp
    exact StrLaws.split_free x c q hq
  rw [← h1, List.map_map]
  conv => lhs; rw [← List.map_id (Txt.split x ⟨#[c]⟩)]
  rfl
theorem tl_join0 : ∀ P : List Str, tl (Str.join Str.empty P) = (P.map tl).flatten
  | [] => rfl
  | [p] => by simp [Str.join]
  | p :: q :: r => by
    show tl (p ++ Str.empty ++ Str.join Str.empty (q :: r)) = _
    rw [tl_app, tl_app, tl_join0 (q :: r), List.map_cons, List.flatten_cons]
    show tl p ++ [] ++ _ = _
    rw [List.append_nil]
    simp
theorem txt_join0 (P : List Str) : Txt.join Str.empty P = Sg ((P.map tl).flatten) := by
  show Builtin.Str.glued _ _ = _
  rw [StrLaws.glued_eq_join]
  exact ext_tl (tl_join0 P)
/-- the text of lines -/
def flatN : List (List Nat) → List Nat
  | [] => []
  | p :: r => p ++ 10 :: flatN r
theorem cut_flat {z : List Nat} (hz : 10 ∉ z) : ∀ {P : List (List Nat)}, (∀ p ∈ P, 10 ∉ p) → cutAt 10 (flatN P ++ z) = P ++ [z]
  | [], _ => cut_free hz
  | p :: r, h => by
    show cutAt 10 ((p ++ 10 :: flatN r) ++ z) = _
    rw [List.append_assoc, List.cons_append, cut_app (h p List.mem_cons_self), cut_flat hz fun x hx => h x (List.mem_cons_of_mem _ hx)]
    rfl
theorem flat_flatten : ∀ P : List (List Nat), (P.map fun p => p ++ [10]).flatten = flatN P
  | [] => rfl
  | p :: r => by
    rw [List.map_cons, List.flatten_cons, flat_flatten r, List.append_assoc]
    rfl
/-- the first place where a text fails -/
def fault : List Nat → Nat → Nat → Nat → Option Nat
  | [], at_, _, size => if size = 0 then none else some at_
  | c :: l, at_, many, size => if many = 200 then some at_ else if c = 10 then fault l (at_ + 1) (many + 1) 0 else if size = 40 then some at_ else fault l (at_ + 1) many (size + 1)
theorem fault_end : ∀ {l : List Nat} {a m s : Nat}, fault l a m s = none → (l = [] ∧ s = 0) ∨ ∃ l', l = l' ++ [10]
  | [], a, m, s, h => by
    unfold fault at h
    split at h
    · rename_i e
      exact .inl ⟨rfl, e⟩
    · cases h
  | c :: l, a, m, s, h => by
    unfold fault at h
    split at h
    · cases h
    · split at h
      · rename_i e
        rcases fault_end h with ⟨e2, _⟩ | ⟨l', e2⟩
        · exact .inr ⟨[], by rw [e2, e]; rfl⟩
        · exact .inr ⟨c :: l', by rw [e2]; rfl⟩
      · split at h
        · cases h
        · rcases fault_end h with ⟨_, e2⟩ | ⟨l', e2⟩
          · cases e2
          · exact .inr ⟨c :: l', by rw [e2]; rfl⟩
theorem fault_nil {l z : List Nat} {a m s : Nat} (h : fault (l ++ z) a m s = none) (hz : 10 ∉ z) : z = [] := by
  rcases List.eq_nil_or_concat z with e | ⟨w, x, e⟩
  · exact e
  · exfalso
    rcases fault_end h with ⟨e2, _⟩ | ⟨l', e2⟩
    · rw [e] at e2
      simp at e2
    · rw [e, List.concat_eq_append, ← List.append_assoc] at e2
      have := List.append_inj_right' e2 rfl
      have e3 : x = 10 := by simpa using this
      exact hz (by rw [e, e3]; simp)
def okT (l : List Nat) : Prop := ∀ c ∈ l, c = 10 ∨ (32 ≤ c ∧ c ≤ 126)
def okL (l : List Nat) : Prop := (∀ c ∈ l, 32 ≤ c ∧ c ≤ 126) ∧ l.length ≤ 50
theorem okL.free {l : List Nat} (h : okL l) : 10 ∉ l := fun z => by
  have := h.1 10 z
  omega
theorem okT_app {a b : List Nat} (ha : okT a) (hb : okT b) : okT (a ++ b) := fun c hc => by
  rcases List.mem_append.mp hc with h | h
  · exact ha c h
  · exact hb c h
theorem okL.t {l : List Nat} (h : okL l) : okT l := fun c hc => .inr (h.1 c hc)
theorem okT_flat : ∀ {P : List (List Nat)}, (∀ p ∈ P, okL p) → okT (flatN P)
  | [], _ => fun c hc => nomatch hc
  | p :: r, h => by
    refine okT_app (h p List.mem_cons_self).t fun c hc => ?_
    rcases List.mem_cons.mp hc with e | hc
    · exact .inl e
    · exact okT_flat (fun x hx => h x (List.mem_cons_of_mem _ hx)) c hc
theorem flat_len : ∀ {P : List (List Nat)}, (∀ p ∈ P, okL p) → (flatN P).length ≤ 51 * P.length
  | [], _ => Nat.le_refl _
  | p :: r, h => by
    have a := (h p List.mem_cons_self).2
    have b := flat_len (P := r) fun x hx => h x (List.mem_cons_of_mem _ hx)
    show (p ++ 10 :: flatN r).length ≤ 51 * (r.length + 1)
    rw [List.length_append, List.length_cons]
    omega
theorem okL_rep {l : List Nat} {k : Int} (h1 : l.length = 1) (hl : ∀ c ∈ l, 32 ≤ c ∧ c ≤ 126) (hk : k ≤ 50) : okL (repL l k) := by
  refine ⟨fun c hc => ?_, ?_⟩
  · obtain ⟨x, hx, hc⟩ := List.mem_flatten.mp hc
    rw [List.eq_of_mem_replicate hx] at hc
    exact hl c hc
  · unfold repL
    rw [PyProof.Rows.lm_len_rep_flat, h1]
    omega
end TR
/-! the array of generators never shrinks -/
namespace GX
open PySem PySem.Spec PyProof.Rows L2 GxR

theorem runs_gens_le {M : Model} {Γ : PySem.Ctx} {p : Pos} {t : Sem Fin} {fs : List Frame} {s s' : Shared} {e : End} (h : Runs M Γ p t fs s e s') : s.gens.size ≤ s'.gens.size := by
  induction h <;> (try simp only [Shared.setGen, Array.size_push, Array.size_setIfInBounds] at *) <;> omega

theorem wakes_gens_le {M : Model} {Γ : PySem.Ctx} {p : Pos} {g : Nat} {r : Resume} {s s' : Shared} {res : GenResult} (h : Wakes M Γ p g r s res s') : s.gens.size ≤ s'.gens.size := by
  have sz : ∀ (z : Shared) x, (z.setGen g x).gens.size = z.gens.size := fun z x => by simp [Shared.setGen]
  unfold Wakes at h
  split at h
  · exact h.elim
  · split at h
    · obtain ⟨e₁, s₁, hr, _, _, rfl⟩ := h
      rw [sz]; exact (sz s .running) ▸ runs_gens_le hr
    · obtain ⟨_, rfl⟩ := h; first | exact Nat.le_refl _ | (rw [sz]; exact Nat.le_refl _)
    · obtain ⟨_, rfl⟩ := h; first | exact Nat.le_refl _ | (rw [sz]; exact Nat.le_refl _)
  · obtain ⟨e₁, s₁, hr, _, _, rfl⟩ := h
    rw [sz]; exact (sz s .running) ▸ runs_gens_le hr
  · obtain ⟨_, rfl⟩ := h; exact Nat.le_refl _
  · obtain ⟨_, rfl⟩ := h; exact Nat.le_refl _

theorem wp_gens {α : Type} (M : Model) (Γ : PySem.Ctx) (n : Nat) (t : Sem α) : ∀ (Q : α → Pos → Shared → Prop) (E : Value → Pos → Shared → Prop) (p : Pos) (s : Shared), n ≤ s.gens.size → Sem.wp M Γ t Q E p s →
    Sem.wp M Γ t (fun a p' s' => n ≤ s'.gens.size ∧ Q a p' s') (fun e p' s' => n ≤ s'.gens.size ∧ E e p' s') p s := by
  induction t with
  | pure a => intro Q E p s hn h; exact ⟨hn, h⟩
  | raise e => intro Q E p s hn h; exact ⟨hn, h⟩
  | unsupported _ => intro Q E p s _ h; exact h
  | finish _ => intro Q E p s _ h; exact h
  | rule _ k ih => intro Q E p s hn h; exact ih () Q E p s hn h
  | «at» p' k ih => intro Q E p s hn h; exact ih () Q E p' s hn h
  | load a _ k ih => intro Q E p s hn h; obtain ⟨o, ho, h⟩ := h; exact ⟨o, ho, ih o Q E p s hn h⟩
  | update a _ f k ih => intro Q E p s hn h; exact ⟨h.1, ih () Q E p _ hn h.2⟩
  | loadIfAlive a k ih => intro Q E p s hn h; exact ih _ Q E p s hn h
  | point _ k ih => intro Q E p s hn h; exact ih () Q E p s hn h
  | register _ _ => intro Q E p s _ h; exact h
  | alloc o k ih => intro Q E p s hn h; exact ih _ Q E p _ hn h
  | fresh k ih => intro Q E p s hn h; exact ih _ Q E p _ hn h
  | ask k ih => intro Q E p s hn h; exact ih _ Q E p s hn h
  | choose src m k ih => intro Q E p s hn h; exact ⟨h.1, ih _ Q E p _ hn h.2⟩
  | os q _ k ih => intro Q E p s hn h; exact ih _ Q E p _ hn h
  | call c hd _ _ k ih => intro Q E p s hn h; obtain ⟨r, s', hr, h⟩ := h; exact ⟨r, s', hr, ih r Q E p s' (Nat.le_trans hn (runs_gens_le hr)) h⟩
  | handled own k ih => intro Q E p s hn h; exact ih _ Q E p s hn h
  | genState g k ih => intro Q E p s hn h; obtain ⟨st, hs, h⟩ := h; exact ⟨st, hs, ih _ Q E p s hn h⟩
  | newGen c k ih => intro Q E p s hn h; exact ih _ Q E p _ (by show n ≤ (s.gens.push _).size; rw [Array.size_push]; exact Nat.le_succ_of_le hn) h
  | resume g r _ k ih => intro Q E p s hn h; obtain ⟨res, s', hw, h⟩ := h; exact ⟨res, s', hw, ih res Q E p s' (Nat.le_trans hn (wakes_gens_le hw)) h⟩
  | yield _ _ _ _ => intro Q E p s _ h; exact h
  | stack k ih => intro Q E p s hn h; exact ih _ Q E p s hn h
  | fork _ _ => intro Q E p s _ h; exact h
  | thread k ih => intro Q E p s hn h; exact ih _ Q E p s hn h
  | await _ _ _ _ _ => intro Q E p s _ h; exact h

theorem wpAny_with_gens {α : Type} {M : Model} {A : Around} {s : Shared} {t : Sem α} {Q : α → Shared → Prop} {E : Value → Shared → Prop} {n : Nat} (hn : n ≤ s.gens.size)
    (h : wpAny M A t (fun a s' => n ≤ s'.gens.size → Q a s') (fun e s' => n ≤ s'.gens.size → E e s') s) : wpAny M A t Q E s :=
  wpAny_mono (Q := fun a s' => n ≤ s'.gens.size ∧ (n ≤ s'.gens.size → Q a s')) (E := fun e s' => n ≤ s'.gens.size ∧ (n ≤ s'.gens.size → E e s')) (fun Γ p hΓ => wp_gens M Γ n t _ _ p s hn (h Γ p hΓ)) (fun _ _ x => x.2 x.1) (fun _ _ x => x.2 x.1)

/-- the invariant speaks of the heap; the generators' array is bare -/
theorem inv_heap {X : Cx} {pins : List (Addr × Obj)} {σ : L2.St} {H : Hp} {s s' : Shared} (I : Inv X pins σ H s) (h : s'.heap = s.heap) (ho : s'.os = s.os) (hb : AllBare s'.gens) : Inv X pins σ H s' := by
  obtain ⟨h1, g1, d1, t1, o1⟩ := s
  obtain ⟨h2, g2, d2, t2, o2⟩ := s'
  obtain rfl : h2 = h1 := h
  obtain rfl : o2 = o1 := ho
  exact ⟨I.ok, I.os, hb, I.base, I.loc, I.cell, I.free, I.freeC, I.pin, I.hok, I.len⟩
theorem bare_set {s : Shared} {g : Nat} {x : GenState} (h : AllBare s.gens) (hx : x.bare = true) : AllBare (s.setGen g x).gens := by
  intro y hy
  have hy : y ∈ s.gens.setIfInBounds g x := hy
  obtain ⟨i, hi, e⟩ := Array.mem_iff_getElem.mp hy
  have hi2 : i < s.gens.size := by simpa using hi
  rw [Array.getElem_setIfInBounds hi2] at e
  split at e
  · rw [← e]; exact hx
  · rw [← e]; exact h _ (Array.getElem_mem _)
end GX
namespace GX
open PySem PySem.Spec PyProof.Rows L2 GxR

/-- the context of a generator's body -/
abbrev gCx (X : Cx) (s : Shared) (H : Hp) (ce : Env) (fp : List Addr) (A' : Around) : Cx := { X with s_0 := s, H_0 := H, env := ce, outer := X.stack, stack := ce :: X.stack, ex := fp, fn := fun _ => false, pn := [], xe := fun _ _ => False, A := A' }

section
variable {X : Cx} {pins : List (Addr × Obj)} {σ : L2.St} {H : Hp} {s : Shared}
theorem gen_start {scope : Scope} {own : List (Str × Nat)} {fp : List Addr} {code : Value} {ce : Env} {a : Addr} {go : Obj} {A' : Around} {s' : Shared} {m : Str → Option Value} (I : Inv X pins σ H s) (ok : BlkOk X.N X.env.scope scope own) (nc : ∀ y ∈ scope.names, y.2 ≠ .cell)
    (hN : X.N.Nodup) (hfp : ∀ b ∈ fp, FpOk X pins H b ∧ b < s.heap.objs.size) (hd : X.calm = true → A'.handled = none) (hfr : A'.frames = some (ce :: X.stack))
    (hce : ce = genEnv scope (cloFrom X.env.cells scope.names []) s.heap.objs.size code builtinsNs X.env) (kp : ∀ b o, s.heap.get? b = some o → s'.heap.get? b = some o) (hns : s'.heap.Ns s.heap.objs.size m)
    (hgo : s'.heap.get? a = some go) (hga : s.heap.objs.size < a) (hgd : ∀ v, go.data ≠ .cell v) (hos : s'.os = s.os) (hb : AllBare s'.gens) :
    Inv (gCx X s H ce fp A') [(a, go)] (wipe σ (own.map (·.2))) H s' := by
  have hfree : ∀ y ∈ scope.names, y.2 = .free → ∃ c, X.env.cells.lookup y.1 = some c := fun y hy e => by
    rcases ok.free y hy e with k | k
    · exact I.ok.has _ (.inl k)
    · exact I.ok.has _ (.inr k)
  have hL : ce.locals = s.heap.objs.size := by rw [hce]; rfl
  have hcl : ce.cells = cloFrom X.env.cells scope.names [] := by rw [hce]; rfl
  have hsc : ce.scope = scope := by rw [hce]; rfl
  have hfm : ce.frame = some ce.locals := by rw [hce]; rfl
  have cm : ∀ {y c}, ce.cells.lookup y = some c → X.env.cells.lookup y = some c ∧ c < s.heap.objs.size := fun {y c} e => by
    rw [hcl] at e
    rcases cloFrom_mem (PySem.mem_of_lookup e) with hm | ⟨h1, rfl⟩
    · cases hm
    · obtain ⟨c, hc⟩ := hfree _ h1 rfl
      rw [hc]
      obtain ⟨w, z⟩ := I.cell _ _ hc
      exact ⟨rfl, z.lt⟩
  have look : ∀ {y}, scope.names.lookup y = some .free → ∃ c, ce.cells.lookup y = some c ∧ X.env.cells.lookup y = some c := fun {y} hl => by
    have hy : (y, NameKind.free) ∈ scope.names := PySem.mem_of_lookup hl
    obtain ⟨c', e'⟩ := mem_lookup (cloFrom_has (cells := X.env.cells) (acc := []) hy)
    rw [← hcl] at e'
    exact ⟨c', e', (cm e').1⟩
  have stk : ∀ b ∈ frs X.stack, b < s.heap.objs.size := fun b hb => by
    obtain ⟨_, o, ho, _⟩ := I.stack.mem hb
    exact Heap.lt_size ho
  have okB : (gCx X s H ce fp A').Ok := by
    refine ⟨I.ok.mod, by show ce.scope.kind = _; rw [hsc]; exact ok.kind, by show ce.globals = _; rw [hce]; exact I.ok.glob, by show ce.builtins = _; rw [hce]; rfl, by show s.heap.objs.size ≤ ce.locals; rw [hL]; exact Nat.le_refl _,
      fun y z c e1 e2 => I.ok.inj y z c (cm e1).1 (cm e2).1, fun y hy => ?_, fun y c z e => (by cases z), hd, hfr, .inr ⟨rfl, hfm⟩, fun b hb => ⟨?_, fun y c e z => (hfp b hb).1.2.2.2.2.1 y c (cm e).1 z⟩, I.bs, Nat.le_trans I.ok.bsz I.sz, fun b o e hb => ?_, fun b hb z => ?_, I.stack, I.stkFree⟩
    · show ∃ c, ce.cells.lookup y = some c
      have hy : ce.scope.names.lookup y = some .cell ∨ ce.scope.names.lookup y = some .free := hy
      rw [hsc] at hy
      rcases hy with hy | hy
      · exact absurd rfl (nc _ (PySem.mem_of_lookup hy))
      · obtain ⟨c, h1, _⟩ := look hy
        exact ⟨c, h1⟩
    · show b ≠ ce.locals
      rw [hL]; exact Nat.ne_of_lt (hfp b hb).2
    · rcases (hfp b hb).1.2.2.2.1 with z | z
      · exact I.ok.noex b o e z
      · exact absurd (Nat.lt_of_lt_of_le (Heap.lt_size e) (Nat.le_trans I.ok.bsz z)) (Nat.lt_irrefl _)
    · rcases List.mem_cons.mp (I.stkSub b z) with z | z
      · exact (hfp b hb).1.2.1 z
      · exact (hfp b hb).1.2.2.1 z
  refine ⟨okB, hos, hb, Un.kept kp, ⟨m, ?_, fun i y av e1 e2 e3 => ?_⟩, fun y c e => ?_, ?_, fun y c e => I.freeC y c (cm e).1, fun p hp => ?_, I.hok.kept kp, by rw [wipe_length]; exact I.len⟩
  · show Heap.Ns _ ce.locals _
    rw [hL]
    exact hns
  · obtain ⟨e2, hne⟩ := wipe_some e2
    have e3 : Vis ce.scope y := e3
    rw [hsc] at e3
    have no : ∀ k, scope.names.lookup y = some k → ¬ (k = .local ∨ k = .cell) := fun k e hh => by
      rcases ok.own _ (PySem.mem_of_lookup e) hh with e' | e'
      · obtain ⟨p, hp, hpy⟩ := List.mem_map.mp e'
        have e3 := ok.ix p hp
        have : p.1 = y := hpy
        rw [this] at e3
        exact hne (List.mem_map.mpr ⟨p, hp, nodup_ix hN e3 e1⟩)
      · exact e' (List.mem_of_getElem? e1)
    have hfr : scope.names.lookup y = some .free := by
      rcases e3 with e3 | e3 | e3
      · exact absurd (.inl rfl) (no _ e3)
      · exact absurd (.inr rfl) (no _ e3)
      · exact e3
    obtain ⟨m, hn, hl⟩ := I.loc
    have hvis : Vis X.env.scope y := (ok.free _ (PySem.mem_of_lookup hfr) rfl).elim (fun k => .inr (.inl k)) (fun k => .inr (.inr k))
    obtain ⟨w, r, q⟩ := hl i y av e1 e2 hvis
    obtain ⟨c, h1, h2⟩ := look hfr
    refine ⟨w, r, .inr ⟨.inr (show ce.scope.names.lookup y = _ by rw [hsc]; exact hfr), c, h1, ?_⟩⟩
    rcases q with ⟨k, _⟩ | ⟨_, c', e', z⟩
    · have k : X.env.scope.names.lookup y = some .local := k
      rcases ok.free _ (PySem.mem_of_lookup hfr) rfl with k' | k' <;> rw [show X.env.scope.names.lookup y = _ from k'] at k <;> cases k
    · rw [h2] at e'; cases e'
      exact z.keeps kp
  · obtain ⟨w, z⟩ := I.cell y c (cm e).1
    exact ⟨w, z.keeps kp⟩
  · show H ce.locals = none
    rw [hL]; exact I.hok.fresh (Nat.le_refl _)
  · have hp : p ∈ [] ++ [(a, go)] := hp
    have e : p = (a, go) := by simpa using hp
    subst e
    refine ⟨hgo, I.hok.fresh (Nat.le_of_lt hga), ?_, fun z => ?_, hgd⟩
    · show a ≠ ce.locals
      rw [hL]; exact Nat.ne_of_gt hga
    · exact absurd (Nat.lt_trans (stk a z) hga) (Nat.lt_irrefl _)
end

/-- what is wanted of a walk: W by the turn and a measure; d: the item that ends it -/
def Wk (d : Bool) (J : It) (g : TG) (tt : TT) (te : TE) (vs : List Nat) (σ : L2.St) (W : Nat → Nat → Hp → Prop) (Qe Qd : Hp → Prop) : Prop := ∀ i m H, W i m H →
  (J.stop i H ∧ Qe H) ∨ (J.go i H ∧ ∃ Nx : Hp → Prop, (∀ H', Nx H' → ∃ m', m' < m ∧ W (i + 1) m' H') ∧ ∀ x H', J.yld i H x H' → g x (wipe σ vs) H' fun σ2 H2 => wipe σ2 vs = wipe σ vs ∧ tt σ2 H2 fun b H3 =>
    if b = true then te σ2 H3 fun y H4 => ∃ c, y = .bl c ∧ if c = d then Qd H4 else Nx H4 else Nx H3)

section
variable {Y : Cx} {A : Around} {σ : L2.St} {vs : List Nat} {a : Addr} {go : Obj}
def YE (Y : Cx) (a : Addr) (go : Obj) (ws : L2.St) (Qe : Hp → Prop) (s : Shared) : Prop := ∃ H, Inv Y [(a, go)] ws H s ∧ Qe H
def YP (d : Bool) (Y : Cx) (a : Addr) (go : Obj) (ws : L2.St) (Qd : Hp → Prop) : Protocol := fun _ _ v s kap =>
  ∃ c H, v = .bool c ∧ Inv Y [(a, go)] ws H s ∧ if c = d then Qd H else ∀ s'' : Shared, s''.heap = s.heap → s''.os = s.os → AllBare s''.gens → kap (.send .none) s''
abbrev YR (Y : Cx) (a : Addr) (go : Obj) (ws : L2.St) (Qe : Hp → Prop) : GenEnd := fun n s₀ r s₁ => r = .ok .next ∧ (fun (_ : Nat) (_ s₁ : Shared) => YE Y a go ws Qe s₁) n s₀ s₁

theorem seg_gl {d : Bool} {tg elt iter : Expr} {ifs : List Expr} {scope : Scope} {pos : Pos} {it : Addr} {fp : List Addr} {tn : Nat → Heap → Prop} {J : It} {g : TG} {tt : TT} {te : TE} {W : Nat → Nat → Hp → Prop} {Qe Qd : Hp → Prop}
    (hA : Y.A = A.over (.compLoop (.GeneratorExp elt [⟨tg, iter, ifs, 0⟩] scope pos) 0 (.ref it) .none Y.env) []) (hc : Y.calm = true) (hco : Y.env.scope.isCoroutine = false) (T : Turn Y.prog Y.w Y.K tg J fp it tn)
    (hx : Y.ex = fp) (hpn : Y.pn = []) (hafp : a ∉ fp) (pg : PG Y tg g) (pt : PTs Y ifs tt) (pe : PE Y elt te) (hW : Wk d J g tt te vs σ W Qe Qd) (hxe : Y.xe = fun _ _ => False) :
    ∀ (m n : Nat), m < n → ∀ (i : Nat) (H : Hp) (s₀ s : Shared), Inv Y [(a, go)] (wipe σ vs) H s → tn i s.heap → (∀ b ∈ fp, H b = none) → W i m H →
      Seg (model Y.prog Y.w) A (YR Y a go (wipe σ vs) Qe) (YP d Y a go (wipe σ vs) Qd) n s₀
        (.compLoop (.GeneratorExp elt [⟨tg, iter, ifs, 0⟩] scope pos) 0 (.ref it) .none Y.env)
        ((model Y.prog Y.w).den (.compLoop (.GeneratorExp elt [⟨tg, iter, ifs, 0⟩] scope pos) 0 (.ref it) .none Y.env)) [] s := by
  intro m
  induction m using Nat.strongRecOn with
  | _ m ih =>
  intro n hmn i H s₀ s I st nf w
  have stat : ∀ {ps : List (Addr × Obj)} {σ' : L2.St} {H' : Hp} {s' : Shared}, Inv Y [(a, go)] σ' H' s' → (∀ b ∈ fp, H' b = none) → ∀ b ∈ fp, FpOk Y [(a, go)] H' b := fun {ps σ' H' s'} I' hn b hb =>
    ⟨hn b hb, (I'.ok.exf b (hx ▸ hb)).1, I'.ok.exfs b (hx ▸ hb), .inl (hx ▸ hb), fun x c e => (I'.ok.exf b (hx ▸ hb)).2 x c e, fun p hp => by
      rw [hpn] at hp
      have e : p = (a, go) := by simpa using hp
      rw [e]
      exact fun z => hafp (by rw [show a = b from z]; exact hb)⟩
  show Seg _ A _ _ _ s₀ _ ((compTurn (.GeneratorExp elt [⟨tg, iter, ifs, 0⟩] scope pos) 0 (.ref it) .none Y.env).onRaise (leaving Y.env)) [] s
  rw [compTurn_gen, Sem.onRaise_eq_wrap]
  refine seg_bind_wrap (wpAny_standAt ?_)
  rcases hW i m H w with ⟨stop, qe⟩ | ⟨go1, Nx, hNx, step⟩
  · refine seg_bind_wrap ?_
    rw [← hA]
    refine thnF (T.done Y rfl rfl rfl hc i _ s _ H (fun _ _ => False) I (stat (ps := []) I nf) st stop) fun r s1 ⟨hr, I1⟩ => ?_
    subst hr
    exact seg_end (.ok .next) ⟨rfl, H, I1, qe⟩
  · refine seg_bind_wrap ?_
    rw [← hA]
    refine thnF (T.item Y rfl rfl rfl hc i _ s _ H (fun _ _ => False) I (stat (ps := []) I nf) st go1) fun r s1 ⟨u, hr, h1⟩ => ?_
    subst hr
    refine seg_bind_wrap ?_
    rw [← hA]
    refine thnF h1 fun _ s2 ⟨x, H2, I2, r2, y2, st2, n2⟩ => ?_
    have I2' := I2.pinned (stat (ps := []) I2 n2) (T.obj _ _ st2)
    have pg1 := pg.run _ s2 _ H2 x u _ I2' r2 (step x H2 y2)
    rw [hxe] at pg1
    refine seg_bind_wrap ?_
    rw [← hA]
    refine thnF pg1 fun _ s3 ⟨σ3, H3, I3, hw3, q3⟩ => ?_
    have pt1 := pt.run _ s3 σ3 H3 _ I3 q3
    rw [hxe] at pt1
    refine seg_bind_wrap ?_
    rw [← hA]
    refine thnF pt1 fun b s4 ⟨H4, I4, q4⟩ => ?_
    -- the turn's end
    have fin : ∀ {s' : Shared} {H' : Hp}, Inv Y ([(a, go)] ++ pinsAt fp s2.heap) σ3 H' s' → Inv Y [(a, go)] (wipe σ vs) H' s' ∧ tn (i + 1) s'.heap ∧ (∀ b ∈ fp, H' b = none) := fun {s' H'} I' => by
      have pin' : ∀ b ∈ fp, ∀ o, s2.heap.get? b = some o → s'.heap.get? b = some o ∧ H' b = none := fun b hb o e =>
        let z := I'.pin (b, o) (List.mem_append_right _ (List.mem_append_right _ (mem_pinsAt hb e)))
        ⟨z.1, z.2.1⟩
      have hl : (wipe σ vs).length = σ3.length := by rw [← hw3, wipe_length]
      refine ⟨(I'.unpinned (pins := [(a, go)])).weak hl (fun j v e => ?_), T.keep _ _ _ st2 fun b hb o e => (pin' b hb o e).1, fun b hb => ?_⟩
      · rw [← hw3] at e
        exact (wipe_some e).1
      · obtain ⟨o, e, _⟩ := T.obj _ _ st2 b hb
        exact (pin' b hb o e).2
    cases b with
    | false =>
      simp only [Bool.false_eq_true, if_false] at q4 ⊢
      obtain ⟨m', hm, w'⟩ := hNx H4 q4
      obtain ⟨J1, J2, J3⟩ := fin I4
      exact seg_again rfl (ih m' hm n (by omega) (i + 1) H4 s₀ s4 J1 J2 J3 w')
    | true =>
      simp only [if_true] at q4 ⊢
      have hy : ∀ v, yieldOut Y.env v = yieldValue v := fun v => by simp only [yieldOut, hco, Bool.false_eq_true, if_false]
      simp only [hy]
      have pe1 := pe.run _ s4 σ3 H4 _ I4 q4
      rw [hxe] at pe1
      rw [Sem.bind_eq_wrap', Sem.bind_eq_wrap', Sem.wrap_wrap, Sem.wrap_wrap]
      refine seg_wrap ?_
      rw [← hA]
      refine thnF pe1 fun z s5 ⟨y, H5, I5, r5, c, ec, q5⟩ => ?_
      subst ec
      cases r5
      obtain ⟨J1, J2, J3⟩ := fin I5
      by_cases hcd : c = d
      · rw [if_pos hcd] at q5
        obtain ⟨n, rfl⟩ : ∃ k, n = k + 1 := ⟨n - 1, by omega⟩
        exact seg_at (seg_yield rfl rfl rfl ⟨c, H5, rfl, J1, by rw [if_pos hcd]; exact q5⟩)
      · rw [if_neg hcd] at q5
        obtain ⟨m', hm, w'⟩ := hNx H5 q5
        obtain ⟨n, rfl⟩ : ∃ k, n = k + 1 := ⟨n - 1, by omega⟩
        refine seg_at (seg_yield rfl rfl rfl ⟨c, H5, rfl, J1, ?_⟩)
        rw [if_neg hcd]
        intro s'' h1 h2 h3
        exact seg_again rfl (ih m' hm n (by omega) (i + 1) H5 s'' s'' (inv_heap J1 h1 h2 h3) (by rw [h1]; exact J2) J3 w')
end
end GX
namespace GX
open PySem PySem.Spec PyProof.Rows L2 GxR

section
variable {Y : Cx} {A : Around} {σ : L2.St} {vs : List Nat} {a : Addr} {go : Obj}
theorem seg_gs {d : Bool} {tg elt iter : Expr} {ifs : List Expr} {scope : Scope} {pos : Pos} {it : Addr} {fp : List Addr} {tn : Nat → Heap → Prop} {J : It} {g : TG} {tt : TT} {te : TE} {W : Nat → Nat → Hp → Prop} {Qe Qd : Hp → Prop}
    (hA : Y.A = A.over (.compLoop (.GeneratorExp elt [⟨tg, iter, ifs, 0⟩] scope pos) 0 (.ref it) .none Y.env) []) (hc : Y.calm = true) (hco : Y.env.scope.isCoroutine = false) (T : Turn Y.prog Y.w Y.K tg J fp it tn)
    (hx : Y.ex = fp) (hpn : Y.pn = []) (hafp : a ∉ fp) (pg : PG Y tg g) (pt : PTs Y ifs tt) (pe : PE Y elt te) (hW : Wk d J g tt te vs σ W Qe Qd) (hxe : Y.xe = fun _ _ => False)
    (m : Nat) (H : Hp) (s₀ s : Shared) (I : Inv Y [(a, go)] (wipe σ vs) H s) (st : tn 0 s.heap) (nf : ∀ b ∈ fp, H b = none) (w : W 0 m H) :
      Seg (model Y.prog Y.w) A (YR Y a go (wipe σ vs) Qe) (YP d Y a go (wipe σ vs) Qd) (m + 1) s₀
        (.compStart (.GeneratorExp elt [⟨tg, iter, ifs, 0⟩] scope pos) 0 (.ref it) .none Y.env)
        ((model Y.prog Y.w).den (.compStart (.GeneratorExp elt [⟨tg, iter, ifs, 0⟩] scope pos) 0 (.ref it) .none Y.env)) [] s := by
  have loop := seg_gl (iter := iter) (scope := scope) (pos := pos) hA hc hco T hx hpn hafp pg pt pe hW hxe m (m + 1) (Nat.lt_succ_self m) 0 H s₀ s I st nf w
  show Seg _ A _ _ _ s₀ _ ((compStart (.GeneratorExp elt [⟨tg, iter, ifs, 0⟩] scope pos) 0 (.ref it) .none Y.env).onRaise (leaving Y.env)) [] s
  unfold compStart
  rw [Sem.onRaise_eq_wrap]
  show Seg _ A _ _ _ s₀ _ ((ask >>= _).wrap _ _ _ _) [] s
  refine seg_bind_wrap (wpAny_askSetting ?_)
  split
  · exact seg_again rfl loop
  · first
      | exact seg_bind_wrap (wpAny_rule (seg_bind_wrap (wpAny_standAt (seg_bind_wrap (T.self _ 0 s _ _ st (seg_again rfl loop))))))
      | (refine seg_bind_wrap (wpAny_rule ?_); show Seg _ A _ _ _ s₀ _ ((standAt iter.pos >>= _).wrap _ _ _ _) [] s; exact seg_bind_wrap (wpAny_standAt (seg_bind_wrap (T.self _ 0 s _ _ st (seg_again rfl loop)))))

/-- the loop of all(..) -/
theorem loop_all {prog : Program} {w : World} {gn : Nat} {ws : L2.St} {Qe Qd : Hp → Prop} {Rr : Result → Shared → Prop} (hh : A.handled = none) (hroom : A.depth < recursionLimit) (hgo : ∀ h : Heap, h.get? a = some go → h.IsGen a gn)
    (hT : ∀ s₁ h', YE Y a go ws Qe s₁ → (∀ b o, s₁.heap.get? b = some o → h'.get? b = some o) → Rr (.ok (.ret (.bool true))) { s₁.setGen gn .finished with heap := h' })
    (hF : ∀ s₁ gs' H, gs'.bare = true → Inv Y [(a, go)] ws H s₁ → Qd H → Rr (.ok (.ret (.bool false))) (s₁.setGen gn gs')) :
    ∀ (n : Nat) (s : Shared) (gs : GenState), s.heap.get? a = some go → s.heap.NoLimit → AllBare s.gens → s.gens[gn]? = some gs →
      (∀ s'' : Shared, s''.heap = s.heap → s''.os = s.os → AllBare s''.gens → gs.Goes (model prog w) A.in1.in1 (YR Y a go ws Qe) (YP false Y a go ws Qd) n (.send .none) s'') →
      codeAny (model prog w) A (.builtin "all.loop" ⟨[.ref a], []⟩) Rr s := by
  intro n
  induction n with
  | zero =>
    intro s gs hg hl hb hgs hgoes
    refine codeAny_builtin F.entry_all_loop ?_
    rw [Around.under_plainId F.plain_all_loop _]
    show wpAny _ A.in1 (pyNext (.ref a) >>= _) _ _ s
    refine wpAny_bind (wpAny_pyNext_genexpQ (P := fun _ _ s₁ => YE Y a go ws Qe s₁) hh hl hroom (hgo _ hg) hgs (hgoes _ rfl rfl (bare_set hb rfl)) (fun v s₁ gs' hb' hv => ?_) (fun s₁ hp h' hk => ?_))
    · obtain ⟨c, H, rfl, I, q⟩ := hv
      cases c with
      | false =>
        rw [if_pos rfl] at q
        refine wpAny_bind (wpAny_holding (wpAny_truthy_bool (wpAny_bind (wpAny_letGo ?_))))
        refine wpAny_bind (wpAny_rule (wpAny_pure ?_))
        exact hF s₁ gs' H hb' I q
      | true =>
        rw [if_neg (by decide)] at q
        exact (q s₁ rfl rfl I.bare).elim
    · refine wpAny_bind (wpAny_rule (wpAny_pure ?_))
      exact hT s₁ h' hp hk
  | succ n ih =>
    intro s gs hg hl hb hgs hgoes
    have hlt : gn < s.gens.size := by
      rcases Nat.lt_or_ge gn s.gens.size with h' | h'
      · exact h'
      · rw [Array.getElem?_eq_none h'] at hgs; cases hgs
    refine codeAny_builtin F.entry_all_loop ?_
    rw [Around.under_plainId F.plain_all_loop _]
    show wpAny _ A.in1 (pyNext (.ref a) >>= _) _ _ s
    refine wpAny_bind (wpAny_with_gens (Nat.le_refl s.gens.size) (wpAny_pyNext_genexpQ (P := fun _ _ s₁ => YE Y a go ws Qe s₁) hh hl hroom (hgo _ hg) hgs (hgoes _ rfl rfl (bare_set hb rfl)) (fun v s₁ gs' hb' hv => ?_) (fun s₁ hp h' hk => ?_)))
    · intro hsz
      have hsz : s.gens.size ≤ s₁.gens.size := by
        have z : s.gens.size ≤ (s₁.setGen gn gs').gens.size := hsz
        simpa [Shared.setGen] using z
      obtain ⟨c, H, rfl, I, q⟩ := hv
      cases c with
      | false =>
        rw [if_pos rfl] at q
        refine wpAny_bind (wpAny_holding (wpAny_truthy_bool (wpAny_bind (wpAny_letGo ?_))))
        refine wpAny_bind (wpAny_rule (wpAny_pure ?_))
        exact hF s₁ gs' H hb' I q
      | true =>
        rw [if_neg (by decide)] at q
        refine wpAny_bind (wpAny_holding (wpAny_truthy_bool (wpAny_bind (wpAny_letGo ?_))))
        refine wpAny_pure ⟨plainId_quiet F.plain_all_loop _, ih (s₁.setGen gn gs') gs' ?_ ?_ (bare_set I.bare hb') ?_ fun s'' h1 h2 h3 => q s'' h1 h2 h3⟩
        · exact (I.pin (a, go) (List.mem_append_right _ (List.mem_singleton.mpr rfl))).1
        · exact I.nolimit
        · show (s₁.gens.setIfInBounds gn gs')[gn]? = some gs'
          rw [Array.getElem?_setIfInBounds_self_of_lt (Nat.lt_of_lt_of_le hlt hsz)]
    · intro _
      refine wpAny_bind (wpAny_rule (wpAny_pure ?_))
      exact hT s₁ h' hp hk

/-- the loop of any(..) -/
theorem loop_any {prog : Program} {w : World} {gn : Nat} {ws : L2.St} {Qe Qd : Hp → Prop} {Rr : Result → Shared → Prop} (hh : A.handled = none) (hroom : A.depth < recursionLimit) (hgo : ∀ h : Heap, h.get? a = some go → h.IsGen a gn)
    (hT : ∀ s₁ h', YE Y a go ws Qe s₁ → (∀ b o, s₁.heap.get? b = some o → h'.get? b = some o) → Rr (.ok (.ret (.bool false))) { s₁.setGen gn .finished with heap := h' })
    (hF : ∀ s₁ gs' H, gs'.bare = true → Inv Y [(a, go)] ws H s₁ → Qd H → Rr (.ok (.ret (.bool true))) (s₁.setGen gn gs')) :
    ∀ (n : Nat) (s : Shared) (gs : GenState), s.heap.get? a = some go → s.heap.NoLimit → AllBare s.gens → s.gens[gn]? = some gs →
      (∀ s'' : Shared, s''.heap = s.heap → s''.os = s.os → AllBare s''.gens → gs.Goes (model prog w) A.in1.in1 (YR Y a go ws Qe) (YP true Y a go ws Qd) n (.send .none) s'') →
      codeAny (model prog w) A (.builtin "any.loop" ⟨[.ref a], []⟩) Rr s := by
  intro n
  induction n with
  | zero =>
    intro s gs hg hl hb hgs hgoes
    refine codeAny_builtin F.entry_any_loop ?_
    rw [Around.under_plainId F.plain_any_loop _]
    show wpAny _ A.in1 (pyNext (.ref a) >>= _) _ _ s
    refine wpAny_bind (wpAny_pyNext_genexpQ (P := fun _ _ s₁ => YE Y a go ws Qe s₁) hh hl hroom (hgo _ hg) hgs (hgoes _ rfl rfl (bare_set hb rfl)) (fun v s₁ gs' hb' hv => ?_) (fun s₁ hp h' hk => ?_))
    · obtain ⟨c, H, rfl, I, q⟩ := hv
      cases c with
      | true =>
        rw [if_pos rfl] at q
        refine wpAny_bind (wpAny_holding (wpAny_truthy_bool (wpAny_bind (wpAny_letGo ?_))))
        refine wpAny_bind (wpAny_rule (wpAny_pure ?_))
        exact hF s₁ gs' H hb' I q
      | false =>
        rw [if_neg (by decide)] at q
        exact (q s₁ rfl rfl I.bare).elim
    · refine wpAny_bind (wpAny_rule (wpAny_pure ?_))
      exact hT s₁ h' hp hk
  | succ n ih =>
    intro s gs hg hl hb hgs hgoes
    have hlt : gn < s.gens.size := by
      rcases Nat.lt_or_ge gn s.gens.size with h' | h'
      · exact h'
      · rw [Array.getElem?_eq_none h'] at hgs; cases hgs
    refine codeAny_builtin F.entry_any_loop ?_
    rw [Around.under_plainId F.plain_any_loop _]
    show wpAny _ A.in1 (pyNext (.ref a) >>= _) _ _ s
    refine wpAny_bind (wpAny_with_gens (Nat.le_refl s.gens.size) (wpAny_pyNext_genexpQ (P := fun _ _ s₁ => YE Y a go ws Qe s₁) hh hl hroom (hgo _ hg) hgs (hgoes _ rfl rfl (bare_set hb rfl)) (fun v s₁ gs' hb' hv => ?_) (fun s₁ hp h' hk => ?_)))
    · intro hsz
      have hsz : s.gens.size ≤ s₁.gens.size := by
        have z : s.gens.size ≤ (s₁.setGen gn gs').gens.size := hsz
        simpa [Shared.setGen] using z
      obtain ⟨c, H, rfl, I, q⟩ := hv
      cases c with
      | true =>
        rw [if_pos rfl] at q
        refine wpAny_bind (wpAny_holding (wpAny_truthy_bool (wpAny_bind (wpAny_letGo ?_))))
        refine wpAny_bind (wpAny_rule (wpAny_pure ?_))
        exact hF s₁ gs' H hb' I q
      | false =>
        rw [if_neg (by decide)] at q
        refine wpAny_bind (wpAny_holding (wpAny_truthy_bool (wpAny_bind (wpAny_letGo ?_))))
        refine wpAny_pure ⟨plainId_quiet F.plain_any_loop _, ih (s₁.setGen gn gs') gs' ?_ ?_ (bare_set I.bare hb') ?_ fun s'' h1 h2 h3 => q s'' h1 h2 h3⟩
        · exact (I.pin (a, go) (List.mem_append_right _ (List.mem_singleton.mpr rfl))).1
        · exact I.nolimit
        · show (s₁.gens.setIfInBounds gn gs')[gn]? = some gs'
          rw [Array.getElem?_setIfInBounds_self_of_lt (Nat.lt_of_lt_of_le hlt hsz)]
    · intro _
      refine wpAny_bind (wpAny_rule (wpAny_pure ?_))
      exact hT s₁ h' hp hk
end

theorem room_over {k : Nat} {A : Around} {elt : Expr} {gs : List Comprehension} {scope : Scope} {pos : Pos} {it acc : Value} {ce : Env} (hr : Room (k + 1) A) : Room k (A.in1.in1.over (.compLoop (.GeneratorExp elt gs scope pos) 0 it acc ce) []) := by
  have h1 := hr.hd
  have h2 := hr.dp
  have h3 := hr.un
  have w : (Code.compLoop (.GeneratorExp elt gs scope pos) 0 it acc ce).weight = 1 := rfl
  have u : (Code.compLoop (.GeneratorExp elt gs scope pos) 0 it acc ce).cUnits = 3 := rfl
  refine ⟨h1, ?_, ?_⟩
  · show A.depth + 0 + _ + 3 * k + 5 < _
    rw [w]; omega
  · show A.units + 1 + 1 + 0 + _ + 16 * k + 200 < _
    rw [u]; omega
theorem frames_over {A : Around} {elt : Expr} {gs : List Comprehension} {scope : Scope} {pos : Pos} {it acc : Value} {ce : Env} {l : List Env} (hf : A.frames = some l) : (A.in1.in1.over (.compLoop (.GeneratorExp elt gs scope pos) 0 it acc ce) []).frames = some (ce :: l) := by
  show pushEnvs [ce] (pushEnvs [] A.frames) = _
  rw [hf]; rfl
end GX
namespace GX
open PySem PySem.Spec PyProof.Rows L2 GxR

/-- a generator expression's names, code, table -/
structure GenX (X : Cx) (scope : Scope) (own : List (Str × Nat)) (c P : Addr) : Prop where
  ok : BlkOk X.N X.env.scope scope own
  nc : ∀ y ∈ scope.names, y.2 ≠ .cell
  co : scope.isCoroutine = false
  dot : scope.names.lookup (".0" : Str) = some NameKind.local
  tb : TabB X.base X.mg c P
  code : X.env.code = .ref c

abbrev gEnv (X : Cx) (scope : Scope) (C : Addr) (code : Value) : Env := genEnv scope (cloFrom X.env.cells scope.names []) C code builtinsNs X.env

section
variable {X : Cx} {pins : List (Addr × Obj)} {σ : L2.St} {H : Hp} {s : Shared}
/-- the generator is made -/
def GReady (d : Bool) (X : Cx) (pins : List (Addr × Obj)) (σ : L2.St) (Qe Qd : Hp → Prop) (u : Value) (s5 : Shared) : Prop :=
  ∃ (a : Addr) (gn : Nat) (go : Obj) (Y : Cx) (ws : L2.St) (n : Nat) (gs : GenState), u = .ref a ∧ (∀ h : Heap, h.get? a = some go → h.IsGen a gn) ∧ s5.heap.get? a = some go ∧ s5.heap.NoLimit ∧ AllBare s5.gens ∧ s5.gens[gn]? = some gs ∧
    (∀ s'' : Shared, s''.heap = s5.heap → s''.os = s5.os → AllBare s''.gens → gs.Goes (model X.prog X.w) X.A.in1.in1 (YR Y a go ws Qe) (YP d Y a go ws Qd) n (.send .none) s'') ∧
    (∀ s₁ H s', Inv Y [(a, go)] ws H s₁ → s'.os = s₁.os → (∀ b o, s₁.heap.get? b = some o → s'.heap.get? b = some o) → AllBare s'.gens → Inv X pins σ H s')

theorem gen_makeG {d : Bool} {tg elt iter : Expr} {ifs : List Expr} {scope : Scope} {own : List (Str × Nat)} {gpos : Pos} {c P : Addr} {wi : TI} {g : TG} {tt : TT} {te : TE} {k : Nat} {Qe Qd : Hp → Prop}
    (hr : Room (k + 1) X.A) (hc : X.calm = true) (hN : X.N.Nodup) (G : GenX X scope own c P) (hs : ∀ v, genFold iter X.env v = pure v) (hi : PI X tg iter wi)
    (hg : ∀ (s : Shared) (H : Hp) (C : Addr) (code : Value) (fp : List Addr) (A' : Around), Room k A' → PG (gCx X s H (gEnv X scope C code) fp A') tg g)
    (ht : ∀ (s : Shared) (H : Hp) (C : Addr) (code : Value) (fp : List Addr) (A' : Around), Room k A' → PTs (gCx X s H (gEnv X scope C code) fp A') ifs tt)
    (he : ∀ (s : Shared) (H : Hp) (C : Addr) (code : Value) (fp : List Addr) (A' : Around), Room k A' → PE (gCx X s H (gEnv X scope C code) fp A') elt te)
    (I : Inv X pins σ H s)
    (h : wi σ H fun J H1 => TabG H1 P ∧ ∀ H2, Tabbed P H1 H2 → ∃ W : Nat → Nat → Hp → Prop, (∃ m, W 0 m H2) ∧ Wk d J g tt te (own.map (·.2)) σ W Qe Qd) :
    wpAny (model X.prog X.w) X.A (eval (.GeneratorExp elt [⟨tg, iter, ifs, 0⟩] scope gpos) X.env) (GReady d X pins σ Qe Qd) X.xe s := by
  have ok := G.ok
  have hfree : ∀ y ∈ scope.names, y.2 = .free → ∃ c, X.env.cells.lookup y.1 = some c := fun y hy e => by
    rcases ok.free y hy e with k | k
    · exact I.ok.has _ (.inl k)
    · exact I.ok.has _ (.inr k)
  have dp := hr.dp
  refine wpAny_GeneratorExp_make G.co (closure_ok hfree) G.nc G.dot ok.kind (by omega) (thn (hi.run pins s σ H _ I h) fun xv s1 hx => thn hx fun itv s2 h2 => ?_) hs
  obtain ⟨it, fp, tn, J, H1, e, I1, T, st1, f1, ⟨ps, hP, hps⟩, q⟩ := h2
  subst e
  refine ⟨I1.nolimit, ?_⟩
  have tb0 : s2.heap.get? P = some { cls := .none, data := .fields ps } := I1.hok P _ hP
  have code1 : PySem.W.CodeHd s2.heap c P := G.tb.code.keeps fun b o e => I1.bk b o e
  have rest : ∀ (code : Value) (h3 : Heap) (tk : Nat) (ps3 : Array Value), Heap.ExtBut P s2.heap h3 → s2.heap.objs.size ≤ h3.objs.size → h3.get? P = some { cls := .none, data := .fields ps3 } →
      (∃ q, ps3 = ps ++ q) → TriplesOk ps3.toList →
      wpAny (model X.prog X.w) X.A (builtinsFor X.env.globals X.env.builtins) (fun bi s4 => ∀ h', h'.Ns s4.heap.objs.size (fun y => if y = ".0" then some (Value.ref it) else none) → Heap.SameBut s4.heap.objs.size (s4.heap.push { cls := .type "frame", data := .dict #[] }) h' →
          GReady d X pins σ Qe Qd (.ref h'.objs.size) { s4 with
            gens := s4.gens.push (.fresh (.compStart (.GeneratorExp elt [⟨tg, iter, ifs, 0⟩] scope gpos) 0 (.ref it) .none (genEnv scope (cloFrom X.env.cells scope.names []) s4.heap.objs.size code bi X.env))),
            toks := s4.toks + 1 + 1 + 1,
            heap := h'.push { cls := .type "generator", data := .fields #[.int s4.gens.size 0, .str "<genexpr>" (s4.toks + 1), .str (X.env.qual ++ "<genexpr>") (s4.toks + 1 + 1)] } }) X.xe { s2 with heap := h3, toks := tk } := by
    intro code h3 tk ps3 ext le3 tb3 ⟨qq, hq⟩ ok3
    obtain ⟨bm, om, m1, m2, m3, m4, m5, m6, m7, m8⟩ := G.tb.bm
    have k3 : ∀ b o, b ≠ P → s2.heap.get? b = some o → h3.get? b = some o := fun b o ne e => ext b o ne e
    refine wpAny_builtinsFor (m := X.mg) ?_ m1 m2 (k3 _ _ m4 (I1.bk _ _ m5)) m6 m7 m8 ?_
    · rw [I1.ok.glob]
      exact (I1.mod.glob.keeps I1.bk).extBut ext G.tb.gP
    rw [hq] at tb3
    have I4 : Inv X pins σ (upd H1 P (.tbl (ps ++ qq))) { s2 with heap := h3, toks := tk } := inv_tab (g' := s2.gens) (d' := s2.drawn) (t' := tk) I1 hP k3 tb3 I1.bare
    generalize hH4 : upd H1 P (.tbl (ps ++ qq)) = H4 at I4
    have TbG : Tabbed P H1 H4 := by
      subst hH4
      exact ⟨⟨ps ++ qq, upd_same, by rw [← hq]; exact ok3⟩, fun b ne => upd_ne ne⟩
    have nP : ∀ b ∈ fp, b ≠ P := fun b hb z => by
      have := (f1 b hb).1
      rw [z, hP] at this
      cases this
    have sz : ∀ b ∈ fp, b < s2.heap.objs.size := fun b hb => by
      obtain ⟨o, e, _⟩ := T.obj _ _ st1 b hb
      exact Heap.lt_size e
    have f4 : ∀ b ∈ fp, FpOk X pins H4 b ∧ b < h3.objs.size := fun b hb =>
      ⟨⟨by rw [TbG.2 b (nP b hb)]; exact (f1 b hb).1, (f1 b hb).2⟩, Nat.lt_of_lt_of_le (sz b hb) le3⟩
    have st3 : tn 0 h3 := T.keep _ _ _ st1 fun b hb o e => k3 b o (nP b hb) e
    obtain ⟨W, ⟨m0, w0⟩, hW⟩ := q H4 TbG
    generalize hs4 : ({ s2 with heap := h3, toks := tk } : Shared) = s4 at I4 ⊢
    have hh4 : s4.heap = h3 := by rw [← hs4]
    have f4 : ∀ b ∈ fp, FpOk X pins H4 b ∧ b < s4.heap.objs.size := by rw [hh4]; exact f4
    have st4 : tn 0 s4.heap := by rw [hh4]; exact st3
    intro h' hn' hs'
    have hsz : h'.objs.size = s4.heap.objs.size + 1 := by rw [hs'.1, Heap.size_push]
    have keep' : ∀ b o, s4.heap.get? b = some o → h'.get? b = some o := fun b o e => hs'.extBut b o (Nat.ne_of_lt (Heap.lt_size e)) (Heap.get?_push_of_some _ e)
    generalize hgo : ({ cls := .type "generator", data := .fields #[.int s4.gens.size 0, .str "<genexpr>" (s4.toks + 1), .str (X.env.qual ++ "<genexpr>") (s4.toks + 1 + 1)] } : Obj) = go
    have gog : ∀ h : Heap, h.get? h'.objs.size = some go → h.IsGen h'.objs.size s4.gens.size := fun h e => by
      rw [← hgo] at e
      exact ⟨_, _, _, e, rfl, rfl, rfl⟩
    have keep5 : ∀ b o, s4.heap.get? b = some o → (h'.push go).get? b = some o := fun b o e => Heap.get?_push_of_some _ (keep' b o e)
    have gfree : go.isFreed = false := by rw [← hgo]; rfl
    have hgoAt : (h'.push go).get? h'.objs.size = some go := Heap.get?_push_size _ gfree
    generalize hce : genEnv scope (cloFrom X.env.cells scope.names []) s4.heap.objs.size code builtinsNs X.env = ce
    generalize hA' : X.A.in1.in1.over (.compLoop (.GeneratorExp elt [⟨tg, iter, ifs, 0⟩] scope gpos) 0 (.ref it) .none ce) [] = A'
    have rm : Room k A' := by rw [← hA']; exact room_over hr
    have fr : A'.frames = some (ce :: X.stack) := by rw [← hA']; exact frames_over I1.ok.frames
    have bare5 : ∀ (x : GenState), x.bare = true → AllBare (s4.gens.push x) := fun x hx => I4.bare.push hx
    have I5 : ∀ (gs : Array GenState) (tk5 : Nat), AllBare gs → Inv (gCx X s4 H4 ce fp A') [(h'.objs.size, go)] (wipe σ (own.map (·.2))) H4 { s4 with gens := gs, toks := tk5, heap := h'.push go } := fun gs tk5 hb =>
      gen_start (X := X) (s := s4) (H := H4) (scope := scope) (own := own) (code := code) (m := fun y => if y = ".0" then some (Value.ref it) else none) I4 ok G.nc hN f4 (fun _ => rm.hd) fr hce.symm keep5 (hn'.push _) hgoAt (by rw [hsz]; exact Nat.lt_succ_self _) (fun v z => by rw [← hgo] at z; cases z) rfl hb
    have pg := hg s4 H4 s4.heap.objs.size code fp A' rm
    have pt := ht s4 H4 s4.heap.objs.size code fp A' rm
    have pe := he s4 H4 s4.heap.objs.size code fp A' rm
    have hce' : gEnv X scope s4.heap.objs.size code = ce := hce
    rw [hce'] at pg pt pe
    have cco : ce.scope.isCoroutine = false := by rw [← hce]; exact G.co
    refine ⟨h'.objs.size, s4.gens.size, go, gCx X s4 H4 ce fp A', wipe σ (own.map (·.2)), m0 + 1, _, rfl, gog, hgoAt, I4.nolimit.keeps keep5, bare5 _ rfl, Array.getElem?_push_size .., fun s'' h1 h2 h3' => ⟨rfl, ?_⟩, fun s₁ H' s' I6 ho kk hb => ?_⟩
    · refine seg_gs (Y := gCx X s4 H4 ce fp A') (fp := fp) (tn := tn) (J := J) (W := W) hA'.symm hc cco T rfl rfl (fun z => ?_) pg pt pe hW rfl m0 H4 s'' s'' (inv_heap (I5 (s4.gens.push .finished) 0 (bare5 _ rfl)) h1 h2 h3') ?_ (fun b hb => (f4 b hb).1.1) w0
      · have z2 : h'.objs.size < s4.heap.objs.size := (f4 _ z).2
        rw [hsz] at z2
        exact absurd z2 (by omega)
      · rw [h1]
        exact T.keep _ _ _ st4 fun b _ o e => keep5 b o e
    · exact I4.call' (ch := fp) (ho.trans I6.os) (Un.trans I6.base (Un.kept kk)) (I6.hok.kept kk) hb fun b hb => ⟨(f4 b hb).1.2.2.2.1, (f4 b hb).1.2.1, (f4 b hb).1.2.2.2.2.1, (f4 b hb).1.2.2.2.2.2⟩
  cases hcd : codeAmong gpos ps.toList with
  | some cv =>
    exact wpAny_genexprCode_hit G.code (code1.code tb0 hps) hcd (rest cv _ s2.toks ps (Heap.ExtBut.refl _ _) (Nat.le_refl _) tb0 ⟨#[], (Array.append_empty).symm⟩ hps)
  | none =>
    refine wpAny_genexprCodeX G.code (code1.code tb0 hps) (code1.tab tb0) hcd ?_
    intro c' h' tk ext ge lt isC _ tab' _
    obtain ⟨o1, v1, f1, f2, f3, f4, f5, f6, f7, f8, _, _, _, _, _, _, _, _, _, okT, _⟩ := isC
    exact rest _ h' tk _ ext (Nat.le_trans ge (Nat.le_of_lt lt)) tab'.2 ⟨_, rfl⟩ okT

/-- all(elt for tg in iter if ..), any(..): W by the turn and a measure -/
def tWalk (d : Bool) (P : Addr) (wi : TI) (g : TG) (tt : TT) (te : TE) (vs : List Nat) : TE := fun σ H Q => wi σ H fun J H1 => TabG H1 P ∧ ∀ H2, Tabbed P H1 H2 → ∃ W : Nat → Nat → Hp → Prop, (∃ m, W 0 m H2) ∧
  Wk d J g tt te vs σ W (fun H => Q (.bl (!d)) H) (fun H => Q (.bl d) H)

theorem pe_allG {tg elt iter : Expr} {ifs : List Expr} {scope : Scope} {own : List (Str × Nat)} {gpos p pos : Pos} {c P : Addr} {wi : TI} {g : TG} {tt : TT} {te : TE} {k : Nat}
    (hr : Room (k + 1) X.A) (hc : X.calm = true) (hN : X.N.Nodup) (hgl : Gl X "all") (hm : X.mg "all" = none) (G : GenX X scope own c P) (hi : PI X tg iter wi)
    (hg : ∀ (s : Shared) (H : Hp) (C : Addr) (code : Value) (fp : List Addr) (A' : Around), Room k A' → PG (gCx X s H (gEnv X scope C code) fp A') tg g)
    (ht : ∀ (s : Shared) (H : Hp) (C : Addr) (code : Value) (fp : List Addr) (A' : Around), Room k A' → PTs (gCx X s H (gEnv X scope C code) fp A') ifs tt)
    (he : ∀ (s : Shared) (H : Hp) (C : Addr) (code : Value) (fp : List Addr) (A' : Around), Room k A' → PE (gCx X s H (gEnv X scope C code) fp A') elt te)
    (hs : ∀ v, genFold iter X.env v = pure v)
    (hst : starEach [.GeneratorExp elt [⟨tg, iter, ifs, 0⟩] scope gpos] X.env = (false, eval (.GeneratorExp elt [⟨tg, iter, ifs, 0⟩] scope gpos) X.env) :: starEach [] X.env := by rfl) :
    PE X (.Call (.Name "all" p) [.GeneratorExp elt [⟨tg, iter, ifs, 0⟩] scope gpos] [] pos) (tWalk false P wi g tt te (own.map (·.2))) := by
  refine ⟨fun pins s σ H Q I h => ?_⟩
  refine wpAny_Call_Name_kw (ld_blt I hgl hm (show bootBuiltins "all" = some (.builtin "all") by decide +kernel) ?_)
  refine PyProof.Rows.callWith_builtin1 ?_ hst (by rfl)
  rw [hst]
  have dp := hr.dp
  refine Calls.spliced_cons (thn (gen_makeG (d := false) hr hc hN G hs hi hg ht he I h) fun u s5 R => ?_)
  obtain ⟨a, gn, go, Y, ws, n, gs, rfl, gog, hgo, hl, hb, hgs, goes, back⟩ := R
  refine Calls.spliced_nil (call_function_tree F.kind_all F.plain_all F.entry_all (F.args_all1 _) ?_)
  unfold Builtin.«all»
  refine wpAny_bind (m := oneArg "all" _) (wpAny_pure ?_)
  refine wpAny_bind (wpAny_pyIter_gen (gog _ hgo) (wpAny_pure ⟨plainId_quiet F.plain_all_loop _, loop_all (Y := Y) (go := go) (ws := ws) (Qe := fun H => Q (.bl (!false)) H) (Qd := fun H => Q (.bl false) H) hr.hd (by omega) gog (fun s₁ h' ⟨H', I', q⟩ hk => ?_) (fun s₁ gs' H' hb' I' q => ?_) n s5 gs hgo hl hb hgs goes⟩))
  · exact ⟨.bl false, H', back s₁ H' _ I' rfl (fun _ _ e => e) (bare_set I'.bare hb'), rfl, q⟩
  · exact ⟨.bl true, H', back s₁ H' _ I' rfl hk (bare_set I'.bare rfl), rfl, q⟩

theorem pe_anyG {tg elt iter : Expr} {ifs : List Expr} {scope : Scope} {own : List (Str × Nat)} {gpos p pos : Pos} {c P : Addr} {wi : TI} {g : TG} {tt : TT} {te : TE} {k : Nat}
    (hr : Room (k + 1) X.A) (hc : X.calm = true) (hN : X.N.Nodup) (hgl : Gl X "any") (hm : X.mg "any" = none) (G : GenX X scope own c P) (hi : PI X tg iter wi)
    (hg : ∀ (s : Shared) (H : Hp) (C : Addr) (code : Value) (fp : List Addr) (A' : Around), Room k A' → PG (gCx X s H (gEnv X scope C code) fp A') tg g)
    (ht : ∀ (s : Shared) (H : Hp) (C : Addr) (code : Value) (fp : List Addr) (A' : Around), Room k A' → PTs (gCx X s H (gEnv X scope C code) fp A') ifs tt)
    (he : ∀ (s : Shared) (H : Hp) (C : Addr) (code : Value) (fp : List Addr) (A' : Around), Room k A' → PE (gCx X s H (gEnv X scope C code) fp A') elt te)
    (hs : ∀ v, genFold iter X.env v = pure v)
    (hst : starEach [.GeneratorExp elt [⟨tg, iter, ifs, 0⟩] scope gpos] X.env = (false, eval (.GeneratorExp elt [⟨tg, iter, ifs, 0⟩] scope gpos) X.env) :: starEach [] X.env := by rfl) :
    PE X (.Call (.Name "any" p) [.GeneratorExp elt [⟨tg, iter, ifs, 0⟩] scope gpos] [] pos) (tWalk true P wi g tt te (own.map (·.2))) := by
  refine ⟨fun pins s σ H Q I h => ?_⟩
  refine wpAny_Call_Name_kw (ld_blt I hgl hm (show bootBuiltins "any" = some (.builtin "any") by decide +kernel) ?_)
  refine PyProof.Rows.callWith_builtin1 ?_ hst (by rfl)
  rw [hst]
  have dp := hr.dp
  refine Calls.spliced_cons (thn (gen_makeG (d := true) hr hc hN G hs hi hg ht he I h) fun u s5 R => ?_)
  obtain ⟨a, gn, go, Y, ws, n, gs, rfl, gog, hgo, hl, hb, hgs, goes, back⟩ := R
  refine Calls.spliced_nil (call_function_tree F.kind_any F.plain_any F.entry_any (F.args_any1 _) ?_)
  unfold Builtin.«any»
  refine wpAny_bind (m := oneArg "any" _) (wpAny_pure ?_)
  refine wpAny_bind (wpAny_pyIter_gen (gog _ hgo) (wpAny_pure ⟨plainId_quiet F.plain_any_loop _, loop_any (Y := Y) (go := go) (ws := ws) (Qe := fun H => Q (.bl (!true)) H) (Qd := fun H => Q (.bl true) H) hr.hd (by omega) gog (fun s₁ h' ⟨H', I', q⟩ hk => ?_) (fun s₁ gs' H' hb' I' q => ?_) n s5 gs hgo hl hb hgs goes⟩))
  · exact ⟨.bl true, H', back s₁ H' _ I' rfl (fun _ _ e => e) (bare_set I'.bare hb'), rfl, q⟩
  · exact ⟨.bl false, H', back s₁ H' _ I' rfl hk (bare_set I'.bare rfl), rfl, q⟩
end
end GX
namespace GX
open PySem PySem.Spec PyProof.Rows L2 GxR
/-! the walks of all(..), any(..) by an invariant -/
theorem wk_range {d : Bool} {lo : Int} {n : Nat} {g : TG} {tt : TT} {te : TE} {vs : List Nat} {σ : L2.St} {Qe Qd : Hp → Prop} {H0 : Hp} (Pv : Nat → Hp → Prop) (h0 : Pv 0 H0)
    (hs : ∀ i H, i < n → Pv i H → g (.int (lo + i)) (wipe σ vs) H fun σ2 H2 => wipe σ2 vs = wipe σ vs ∧ tt σ2 H2 fun b H3 =>
      if b = true then te σ2 H3 fun y H4 => ∃ c, y = .bl c ∧ if c = d then Qd H4 else Pv (i + 1) H4 else Pv (i + 1) H3) (hd : ∀ H, Pv n H → Qe H) :
    ∃ W : Nat → Nat → Hp → Prop, (∃ m, W 0 m H0) ∧ Wk d (Itr lo n) g tt te vs σ W Qe Qd := by
  refine ⟨fun i m H => m = n - i ∧ i ≤ n ∧ Pv i H, ⟨n, by simp, Nat.zero_le _, h0⟩, ?_⟩
  rintro i m H ⟨rfl, hi, p⟩
  by_cases hlt : i < n
  · refine .inr ⟨hlt, Pv (i + 1), fun H' p' => ⟨n - (i + 1), by omega, rfl, hlt, p'⟩, fun x H' y => ?_⟩
    obtain ⟨rfl, rfl⟩ := y
    exact hs i _ hlt p
  · have e : i = n := by omega
    subst e
    exact .inl ⟨Nat.le_refl _, hd H p⟩
theorem wk_list {d : Bool} {K : PySem.W.Frag} {a : Addr} {xs : List V} {g : TG} {tt : TT} {te : TE} {vs : List Nat} {σ : L2.St} {Qe Qd : Hp → Prop} {H0 : Hp} (Pv : Nat → Hp → Prop) (h0 : Pv 0 H0) (hl : ∀ i H, i ≤ xs.length → Pv i H → SqL K H a xs)
    (hs : ∀ i x H, xs[i]? = some x → Pv i H → g x (wipe σ vs) H fun σ2 H2 => wipe σ2 vs = wipe σ vs ∧ tt σ2 H2 fun b H3 =>
      if b = true then te σ2 H3 fun y H4 => ∃ c, y = .bl c ∧ if c = d then Qd H4 else Pv (i + 1) H4 else Pv (i + 1) H3) (hd : ∀ H, Pv xs.length H → Qe H) :
    ∃ W : Nat → Nat → Hp → Prop, (∃ m, W 0 m H0) ∧ Wk d (Itl K a) g tt te vs σ W Qe Qd := by
  refine ⟨fun i m H => m = xs.length - i ∧ i ≤ xs.length ∧ Pv i H, ⟨xs.length, by simp, Nat.zero_le _, h0⟩, ?_⟩
  rintro i m H ⟨rfl, hi, p⟩
  have q := hl i H hi p
  by_cases hlt : i < xs.length
  · refine .inr ⟨⟨xs, xs[i], q, by simp [hlt]⟩, Pv (i + 1), fun H' p' => ⟨xs.length - (i + 1), by omega, rfl, hlt, p'⟩, fun x H' y => ?_⟩
    obtain ⟨rfl, e⟩ := y
    exact hs i x _ (e xs q) p
  · have e : i = xs.length := by omega
    subst e
    exact .inl ⟨⟨xs, q, Nat.le_refl _⟩, hd H p⟩
end GX
/-! dicts keyed by tuples: del, truth, comprehensions; a dict comprehension whatever its keys are -/
namespace GX
open PySem PySem.Spec PyProof.Rows L2 GxR

section
variable {X : Cx}
theorem ktDrop {H : Hp} {kvs : List (List Key × V)} {xs : List (List Key × Addr × Value)} (k : List Key) (h : KT H kvs xs) : KT H (dropK kvs k) (withoutH xs k) := DX.KT_drop k h
/-- del d[y], keys tuples -/
def sDDelT (td ty : TE) : TS := fun D σ H => td σ H fun x H1 => ty σ H1 fun y H2 => ∃ (a : Addr) (kvs : List (List Key × V)) (k : List Key) (b : Addr), x = .ref a ∧ H2 a = some (.dT kvs) ∧ y = .ref b ∧ H2 b = some (.tup (k.map kV)) ∧ (valV kvs k).isSome = true ∧ D.nx σ (upd H2 a (.dT (dropK kvs k)))
theorem ps_ddelT {o i : Expr} {pos tpos : Pos} {td ty : TE} (hu : X.A.units + 1 < cLine) (ho : PE X o td) (hi : PE X i ty) : PS X (.Delete [.Subscript o i tpos] pos) (sDDelT td ty) := by
  refine ⟨fun pins s σ H D I h => ?_⟩
  refine wpAny_Delete (wpAny_deleteEach_cons (wpAny_delete_Subscript (thn (ho.run pins s σ H _ I h) fun u s1 ⟨x, H1, I1, rx, q1⟩ => thn (hi.run pins s1 σ H1 _ I1 q1) fun iv s2 ⟨y, H2, I2, ry, a, kvs, k, b, ex, e, ey, eb, l, q2⟩ => ?_)))
  subst ex ey
  obtain rfl : u = Value.ref a := rx
  obtain rfl : iv = Value.ref b := ry
  obtain ⟨z, hd, xs, rel, dd⟩ := dt_of I2.hok e
  have hz : xs.length ≤ sizeLine := by rw [← Paired.length rel]; exact z
  have r := rel.val k
  obtain ⟨v0, ev⟩ := Option.isSome_iff_exists.mp l
  obtain ⟨w', hw, _⟩ := RelO.some_of (v := v0) (o := (atKey xs k).map (·.2)) (by rw [← ev]; exact r)
  obtain ⟨p, hp, _⟩ := Option.map_eq_some_iff.mp hw
  refine wpAny_delItem_heap (hsz := hz) (tupleKind_room_in1 hu) (key_of I2.hok eb) hd dd hp fun h' dd' hs => ?_
  obtain ⟨q, es, ep, hq, h2, h3, h4, _, h5⟩ := dd'
  refine wpAny_deleteEach_nil ⟨σ, _, d_write (ob := .dT (dropK kvs k)) I2 (by rw [e]; exact True.intro) hs ⟨q, hq⟩ ⟨Nat.le_trans (dropK_le kvs k) z, hd, _, (ktDrop k rel).keeps fun c ys ec => ?_, q, es, ep, hq, h2, h3, h4, h5⟩, q2⟩
  rw [upd_ne (ne_of ec e (fun z => nomatch z))]
  exact ec
end
section
variable {prog : Program} {w : World} {κ : Type} [DecidableEq κ] {knd : HeapKind prog w κ} {A : Around} {E : Value → Shared → Prop} {s : Shared}
/-- the truth of a dict whose keys stand in the heap -/
theorem truthy_dictH {d : Addr} {xs : List (κ × Addr × Value)} {Q : Bool → Shared → Prop} (hd : (d == sysModules) = false) (hm : s.heap.DictOfH knd d xs) (hfit : (xs.length : Int) < 2 ^ 63)
    (h : Q (!xs.isEmpty) { s with toks := s.toks + 1 + 1 }) : wpAny (model prog w) A (truthy (.ref d)) Q E s := by
  have hne : ((xs.length : Int) != 0) = !xs.isEmpty := by cases xs <;> simp <;> omega
  have len : wpAny (model prog w) A (runValue (.builtin "len" ⟨[.ref d], []⟩)) (fun r s' => r = .int xs.length (s.toks + 1) ∧ Q (!xs.isEmpty) s') E s := by
    refine wpAny_runValue (codeAny_builtin entry_len ?_)
    rw [Around.under_plainId plain_len _]
    exact wpAny_mono (wpAny_len_body_dictH (Q := fun r s' => r = .int xs.length (s.toks + 1) ∧ Q (!xs.isEmpty) s') hd hm hfit ⟨rfl, h⟩) (fun fin s' ⟨r, e, q⟩ => by subst e; exact q) fun _ _ e => e
  have fin : ∀ (r : Value) (s' : Shared), (r = .int xs.length (s.toks + 1) ∧ Q (!xs.isEmpty) s') → wpAny (model prog w) A (match r with | .int n _ => pure (n != 0) | _ => pure true) Q E s' := fun r s' ⟨e, q⟩ => by
    subst e
    exact wpAny_pure (hne ▸ q)
  unfold truthy
  first
    | refine wpAny_bind (wpAny_callSpecial?_none (name := Str.ofString "__bool__") hm.typeIs noBool_dict ?_)
    | refine wpAny_bind (wpAny_pure (wpAny_bind (wpAny_callSpecial?_none (name := Str.ofString "__bool__") hm.typeIs noBool_dict ?_)))
  first
    | refine wpAny_bind (wpAny_specialOf (name := Str.ofString "__len__") hm.typeIs F.slot_dict_len.lookup ?_)
    | refine wpAny_bind (wpAny_pure (wpAny_bind (wpAny_specialOf (name := Str.ofString "__len__") hm.typeIs F.slot_dict_len.lookup ?_)))
  first
    | exact wpAny_bind (wpAny_mono len (fun r s' ⟨e, q⟩ => by subst e; exact wpAny_pure (hne ▸ q)) fun _ _ e => e)
    | exact wpAny_bind (wpAny_pure (wpAny_bind (wpAny_mono len (fun r s' ⟨e, q⟩ => by subst e; exact wpAny_pure (hne ▸ q)) fun _ _ e => e)))
end
section
variable {X : Cx}
def tTruT (ta : TE) : TT := fun σ H Q => ta σ H fun x H1 => ∃ (a : Addr) (kvs : List (List Key × V)), x = .ref a ∧ H1 a = some (.dT kvs) ∧ Q (!kvs.isEmpty) H1
theorem pt_truT {e : Expr} {ta : TE} (ha : PE X e ta) (he : ∀ whole, isTrue e X.env whole = (do let v ← whole; standAt e.pos; holding [v] (truthy v))) : PT X e (tTruT ta) := by
  refine ⟨fun pins s σ H Q I h => ?_⟩
  refine isTrue_plain (thn (ha.run pins s σ H _ I h) fun v s1 ⟨x, H1, I1, r1, a, kvs, ex, e1, q⟩ => ?_) (he _)
  subst ex
  obtain rfl : v = Value.ref a := r1
  obtain ⟨z, hd, xs, rel, dd⟩ := dt_of I1.hok e1
  have hl : kvs.length = xs.length := Paired.length rel
  have h63 := line63
  have ee : xs.isEmpty = kvs.isEmpty := by
    cases kvs with
    | nil => cases xs with
      | nil => rfl
      | cons _ _ => cases hl
    | cons _ _ => cases xs with
      | nil => cases hl
      | cons _ _ => rfl
  exact truthy_dictH hd dd (by omega) ⟨H1, I1.tok _, by rw [ee]; exact q⟩

/-! ### a dict comprehension: o0 the empty dict, put the reading of a store -/
def PutR (put : Addr → V → V → Hp → (Hp → Prop) → Prop) (X : Cx) : Prop := ∀ (pins : List (Addr × Obj)) (s : Shared) (σ : L2.St) (H : Hp) (D : Addr) (y z : V) (u r : Value) (N : Hp → Prop), Inv X pins σ H s → RelV y u → RelV z r → put D y z H N →
  wpAny (model X.prog X.w) X.A (dictSet D u r) (fun _ s' => ∃ H', Inv X pins σ H' s' ∧ N H') (fun _ _ => False) s
def tDg (o0 : HO) (put : Addr → V → V → Hp → (Hp → Prop) → Prop) (wi : TI) (g : TG) (tt : TT) (tk tv : TE) (vs : List Nat) : TE := fun σ H Q => wi σ H fun J H1 => ∀ D, H1 D = none → ∃ W : Nat → Nat → Hp → Prop, (∃ m, W 0 m (upd H1 D o0)) ∧ ∀ i m H, W i m H →
  (J.stop i H ∧ Q (.ref D) H) ∨ (J.go i H ∧ ∃ Nx : Hp → Prop, (∀ H', Nx H' → ∃ m', m' < m ∧ W (i + 1) m' H') ∧ ∀ x H', J.yld i H x H' → g x (wipe σ vs) H' fun σ2 H2 => wipe σ2 vs = wipe σ vs ∧ tt σ2 H2 fun b H3 =>
    if b = true then tk σ2 H3 fun y H4 => tv σ2 H4 fun z H5 => put D y z H5 Nx else Nx H3)
theorem dg_core {o0 : HO} {put : Addr → V → V → Hp → (Hp → Prop) → Prop} {pins : List (Addr × Obj)} {s : Shared} {σ : L2.St} {H : Hp} {Q : VK} {kx vx tg iter : Expr} {ifs : List Expr} {scope : Scope} {own : List (Str × Nat)} {pos pos' : Pos} {wi : TI} {g : TG} {tt : TT} {tk tv : TE} {use : Option (Value → Sem Unit)} {Qf : Value → Shared → Prop}
    (he0 : ∀ (H : Hp) (h : Heap), sysModules < h.objs.size → ObjOk X.prog X.w H (h.push { cls := .type "dict", data := .dict #[] }) h.objs.size o0)
    (hc : X.calm = true) (hN : X.N.Nodup) (I : Inv X pins σ H s) (hi : PI X tg iter wi) (ok : BlkOk X.N X.env.scope scope own)
    (hg : ∀ (s : Shared) (H : Hp) (C : Addr) (cl : List (Str × Addr)) (fp : List Addr), PG (X.blk s H scope (compEnvC scope cl C X.env) fp) tg g) (ht : ∀ (s : Shared) (H : Hp) (C : Addr) (cl : List (Str × Addr)) (fp : List Addr), PTs (X.blk s H scope (compEnvC scope cl C X.env) fp) ifs tt)
    (hk : ∀ (s : Shared) (H : Hp) (C : Addr) (cl : List (Str × Addr)) (fp : List Addr), PE (X.blk s H scope (compEnvC scope cl C X.env) fp) kx tk)
    (he : ∀ (s : Shared) (H : Hp) (C : Addr) (cl : List (Str × Addr)) (fp : List Addr), PE (X.blk s H scope (compEnvC scope cl C X.env) fp) vx tv)
    (hp : ∀ (s : Shared) (H : Hp) (C : Addr) (cl : List (Str × Addr)) (fp : List Addr), PutR put (X.blk s H scope (compEnvC scope cl C X.env) fp)) (hs : ∀ x, foldedSetIterable iter X.env x = pure x)
    (h : tDg o0 put wi g tt tk tv (own.map (·.2)) σ H Q)
    (hRR : ∀ D C s' m H', Inv X pins σ H' s' → Q (.ref D) H' → s'.heap.Ns C m → FpOk X pins H' C → compPost (model X.prog X.w) X.A X.xe use Qf (.ref D) C (.ok .next) s') :
    wpAny (model X.prog X.w) X.A (comprehension (.DictComp kx vx [⟨tg, iter, ifs, 0⟩] scope pos) scope X.env pos' newDict false (eval iter X.env) use) Qf X.xe s := by
  have hfree : ∀ y ∈ scope.names, y.2 = .free → ∃ c, X.env.cells.lookup y.1 = some c := fun y hy e => (ok.free y hy e).elim (fun k => I.ok.has _ (.inl k)) fun k => I.ok.has _ (.inr k)
  refine wpAny_comprehension_free (use := use) rfl hs (closure_ok hfree) ok.kind (fun y hy e => by rw [ok.uniq y hy, e]) (thn (hi.run pins s σ H _ I h) fun xv s1 hx => thn hx fun itv s2 ⟨it, fp, tn, J, H2, e, I2, T, st2, f2, q⟩ => ?_)
  subst e
  refine wpAny_newObj_type (newEnv_comp ?_)
  obtain ⟨W, ⟨m0, w0⟩, turn⟩ := q s2.heap.objs.size (I2.hok.fresh (Nat.le_refl _))
  have I3 : Inv X pins σ (upd H2 s2.heap.objs.size o0) { s2 with heap := s2.heap.push { cls := .type "dict", data := .dict #[] } } :=
    I2.laid (t' := s2.toks) (fun b o e => Heap.get?_push_of_some _ e) (Nat.le_refl _) (he0 _ _ I2.big)
  have f3 : ∀ b ∈ fp, FpOk X pins (upd H2 s2.heap.objs.size o0) b ∧ b < (s2.heap.push { cls := .type "dict", data := .dict #[] }).objs.size := fun b hb => by
    obtain ⟨o, e, _⟩ := T.obj _ _ st2 b hb
    have hlt := Heap.lt_size e
    exact ⟨⟨by rw [upd_ne (Nat.ne_of_lt hlt)]; exact (f2 b hb).1, (f2 b hb).2⟩, by rw [Heap.size_push]; exact Nat.lt_succ_of_lt hlt⟩
  have st3 : tn 0 (s2.heap.push { cls := .type "dict", data := .dict #[] }) := T.keep _ _ _ st2 fun b _ o e => Heap.get?_push_of_some _ e
  generalize s2.heap.objs.size = D at I3 f3 w0 turn ⊢
  generalize hs3 : ({ s2 with heap := s2.heap.push { cls := .type "dict", data := .dict #[] } } : Shared) = s3 at I3 ⊢
  have h3 : s2.heap.push { cls := .type "dict", data := .dict #[] } = s3.heap := by rw [← hs3]
  rw [h3] at f3 st3
  have I4 := block_start I3 ok hN f3
  have pg := hg s3 (upd H2 D o0) s3.heap.objs.size (cellsFrom (s3.heap.objs.size + 1) scope.names (cloFrom X.env.cells scope.names [])) fp
  have pt := ht s3 (upd H2 D o0) s3.heap.objs.size (cellsFrom (s3.heap.objs.size + 1) scope.names (cloFrom X.env.cells scope.names [])) fp
  have pk := hk s3 (upd H2 D o0) s3.heap.objs.size (cellsFrom (s3.heap.objs.size + 1) scope.names (cloFrom X.env.cells scope.names [])) fp
  have pe := he s3 (upd H2 D o0) s3.heap.objs.size (cellsFrom (s3.heap.objs.size + 1) scope.names (cloFrom X.env.cells scope.names [])) fp
  have pp := hp s3 (upd H2 D o0) s3.heap.objs.size (cellsFrom (s3.heap.objs.size + 1) scope.names (cloFrom X.env.cells scope.names [])) fp
  show codeAny _ _ (.compStart (.DictComp kx vx [⟨tg, iter, ifs, 0⟩] scope pos) 0 (.ref it) (.ref D) (compEnvC scope (cellsFrom (s3.heap.objs.size + 1) scope.names (cloFrom X.env.cells scope.names [])) s3.heap.objs.size X.env)) (compPost (model X.prog X.w) X.A X.xe use Qf (.ref D) s3.heap.objs.size) { s3 with heap := pushCells (s3.heap.push { cls := .type "dict", data := .dict #[] }) scope.names }
  generalize hce : compEnvC scope (cellsFrom (s3.heap.objs.size + 1) scope.names (cloFrom X.env.cells scope.names [])) s3.heap.objs.size X.env = ce at I4 pg pt pk pe pp ⊢
  have cL : ce.locals = s3.heap.objs.size := by rw [← hce]; rfl
  have nfp : ∀ b ∈ fp, upd H2 D o0 b = none := fun b hb => (f3 b hb).1.1
  generalize upd H2 D o0 = H3 at I3 I4 pg pt pk pe pp w0 nfp f3
  have st4 : tn 0 (pushCells (s3.heap.push { cls := .type "dict", data := .dict #[] }) scope.names) := T.keep _ _ _ st3 fun b _ o e => pushCells_keeps _ _ _ _ (Heap.get?_push_of_some _ e)
  generalize hs4 : ({ s3 with heap := pushCells (s3.heap.push { cls := .type "dict", data := .dict #[] }) scope.names } : Shared) = s4 at I4 ⊢
  have st4 : tn 0 s4.heap := by rw [← hs4]; exact st4
  generalize hY : X.blk s3 H3 scope ce fp = Y at I4 pg pt pk pe pp
  have yx : Y.ex = fp ∧ Y.pn = [] ∧ Y.prog = X.prog ∧ Y.w = X.w ∧ Y.K = X.K ∧ Y.calm = true ∧ Y.A = X.A ∧ Y.env = ce ∧ Y.xe = (fun _ _ => False) ∧ Y.fs = frs X.stack ∧ Y.H_0 = H3 ∧ Y.s_0 = s3 := by
    rw [← hY]
    exact ⟨rfl, rfl, rfl, rfl, rfl, hc, rfl, rfl, rfl, rfl, rfl, rfl⟩
  obtain ⟨y1, y2, y3, y4, y5, y6, y7, y8, y9, y10, y11, y12⟩ := yx
  have T0 := T
  have T : Turn Y.prog Y.w Y.K tg J fp it tn := by rw [y3, y4, y5]; exact T
  have stat : ∀ {σ' : L2.St} {H' : Hp} {s' : Shared}, Inv Y [] σ' H' s' → (∀ b ∈ fp, H' b = none) → ∀ b ∈ fp, FpOk Y [] H' b := fun {σ' H' s'} I' hn b hb =>
    ⟨hn b hb, (I'.ok.exf b (y1 ▸ hb)).1, I'.ok.exfs b (y1 ▸ hb), .inl (y1 ▸ hb), fun x c e => (I'.ok.exf b (y1 ▸ hb)).2 x c e, fun p hp => by rw [y2] at hp; cases hp⟩
  have loop : codeAny (model X.prog X.w) X.A (.compLoop (.DictComp kx vx [⟨tg, iter, ifs, 0⟩] scope pos) 0 (.ref it) (.ref D) ce) (compPost (model X.prog X.w) X.A X.xe use Qf (.ref D) s3.heap.objs.size) s4 := by
    refine compLoop_anyD (fun n s' => ∃ i H', Inv Y [] (wipe σ (own.map (·.2))) H' s' ∧ tn i s'.heap ∧ (∀ b ∈ fp, H' b = none) ∧ W i n H') ?_ m0 ⟨0, H3, I4, st4, nfp, w0⟩
    rw [← y3, ← y4, ← y7, ← y8]
    rintro n s5 ⟨i, H5, I5, st5, n5, w5⟩
    rcases turn i n H5 w5 with ⟨stop, qq⟩ | ⟨go, Nx, hNx, step⟩
    · refine thnF (T.done Y rfl rfl rfl y6 i [] s5 _ H5 (fun _ _ => False) I5 (stat I5 n5) st5 stop) fun r s6 ⟨hr, I6⟩ => ?_
      subst hr
      have b6 := I6.base
      rw [y10, y1, y11, y12] at b6
      have o6 := I6.os
      rw [y12] at o6
      have k6 := I6.hok
      rw [y3, y4] at k6
      have I7 : Inv X pins σ H5 s6 := I3.call' (ch := fp) o6 b6 k6 I6.bare fun b hb => ⟨(f3 b hb).1.2.2.2.1, (f3 b hb).1.2.1, (f3 b hb).1.2.2.2.2.1, (f3 b hb).1.2.2.2.2.2⟩
      have nC : H5 s3.heap.objs.size = none := by
        have z := I6.free
        rw [y8, cL] at z
        exact z
      obtain ⟨m, hn, _⟩ := I6.loc
      rw [y8, cL] at hn
      show compPost _ _ _ _ _ _ _ _ _
      rw [y3, y4, y7]
      exact hRR D s3.heap.objs.size s6 m H5 I7 qq hn (I3.fpOk (Nat.le_refl _) nC)
    · refine thnF (T.item Y rfl rfl rfl y6 i [] s5 _ H5 (fun _ _ => False) I5 (stat I5 n5) st5 go) fun r s6 ⟨u, hr, h6⟩ => ?_
      subst hr
      refine thnF h6 fun _ s7 ⟨x, H7, I7, r7, yy, st7, n7⟩ => ?_
      have I7' := I7.pinned (stat I7 n7) (T.obj _ _ st7)
      have a1 := pg.run _ s7 _ H7 x u _ I7' r7 (step x H7 yy)
      rw [y9] at a1
      refine thnF a1 fun _ s8 ⟨σ8, H8, I8, hw8, q8⟩ => ?_
      have a2 := pt.run _ s8 σ8 H8 _ I8 q8
      rw [y9] at a2
      refine thnF a2 fun b s9 ⟨H9, I9, q9⟩ => ?_
      have fin : ∀ {s' : Shared} {H' : Hp}, Inv Y ([] ++ pinsAt fp s7.heap) σ8 H' s' → Nx H' → ∃ m, m < n ∧ ∃ i H', Inv Y [] (wipe σ (own.map (·.2))) H' s' ∧ tn i s'.heap ∧ (∀ b ∈ fp, H' b = none) ∧ W i m H' := fun {s' H'} I' nx => by
        obtain ⟨m', hm, w'⟩ := hNx H' nx
        have pin' : ∀ b ∈ fp, ∀ o, s7.heap.get? b = some o → s'.heap.get? b = some o ∧ H' b = none := fun b hb o e =>
          let z := I'.pin (b, o) (List.mem_append_right _ (List.mem_append_right _ (mem_pinsAt hb e)))
          ⟨z.1, z.2.1⟩
        refine ⟨m', hm, i + 1, H', (I'.unpinned (pins := [])).weak (by rw [← wipe_length σ8 (own.map (·.2)), hw8]) (fun j v e => ?_), T.keep _ _ _ st7 fun b hb o e => (pin' b hb o e).1, fun b hb => ?_, w'⟩
        · rw [← hw8] at e
          exact (wipe_some e).1
        · obtain ⟨o, e, _⟩ := T.obj _ _ st7 b hb
          exact (pin' b hb o e).2
      cases b with
      | false =>
        simp only [Bool.false_eq_true, if_false] at q9 ⊢
        exact fin I9 q9
      | true =>
        simp only [if_true] at q9 ⊢
        have a3 := pk.run _ s9 σ8 H9 _ I9 q9
        rw [y9] at a3
        refine thnF a3 fun z s10 ⟨yk, H10, I10, r10, q10⟩ => ?_
        have a4 := pe.run _ s10 σ8 H10 _ I10 q10
        rw [y9] at a4
        refine thnF a4 fun z2 s11 ⟨yv, H11, I11, r11, q11⟩ => ?_
        exact thnF (pp _ s11 σ8 H11 D yk yv z z2 Nx I11 r10 r11 q11) fun _ s12 ⟨H12, I12, nx⟩ => fin I12 nx
  exact codeAny_compStart_dict loop (T0.self X.A 0 _ _ _ st4 loop)
theorem pe_dg {o0 : HO} {put : Addr → V → V → Hp → (Hp → Prop) → Prop} {kx vx tg iter : Expr} {ifs : List Expr} {scope : Scope} {own : List (Str × Nat)} {pos : Pos} {wi : TI} {g : TG} {tt : TT} {tk tv : TE}
    (he0 : ∀ (H : Hp) (h : Heap), sysModules < h.objs.size → ObjOk X.prog X.w H (h.push { cls := .type "dict", data := .dict #[] }) h.objs.size o0) (hc : X.calm = true) (hN : X.N.Nodup) (hi : PI X tg iter wi) (ok : BlkOk X.N X.env.scope scope own)
    (hg : ∀ (s : Shared) (H : Hp) (C : Addr) (cl : List (Str × Addr)) (fp : List Addr), PG (X.blk s H scope (compEnvC scope cl C X.env) fp) tg g) (ht : ∀ (s : Shared) (H : Hp) (C : Addr) (cl : List (Str × Addr)) (fp : List Addr), PTs (X.blk s H scope (compEnvC scope cl C X.env) fp) ifs tt)
    (hk : ∀ (s : Shared) (H : Hp) (C : Addr) (cl : List (Str × Addr)) (fp : List Addr), PE (X.blk s H scope (compEnvC scope cl C X.env) fp) kx tk)
    (he : ∀ (s : Shared) (H : Hp) (C : Addr) (cl : List (Str × Addr)) (fp : List Addr), PE (X.blk s H scope (compEnvC scope cl C X.env) fp) vx tv)
    (hp : ∀ (s : Shared) (H : Hp) (C : Addr) (cl : List (Str × Addr)) (fp : List Addr), PutR put (X.blk s H scope (compEnvC scope cl C X.env) fp)) (hs : ∀ x, foldedSetIterable iter X.env x = pure x := by intro _; rfl) :
    PE X (.DictComp kx vx [⟨tg, iter, ifs, 0⟩] scope pos) (tDg o0 put wi g tt tk tv (own.map (·.2))) := by
  refine ⟨fun pins s σ H Q I h => ?_⟩
  rw [arm_eval_DictComp]
  refine dg_core he0 hc hN I hi ok hg ht hk he hp hs h fun D C s' m H' I' q hn ⟨f0, f1, f2, f3, f4, f5⟩ => ⟨m, hn, fun h'' sb => ?_⟩
  exact ⟨.ref D, H', I'.turned (t' := s'.toks) (fun b o hb e => (sb.2 b hb).trans e) f0 f1 f3 f4 f5, rfl, q⟩
theorem sw_dict {kx vx : Expr} {gs : List Comprehension} {scope : Scope} {pos py : Pos} {y : Str} {l : Nat} {env : Env} (hk : env.scope.kind = .function) (hy : env.scope.names.lookup y = some .local) (hl : (py.line == pos.line) = true)
    (ha : (scope.names.any fun (n, k) => n == y && (k == .local || k == .cell)) = false) : swapsWith (.DictComp kx vx gs scope pos) (some (.Name y py)) l env = pure true := by
  have h1 : env.kindOf y = some .local := hy
  have h2 : env.blockKind = .function := by unfold Env.blockKind; rw [hk]; rfl
  unfold swapsWith
  simp only [h2, h1, ha, Expr.pos, hl]
  rfl
/-- name = {..} on one line, the name a local -/
theorem ps_setDg {o0 : HO} {put : Addr → V → V → Hp → (Hp → Prop) → Prop} {i : Nat} {y : Str} {py : Pos} {kx vx tg iter : Expr} {ifs : List Expr} {scope : Scope} {own : List (Str × Nat)} {pos spos : Pos} {wi : TI} {g : TG} {tt : TT} {tk tv : TE}
    (he0 : ∀ (H : Hp) (h : Heap), sysModules < h.objs.size → ObjOk X.prog X.w H (h.push { cls := .type "dict", data := .dict #[] }) h.objs.size o0) (hc : X.calm = true) (hN : X.N.Nodup) (hy : X.N[i]? = some y) (hyl : X.env.scope.names.lookup y = some .local)
    (hsw : swapsWith (.DictComp kx vx [⟨tg, iter, ifs, 0⟩] scope pos) (some (.Name y py)) spos.line X.env = pure true) (hi : PI X tg iter wi) (ok : BlkOk X.N X.env.scope scope own)
    (hg : ∀ (s : Shared) (H : Hp) (C : Addr) (cl : List (Str × Addr)) (fp : List Addr), PG (X.blk s H scope (compEnvC scope cl C X.env) fp) tg g) (ht : ∀ (s : Shared) (H : Hp) (C : Addr) (cl : List (Str × Addr)) (fp : List Addr), PTs (X.blk s H scope (compEnvC scope cl C X.env) fp) ifs tt)
    (hk : ∀ (s : Shared) (H : Hp) (C : Addr) (cl : List (Str × Addr)) (fp : List Addr), PE (X.blk s H scope (compEnvC scope cl C X.env) fp) kx tk)
    (he : ∀ (s : Shared) (H : Hp) (C : Addr) (cl : List (Str × Addr)) (fp : List Addr), PE (X.blk s H scope (compEnvC scope cl C X.env) fp) vx tv)
    (hp : ∀ (s : Shared) (H : Hp) (C : Addr) (cl : List (Str × Addr)) (fp : List Addr), PutR put (X.blk s H scope (compEnvC scope cl C X.env) fp)) (hs : ∀ x, foldedSetIterable iter X.env x = pure x := by intro _; rfl) :
    PS X (.Assign [.Name y py] (.DictComp kx vx [⟨tg, iter, ifs, 0⟩] scope pos) spos) (tAsg (tDg o0 put wi g tt tk tv (own.map (·.2))) (gName i)) := by
  refine ⟨fun pins s σ H D I h => ?_⟩
  rw [exec_Assign_Name_used _ _ _ _ hsw]
  refine wpAny_bind (wpAny_standAt (wpAny_bind ?_))
  show wpAny _ X.A (do let _ ← comprehension (.DictComp kx vx [⟨tg, iter, ifs, 0⟩] scope pos) scope X.env (firstIterPos [⟨tg, iter, ifs, 0⟩] pos) newDict false (eval iter X.env) (some (assign (.Name y py) X.env))) _ _ s
  have h : tDg o0 put wi g tt tk tv (own.map (·.2)) σ H (fun x H1 => gName i x σ H1 D.nx) := h
  refine wpAny_bind (thn (dg_core (Qf := fun _ s' => SP X pins D .next s') he0 hc hN I hi ok hg ht hk he hp hs h fun L C s' m H' I' q hn ⟨f0, f1, f2, f3, f4, f5⟩ => ?_) fun _ s' hq => wpAny_pure (wpAny_pure hq))
  show wpAny _ _ (assign (.Name y py) X.env (.ref L)) _ _ _
  refine wpAny_assign_Name (store_ok2 (v := V.ref L) I' hN hy (.inl hyl) rfl (fun s2 I2 ⟨a, sb, ha⟩ => ?_) (.inr hyl))
  have haC : C ≠ a := ha.elim (fun z => by rw [z]; exact f1) fun z e => f4 y a z e.symm
  exact ⟨m, hn.sameBut sb haC, fun h3 sb3 => ⟨_, H', I2.turned (t' := s2.toks) (fun b o hb e => (sb3.2 b hb).trans e) f0 f1 f3 f4 f5, q⟩⟩
/-- keys tuples of ints and texts -/
def putT (D : Addr) (y z : V) (H : Hp) (N : Hp → Prop) : Prop := ∃ (kvs : List (List Key × V)) (k : List Key) (b : Addr), y = .ref b ∧ H b = some (.tup (k.map kV)) ∧ H D = some (.dT kvs) ∧ kvs.length < sizeLine ∧ N (upd H D (.dT (putK kvs k z)))
theorem putR_T {Y : Cx} (hu : Y.A.units < cLine) : PutR putT Y := by
  intro pins s σ H D y z u r N I ry rz ⟨kvs, k, b, ey, eb, e, l, n⟩
  subst ey
  obtain rfl : u = Value.ref b := ry
  obtain ⟨zz, hd, xs, rel, dd⟩ := dt_of I.hok e
  have hz : xs.length ≤ sizeLine := by rw [← Paired.length rel]; exact zz
  have hl : (putK kvs k z).length ≤ sizeLine := by have := length_putK kvs k z; omega
  refine wpAny_dictSet_heap (hsz := hz) hu (key_of I.hok eb) dd fun h' dd' hs => ⟨_, ?_, n⟩
  obtain ⟨q, es, ep, hq, h2, h3, h4, _, h5⟩ := dd'
  refine d_write I (by rw [e]; exact True.intro) hs ⟨q, hq⟩ ⟨hl, hd, _, (rel.put k eb rz).keeps fun c ys ec => ?_, q, es, ep, hq, h2, h3, h4, h5⟩
  rw [upd_ne (ne_of ec e (fun z => nomatch z))]
  exact ec
end
end GX
/-! repr in a law's body: a def that is called by the caller alone, and the law's end for it -/
namespace GX
open PySem PySem.Spec PyProof.Rows L2 GxR
/-- repr(x), x plain data of lists and tuples -/
def rRepr (K : PySem.W.Frag) : List V → Hp → VK → Prop := fun xs H Q => ∃ (p : Addr) (d : PyData), xs = [.ref p] ∧ Dp K H (.ref p) d ∧ d.showable = true ∧ d.hasDict = false ∧ d.depth ≤ 60 ∧ d.shown.length ≤ sizeLine ∧ Q (.str d.shown) H
theorem cr_repr {X : Cx} (hg : X.A.guards = some []) (hu : X.A.units + 64 < cLine) : CallR X (.builtin "repr") (rRepr X.K) := by
  intro pins s σ H xs us Q I r ⟨p, d, ex, hd, h1, h2, h3, h4, q⟩
  subst ex
  obtain ⟨u, rfl, rx⟩ := vals1 r
  obtain ⟨as, rd⟩ := Dp.reads I d (.ref p) u hd rx
  obtain rfl : u = Value.ref p := rx
  exact repr_of_reads' (hsz := h4) rd h1 (fun z => by rw [h2] at z; cases z) hg (by omega) (fun _ _ e => e) fun h' u tk hk => ⟨.str d.shown, H, I.kept (t' := tk) hk, ⟨u, rfl⟩, q⟩
/-- what a def does when the caller calls it -/
structure FnC (P : Program) (w : World) (K : PySem.W.Frag) (mg : Str → Option Value) (base : Heap) (f : Addr) (fd : FuncData) (ps : List Str) (sp : Sp) : Prop where
  run : ∀ (s : Shared) (H : Hp) (args : Args) (us : List Value) (vs : List V) (Q : VK) (E : XK), Env0 P w K mg base callerA [] s H → BindsTo s fd args (ps.zip us) → Vals vs us → sp vs H Q E →
    codeAny (model P w) callerA (.call (.ref f) args) (CR CX0 [] P w H s Q E) s
theorem fn_C {P : Program} {w : World} {K : PySem.W.Frag} {mg : Str → Option Value} {base : Heap} {k : Nat} {f : Addr} {name qual : Str} {params : Arguments} {body : List Stmt} {scope : Scope} {dV kV doc pm cdv ct oc : Value} {an od : Option Addr}
    {osl : Array (Option Value)} {N ps : List Str} {sp : Sp} (hk : Room (k + 1) callerA) (lk : K.lookup f = some ⟨oc, od, .func (PySem.W.fnOf name qual params body scope dV kV doc pm an cdv ct), osl⟩) (hcd : PySem.W.codeIn K cdv qual = true) (S : FnScope N ps scope)
    (len : ∀ vs H Q E, sp vs H Q E → vs.length = ps.length)
    (hbody : ∀ (A : Around) (outer : List Env) (s : Shared) (H : Hp) (vs : List V) (Q : VK) (E : XK), A.guards = some [] → Room k (A.deeper (envOfC qual scope s.heap.objs.size f cdv)) → sp vs H Q E →
      ∃ t, PSs (cxOf CX0 P w K mg base N qual scope f cdv A outer s H E).nox body t ∧ t { nx := fun _ H' => Q .non H', rt := Q } (start N vs) H) :
    FnC P w K mg base f (PySem.W.fnOf name qual params body scope dV kV doc pm an cdv ct) ps sp where
  run := fun s H args us vs Q E e0 hb r hsp => by
    have bk := fun b o e => (e0.bs b o e).1
    have KX : K.In s.heap := e0.mod.kin.keeps bk
    obtain ⟨t, ht, hq⟩ := hbody callerA [] s H vs Q E rfl (hk.deeper _) hsp
    refine codeAny_call_function hk.depth (KX _ _ lk) rfl S.co S.gen rfl (PySem.W.codeRec_of KX hcd) (hb _ _ _ _ (wpAny_newFunctionEnv_cells S.kind (fun ⟨n, v⟩ hy => ?_) fun env he s1 x => ?_))
    · exact (S.par n (List.of_mem_zip hy).1).imp id fun q => ⟨q, PySem.W.cellsFrom_some _ _ _ (.inl q)⟩
    · subst he
      refine ⟨(e0.mod.nolimit.keeps bk).keeps x.toInCall.keep, codeAny_func (wpAny_mono (ht.nox.run [] s1 (start N vs) H _ (inv_start S hk.hd e0 (len _ _ _ _ hsp) r x) hq) (fun fl s' hs => ?_) fun e s' hs => hs)⟩
      cases fl with
      | ret u => exact let ⟨v, σ', H', J, rv, q⟩ := hs; ⟨v, H', J.os, J.bare, J.base, J.hok, rv, q⟩
      | next => exact let ⟨σ', H', J, q⟩ := hs; ⟨.non, H', J.os, J.bare, J.base, J.hok, rfl, q⟩
      | brk => exact let ⟨_, _, _, q⟩ := hs; q.elim
      | cont => exact let ⟨_, _, _, q⟩ := hs; q.elim
end GX
/-! the end of a law whose body the caller alone calls; ts: the tables of code objects that may grow -/
namespace GX
open PySem PySem.Spec PyProof.Rows L2 GxR
section
variable {P : Program} {w : World} {K : PySem.W.Frag} {mg mb : Str → Option Value} {fa a : Addr} {cs : List (Addr × Addr)} {fd : FuncData} {x : Str} {sp : Sp} {s₁ : Shared} {vs : List Value} {ns : List Int}
/-- what is known at the law's entry: the tables, the script where it is no object of the module -/
def atE (K : PySem.W.Frag) (cs : List (Addr × Addr)) (a : Addr) (vs : List Value) (ns : List Int) : Hp := fun b =>
  if b ∈ cs.map (·.2) then some (.tbl #[]) else if b = a ∧ K.lookup a = none then some (.frz { cls := .type "list", data := .seq vs.toArray } (.lst (ns.map V.int))) else none
theorem law_callC (KX : K.In s₁.heap) (hns : s₁.heap.Ns mainGlobals mg) (hb : s₁.heap.Ns builtinsNs mb) (hbb : ∀ x : Str, x ≠ "__name__" → mb x = bootBuiltins x) (hlim : s₁.heap.NoLimit) (hg : s₁.gens = #[])
    (hT : ∀ p ∈ cs, s₁.heap.get? p.2 = some { cls := .none, data := .fields #[] }) (nT : ∀ p ∈ cs, K.lookup p.2 = none) (C : ∀ p ∈ cs, PySem.W.CodeHd s₁.heap p.1 p.2)
    (hbm : ∃ (bm : Addr) (ob : Obj), mg "__builtins__" = some (.ref bm) ∧ bm ≠ builtinsNs ∧ s₁.heap.get? bm = some ob ∧ ob.cls = .type "module" ∧ ob.dict = some builtinsNs ∧ ob.data = .plain)
    (ha : s₁.heap.get? a = some { cls := .type "list", data := .seq vs.toArray }) (hi : IntsAre vs ns) (hl : ns.length ≤ sizeLine)
    (F : ∀ base : Heap, K.In base → base.Ns mainGlobals mg → (∀ p ∈ cs, TabB base mg p.1 p.2) → FnC P w K mg base fa fd [x] sp) (hbind : ∀ (s : Shared) (u : Value), BindsTo s fd ⟨[u], []⟩ [(x, u)])
    (hsp : ∀ H : Hp, (∀ p ∈ cs, H p.2 = some (.tbl #[])) → SqL K H a (ns.map V.int) → sp [.ref a] H (fun v _ => v = .bl true) fun _ _ _ => False) :
    codeAny (model P w) callerA (.call (.ref fa) ⟨[.ref a], []⟩) (fun r s' => r = .ok (.ret (.bool true)) ∧ OldK s₁.heap s'.heap ∧ s'.os = s₁.os ∧ AllBare s'.gens) s₁ := by
  have tabOf : ∀ b ∈ cs.map (·.2), s₁.heap.get? b = some { cls := .none, data := .fields #[] } := fun b hb => by
    obtain ⟨p, hp, rfl⟩ := List.mem_map.mp hb
    exact hT p hp
  have aOut : a ∉ cs.map (·.2) := fun z => by
    have := tabOf a z
    rw [ha] at this
    exact nomatch congrArg Obj.data (Option.some.inj this)
  have tabIn : ∀ p ∈ cs, p.2 ∈ cs.map (·.2) := fun p hp => List.mem_map.mpr ⟨p, hp, rfl⟩
  generalize hH : atE K cs a vs ns = H
  have H1 : ∀ p ∈ cs, H p.2 = some (.tbl #[]) := fun p hp => by
    rw [← hH]
    exact if_pos (tabIn p hp)
  have H2 : K.lookup a = none → H a = some (.frz { cls := .type "list", data := .seq vs.toArray } (.lst (ns.map V.int))) := fun z => by
    rw [← hH]
    exact (if_neg aOut).trans (if_pos ⟨rfl, z⟩)
  have H3 : ∀ b u, H b = some u → (b ∈ cs.map (·.2) ∧ u = .tbl #[]) ∨ (b = a ∧ K.lookup a = none ∧ u = .frz { cls := .type "list", data := .seq vs.toArray } (.lst (ns.map V.int))) := fun b u e => by
    rw [← hH] at e
    unfold atE at e
    split at e
    · rename_i z
      exact .inl ⟨z, (Option.some.inj e).symm⟩
    · split at e
      · rename_i z
        exact .inr ⟨z.1, z.2, (Option.some.inj e).symm⟩
      · cases e
  -- what is no list and no empty table is not tracked; nor is an object of the module
  have free : ∀ {b : Addr} {o : Obj}, s₁.heap.get? b = some o → (∀ vs n, o.data ≠ .seq vs n) → o.data ≠ .fields #[] → H b = none := fun {b o} e n1 n2 => by
    cases q : H b with
    | none => rfl
    | some u =>
      rcases H3 b u q with ⟨z, _⟩ | ⟨z, _⟩
      · rw [tabOf b z] at e
        cases e
        exact absurd rfl n2
      · rw [z, ha] at e
        cases e
        exact absurd rfl (n1 _ _)
  have freeK : ∀ b o, K.lookup b = some o → H b = none := fun b o e => by
    cases q : H b with
    | none => rfl
    | some u =>
      rcases H3 b u q with ⟨z, _⟩ | ⟨z, y, _⟩
      · obtain ⟨p, hp, rfl⟩ := List.mem_map.mp z
        rw [nT p hp] at e
        cases e
      · rw [z, y] at e
        cases e
  have inB : ∀ {b : Addr} {o : Obj}, s₁.heap.get? b = some o → H b = none → (hidT s₁.heap H).get? b = some o := fun e n => hidT_get e n
  have nsB : ∀ {b : Addr} {m : Str → Option Value}, s₁.heap.Ns b m → (hidT s₁.heap H).Ns b m := fun {b m} ⟨o, es, ep, e, d, r⟩ =>
    ⟨o, es, ep, inB e (free e (fun _ _ z => by rw [d] at z; cases z) fun z => by rw [d] at z; cases z), d, r⟩
  have kB : K.In (hidT s₁.heap H) := fun b o e => inB (KX b o e) (freeK b o e)
  have mo : L2.Mod K mg (hidT s₁.heap H) := ⟨kB, nsB hns, ⟨mb, nsB hb, hbb⟩, hlim.imp fun _ z => ⟨nsB z.1, z.2⟩⟩
  have okH : HOk P w H s₁.heap := fun b u e => by
    rcases H3 b u e with ⟨z, rfl⟩ | ⟨rfl, _, rfl⟩
    · exact tabOf b z
    · exact ⟨ha, by rw [List.length_map]; exact hl, vs, _, vals_ints hi, ha⟩
  have tB : ∀ p ∈ cs, TabB (hidT s₁.heap H) mg p.1 p.2 := fun p hp => by
    have gp := hT p hp
    obtain ⟨og, eg, epg, e1, d1, _⟩ := id hns
    refine ⟨?_, ?_, fun z => by rw [z, gp] at e1; cases e1; cases d1⟩
    · obtain ⟨o, us, file, tf, flags, tg, inF, text, tt, c1, r1, r2, r3, r⟩ := C p hp
      exact ⟨o, us, file, tf, flags, tg, inF, text, tt, inB c1 (free c1 (fun _ _ z => by rw [r2] at z; cases z) (fun z => by rw [r2] at z; cases z; simp at r3)), r1, r2, r3, r⟩
    · obtain ⟨bm, ob, b1, b2, b3, b4, b5, b6⟩ := hbm
      exact ⟨bm, ob, b1, b2, (fun z => by rw [z, e1] at b3; cases b3; rw [d1] at b6; cases b6), (fun z => by rw [z, gp] at b3; cases b3; cases b6), inB b3 (free b3 (fun _ _ z => by rw [b6] at z; cases z) (fun z => by rw [b6] at z; cases z)), b4, b5, b6⟩
  have sq : SqL K H a (ns.map V.int) := by
    cases e : K.lookup a with
    | none => exact .inl (.inr ⟨_, H2 e⟩)
    | some o =>
      have z := KX a o e
      rw [ha] at z
      cases z
      exact .inr ⟨_, vs.toArray, _, e, rfl, rfl, rfl, by rw [List.size_toArray, hi.length]; exact hl, by simpa using vals_ints hi⟩
  refine codeAny_mono ((F _ kB (nsB hns) tB).run s₁ H ⟨[.ref a], []⟩ [.ref a] [.ref a] _ _ ⟨rfl, mo, fun b o e => of_hidT e, Nat.le_of_eq (hidT_size _ _), trivial, (fun b z => nomatch z), okH, .of_eq hg⟩ (hbind s₁ (.ref a)) (.cons rfl .nil) (hsp H H1 sq)) fun r s' h => ?_
  match r, h with
  | .error e, h => exact False.elim h
  | .ok .next, h => exact False.elim h
  | .ok .brk, h => exact False.elim h
  | .ok .cont, h => exact False.elim h
  | .ok (.ret u), ⟨v, H', os, bare, un, ok', rv, q⟩ =>
    obtain rfl : v = .bl true := q
    obtain rfl : u = Value.bool true := rv
    have stay : ∀ b o, b ∉ cs.map (·.2) → s₁.heap.get? b = some o → s'.heap.get? b = some o := fun b o nb e => by
      cases q : H b with
      | none => exact un.keep b o e q (fun z => nomatch z) (fun z => nomatch z)
      | some y =>
        rcases H3 b y q with ⟨z, _⟩ | ⟨_, _, rfl⟩
        · exact absurd z nb
        · have e1 := (okH b _ q).1
          rw [e] at e1
          cases e1
          exact (ok' b _ (un.frzs b _ _ q)).1
    have grow : ∀ b ∈ cs.map (·.2), ∃ (p : Addr × Addr) (more : Array Value), p ∈ cs ∧ p.2 = b ∧ s'.heap.get? b = some { cls := .none, data := .fields (#[] ++ more) } := fun b hb => by
      obtain ⟨p, hp, rfl⟩ := List.mem_map.mp hb
      obtain ⟨more, z⟩ := un.tbls p.2 #[] (H1 p hp)
      exact ⟨p, more, hp, rfl, ok' p.2 _ z⟩
    refine ⟨rfl, ⟨fun b o e => ?_, fun b o e => ?_⟩, os, bare⟩
    · by_cases hb : b ∈ cs.map (·.2)
      · obtain ⟨p, more, hp, rfl, hm⟩ := grow b hb
        rw [hT p hp] at e
        cases e
        exact .inr (.inl ⟨((C p hp).tab (hT p hp)).isCodeTable, rfl, #[], more, rfl, hm⟩)
      · exact .inl (stay b o hb e)
    · by_cases hb : b ∈ cs.map (·.2)
      · obtain ⟨p, more, _, _, hm⟩ := grow b hb
        exact ⟨_, hm⟩
      · exact ⟨o, stay b o hb e⟩
end
/-- what is known of the law's promise at the head's heap h -/
def LawC (l : PySem.W.OpenLaw) (w : World) (K : PySem.W.Frag) (n : Nat) (x : Str) (mg : Str → Option Value) (fa : Addr) (h : Heap) : Prop :=
  ∃ (fd : FuncData) (cs : List (Addr × Addr)) (sp : Sp), (∀ p ∈ cs, h.get? p.2 = some { cls := .none, data := .fields #[] }) ∧ (∀ p ∈ cs, K.lookup p.2 = none) ∧ (∀ p ∈ cs, PySem.W.CodeHd h p.1 p.2) ∧ (∀ (s : Shared) (u : Value), BindsTo s fd ⟨[u], []⟩ [(x, u)]) ∧
    (∀ (H : Hp) (a : Addr) (ns : List Int), ns.length ≤ n → (∀ z ∈ ns, Builtin.Int.intBits z ≤ 1048576) → (∀ p ∈ cs, H p.2 = some (.tbl #[])) → SqL K H a (ns.map V.int) → sp [.ref a] H (fun v _ => v = .bl true) fun _ _ _ => False) ∧
    ∀ base : Heap, K.In base → base.Ns mainGlobals mg → (∀ p ∈ cs, TabB base mg p.1 p.2) → FnC l.prog w K mg base fa fd [x] sp
theorem walk_ofC {l : PySem.W.OpenLaw} {n : Nat} {q : Program} {loose : List Str} {XP : (Str → Option Value) → Heap → Prop} {YP : World → Heap → Prop} {d : DefRec} {K : Params → PySem.W.Frag} {x : Str}
    (hn : l.most = some n) (hn2 : n ≤ sizeLine) (hdf : d.params.defaults = []) (hY : ∀ (w : World) (h : Heap), YP w h → (K w.params).In h)
    (F : ∀ (w : World) (mg : Str → Option Value) (fa : Addr) (h : Heap), YP w h → (K w.params).In h → h.Ns mainGlobals mg → mg d.name = some (.ref fa) → LawC l w (K w.params) n x mg fa h) :
    PySem.W.WalkO q loose XP YP l.row.toRowW d [] (fun f vs => PySem.call f vs) := by
  refine Att.attach_callB hn hdf fun w s₀ s₁ mg mb fa o pm cd doc a vs ns G Y ho hd hcd hmg hobj hints hlen hbits hg => ?_
  have KX := hY w _ Y
  obtain ⟨fd, cs, sp, hT, nT, C, hb, hsp, hF⟩ := F w mg fa _ Y KX G.T.g hmg
  exact law_callC KX G.T.g G.T.b G.T.builtins G.T.nolimit hg hT nT C G.T.bmain hobj hints (Nat.le_trans hlen hn2) hF hb fun H hH hS => hsp H a ns hlen hbits hH hS
end GX
/-! the end of a law that the caller alone calls, where the program's own defs hold generator expressions -/
namespace GX
open PySem PySem.Spec PyProof.Rows L2 GxR
/-- each def of the view q has an empty table -/
def AllTabs (q : Program) (K : PySem.W.Frag) (mg : Str → Option Value) (h : Heap) : Prop :=
  ∀ (x : Str) (f : Addr), ((recsOf q).any fun e => e.name == x) = true → mg x = some (.ref f) → LamX.OwnTab K f h
theorem walk_tabsC {l : PySem.W.OpenLaw} {n : Nat} {q : Program} {loose : List Str} {XP : (Str → Option Value) → Heap → Prop} {YP : World → Heap → Prop} {d : DefRec} {K : Params → PySem.W.Frag} {x : Str}
    (hn : l.most = some n) (hn2 : n ≤ sizeLine) (hdf : d.params.defaults = []) (hY : ∀ (w : World) (h : Heap), YP w h → (K w.params).In h)
    (F : ∀ (w : World) (mg : Str → Option Value) (fa : Addr) (h : Heap), YP w h → (K w.params).In h → h.Ns mainGlobals mg → mg d.name = some (.ref fa) → AllTabs q (K w.params) mg h → LawC l w (K w.params) n x mg fa h) :
    PySem.W.WalkO q loose XP YP l.row.toRowW d [] (fun f vs => PySem.call f vs) := by
  refine Att.attach_callB hn hdf fun w s₀ s₁ mg mb fa o pm cd doc a vs ns G Y ho hd hcd hmg hobj hints hlen hbits hg => ?_
  have KX := hY w _ Y
  have tabs : AllTabs q (K w.params) mg s₁.heap := by
    intro y f hy hf c P o1 f1 e dd ws sl i1 i2 i3 i4 i5
    obtain ⟨r, hr, hr2⟩ := List.any_eq_true.mp hy
    have nm : r.name = y := beq_iff_eq.mp hr2
    obtain ⟨a2, o2, f2, c2, P2, j1, j2, j3, j4, j5, ⟨oc, vc, t1, _, t3, t4⟩, empty⟩ := G.T.tab r hr
    rw [nm, hf] at j1
    cases j1
    have at1 := KX _ _ i1
    rw [at1] at j2
    cases j2
    rw [i2] at j3
    cases j3
    rw [i3] at j4
    cases j4
    have at2 := KX _ _ i4
    rw [at2] at t1
    cases t1
    cases t3
    rw [i5] at t4
    cases t4
    exact empty
  obtain ⟨fd, cs, sp, hT, nT, C, hb, hsp, hF⟩ := F w mg fa _ Y KX G.T.g hmg tabs
  exact law_callC KX G.T.g G.T.b G.T.builtins G.T.nolimit hg hT nT C G.T.bmain hobj hints (Nat.le_trans hlen hn2) hF hb fun H hH hS => hsp H a ns hlen hbits hH hS
end GX
namespace K51
open PySem PySem.Spec PyProof.Rows L2 TR QR
def topS (i : Nat) : Stmt := PySem.Challenge.pw_quiltward_k51_paths_and_rules.main.body.getD i (.Pass ⟨0, 0, 0, 0⟩)
abbrev sState : Stmt := topS 14
abbrev nState : List Str := ["script", "cells", "cell"]
theorem scState : FnScope nState ["script"] (defScope sState) := ⟨rfl, rfl, rfl, by decide +kernel, rfl, by decide +kernel, by decide +kernel⟩
abbrev sT : Stmt := topS 15
abbrev nT : List Str := ["state", "most", "cells", "at", "cell", "mixed"]
theorem scT : FnScope nT ["state", "most"] (defScope sT) := ⟨rfl, rfl, rfl, by decide +kernel, rfl, by decide +kernel, by decide +kernel⟩
/-- the state of the draws: a number and a list -/
structure StateAt (H : Hp) (p c : Addr) : Prop where
  ex : ∃ (n : Int) (ms : List Int), H p = some (.lst [.int n, .ref c]) ∧ H c = some (.lst (ms.map V.int)) ∧ 0 < ms.length ∧ ms.length ≤ 63 ∧ (∀ m ∈ ms, 0 ≤ m) ∧ 0 ≤ n
  ne : p ≠ c
def Drawn (p c : Addr) (H H' : Hp) : Prop := ∀ b, b ≠ p → b ≠ c → H' b = H b
theorem drawn_refl {p c : Addr} {H : Hp} : Drawn p c H H := fun _ _ _ => rfl
theorem drawn_trans {p c : Addr} {H H1 H2 : Hp} (a : Drawn p c H H1) (b : Drawn p c H1 H2) : Drawn p c H H2 := fun x h1 h2 => (b x h1 h2).trans (a x h1 h2)
theorem StateAt.mono {H H' : Hp} {p c : Addr} (s : StateAt H p c) (hp : ∀ o, H p = some o → H' p = some o) (hc : ∀ o, H c = some o → H' c = some o) : StateAt H' p c := by
  obtain ⟨⟨n, ms, h1, h2, h3⟩, ne⟩ := s
  exact ⟨⟨n, ms, hp _ h1, hc _ h2, h3⟩, ne⟩
theorem zl : 2000000 ≤ sizeLine := by
  rw [sizeLine_eq]
  decide
theorem same_new {a : Addr} {H : Hp} {o : HO} (e : H a = none) : Same H (upd H a o) := fun b o' e' => by
  rw [upd_ne (ne_of_none e' e)]
  exact e'
theorem abs_nn (z : Int) : 0 ≤ (if z < 0 then -z else z) := by
  split <;> omega
theorem cutV_nn (xs : List V) (k : Nat) : cutV xs none (some (k : Int)) = xs.take k := by
  unfold cutV
  have e1 : HT.sIx xs.length 0 none = 0 := by
    unfold HT.sIx
    simp
  have e2 : HT.sIx xs.length xs.length (some (k : Int)) = min k xs.length := by
    unfold HT.sIx
    simp
    omega
  rw [e1, e2, List.drop_zero, Nat.sub_zero]
  by_cases h : k ≤ xs.length
  · rw [Nat.min_eq_left h]
  · rw [Nat.min_eq_right (by omega), List.take_of_length_le (Nat.le_refl _), List.take_of_length_le (by omega)]
section
variable {P : Program} {w : World} {K : PySem.W.Frag} {mg : Str → Option Value} {base : Heap}
def spState (K : PySem.W.Frag) : Sp := fun vs H Q _ => ∃ (a : Addr) (ns : List Int), vs = [.ref a] ∧ SqL K H a (ns.map V.int) ∧ ns.length ≤ 63 ∧
  ∀ H' p c, Same H H' → H p = none → H c = none → StateAt H' p c → Q (.ref p) H'
theorem ok_state {f : Addr} {fd : FuncData} (F : Fun K "_law_state" "_law_state" sState f fd) (m_len : mg "len" = none) (m_abs : mg "abs" = none) : FnOk P w K mg base CX0 1 f fd ["script"] (spState K) := by
  refine F.ok scState (fun vs H Q E h => ?_) (fun cdv A outer s H vs Q E hr h => ?_)
  · obtain ⟨a, ns, rfl, _⟩ := h
    rfl
  · obtain ⟨a, ns, rfl, hS, hl, q⟩ := h
    have zl := zl
    refine ⟨_, (pss_cons (ps_setLc (i := 1) (own := [("cell", 2)]) (g := gName 2) (tt := tYes) (te := _) rfl scState.nd rfl rfl (sw_true rfl rfl rfl (by decide +kernel)) (pi_list (pe_slice sl_list (pv 0) (po_none) (po_some (pe_int)))) (blkOk_by (N := nState) (sc := defScope sState) (by decide +kernel)) (fun _ _ _ _ _ => by exact pg_name (i := 2) scState.nd rfl (.inl rfl)) (fun _ _ _ _ _ => pts_nil) (fun _ _ _ _ _ => by exact pe_callB call_abs (by rfl) m_abs (by decide +kernel) (pa_cons (pv 2) pa_nil)))
      (pss_cons (ps_if (pt_cmpR op_eq (pe_callB call_len_seq (by rfl) m_len PySem.boot_len (pa_cons (pv 1) pa_nil)) (pe_int) (nomark _))
      (pss_one (ps_set (i := 1) scState.nd rfl (.inl rfl) (pe_lst (pa_cons (pe_int) pa_nil)))) pss_nil)
      (pss_one (ps_ret (pe_lst (pa_cons (pe_int) (pa_cons (pv 1) pa_nil))))))), ?_⟩
    refine ⟨_, rfl, _, rfl, a, _, rfl, hS, fun D0 n0 => ⟨D0, rfl, ⟨_, SqL.of upd_same⟩, fun D nD => ?_⟩⟩
    have ec : cutV (ns.map V.int) none (some 63) = ns.map V.int := (cutV_nn (ns.map V.int) 63).trans (List.take_of_length_le (by rw [List.length_map]; exact hl))
    rw [ec] at nD ⊢
    have s0 : Same H (upd H D0 (.lst (ns.map V.int))) := same_new n0
    have e0 : (upd H D0 (.lst (ns.map V.int))) D0 = some (.lst (ns.map V.int)) := upd_same
    have nD0 : H D = none := by
      cases e : H D with
      | none => rfl
      | some o =>
        rw [s0 _ _ e] at nD
        cases nD
    generalize upd H D0 (.lst (ns.map V.int)) = H1 at s0 e0 nD
    refine lc_list (xs := ns.map V.int) (fun i H2 => H2 = upd H1 D (.lst (((ns.take i).map fun n => if n < 0 then -n else n).map V.int))) rfl ?_ ?_ ?_
    · rintro i H2 _ rfl
      exact SqL.of (same_new nD _ _ e0)
    · rintro i x H2 hx rfl
      rw [List.getElem?_map] at hx
      obtain ⟨n, hn, rfl⟩ := Option.map_eq_some_iff.mp hx
      refine ⟨rfl, ?_⟩
      refine ⟨_, rfl, n, rfl, _, upd_same, ?_, ?_⟩
      · rw [List.length_map, List.length_map, List.length_take]
        omega
      · rw [upd_upd, List.take_add_one, hn, List.map_append, List.map_append]
        rfl
    · rintro H2 rfl
      rw [List.length_map, List.take_length]
      have eD : (upd H1 D (.lst ((ns.map fun n => if n < 0 then -n else n).map V.int))) D = some (.lst ((ns.map fun n => if n < 0 then -n else n).map V.int)) := upd_same
      have sD : Same H (upd H1 D (.lst ((ns.map fun n => if n < 0 then -n else n).map V.int))) := fun b o e => same_new nD _ _ (s0 b o e)
      have nn : ∀ m ∈ (ns.map fun n => if n < 0 then -n else n), 0 ≤ m := fun m hm => by
        obtain ⟨n, _, rfl⟩ := List.mem_map.mp hm
        exact abs_nn n
      have ll : (ns.map fun n => if n < 0 then -n else n).length = ns.length := List.length_map _
      generalize upd H1 D (.lst ((ns.map fun n => if n < 0 then -n else n).map V.int)) = H2 at eD sD
      generalize (ns.map fun n => if n < 0 then -n else n) = ms at eD nn ll
      dsimp only [tNext, tSeq, tIfS, tAsg, gName, tC]
      have fin : ∀ (H3 : Hp) (c : Addr) (ks : List Int), Same H H3 → H c = none → H3 c = some (.lst (ks.map V.int)) → 0 < ks.length → ks.length ≤ 63 → (∀ m ∈ ks, 0 ≤ m) → ∀ p, H3 p = none → Q (.ref p) (upd H3 p (.lst [.int 0, .ref c])) := by
        intro H3 c ks s3 nc ec k0 k1 kn p np
        have ncp : p ≠ c := fun z => by rw [z, ec] at np; cases np
        have np0 : H p = none := by
          cases e : H p with
          | none => rfl
          | some o =>
            rw [s3 _ _ e] at np
            cases np
        refine q _ p c (fun b o e => same_new np _ _ (s3 b o e)) np0 nc ⟨⟨0, ks, upd_same, ?_, k0, k1, kn, Int.le_refl _⟩, ncp⟩
        rw [upd_ne (Ne.symm ncp)]
        exact ec
      refine ⟨_, rfl, D, _, rfl, .inl (SqL.of eD), rfl, _, rfl, ite2 (fun h1 => ?_) (fun h1 => ?_)⟩
      · refine ⟨by show 1 ≤ sizeLine; omega, fun D2 n2 => ?_⟩
        have n20 : H D2 = none := by
          cases e : H D2 with
          | none => rfl
          | some o =>
            rw [sD _ _ e] at n2
            cases n2
        refine ⟨_, rfl, by show 2 ≤ sizeLine; omega, fun p np => ?_⟩
        exact fin (upd H2 D2 (.lst [.int 0])) D2 [0] (fun b o e => same_new n2 _ _ (sD b o e)) n20 upd_same (by decide) (by decide) (fun m hm => by rw [List.mem_singleton.mp hm]; exact Int.le_refl _) p np
      · refine ⟨_, rfl, by show 2 ≤ sizeLine; omega, fun p np => ?_⟩
        refine fin H2 D ms sD nD0 eD ?_ (by omega) nn p np
        cases ms with
        | nil => exact absurd (decide_eq_true rfl) h1
        | cons x r => exact Nat.succ_pos _
def spTake : Sp := fun vs H Q _ => ∃ (p c : Addr) (m : Nat), vs = [.ref p, .int (m : Int)] ∧ m < 1000000000 ∧ StateAt H p c ∧
  ∀ H' (r : Nat), (m = 0 → r = 0) → (0 < m → r < m) → StateAt H' p c → Drawn p c H H' → Q (.int (r : Int)) H'
theorem ok_T {f : Addr} {fd : FuncData} (F : Fun K "_law_take" "_law_take" sT f fd) (m_len : mg "len" = none) (m_int : mg "int" = none) : FnOk P w K mg base CX0 1 f fd ["state", "most"] spTake := by
  refine F.ok scT (fun vs H Q E h => ?_) (fun cdv A outer s H vs Q E hr h => ?_)
  · obtain ⟨p, c, m, rfl, _⟩ := h
    rfl
  · obtain ⟨p, c, m, rfl, hm, ⟨⟨n, ms, hp, hc, hl0, hl, h0, n0⟩, npc⟩, q⟩ := h
    have zl := zl
    refine ⟨_, (pss_cons (ps_if (pt_cmpR op_lt (pv 1) (pe_int) (nomark _))
      (pss_one (ps_ret (pe_int))) pss_nil)
      (pss_cons (ps_set (i := 2) scT.nd rfl (.inl rfl) (pe_ix ix_list (pv 0) (pe_int) (fun _ _ => rfl)))
      (pss_cons (ps_set (i := 3) scT.nd rfl (.inl rfl) (pe_op op_mod (pe_ix ix_list (pv 0) (pe_int) (fun _ _ => rfl)) (pe_callB call_len_seq (by rfl) m_len PySem.boot_len (pa_cons (pv 2) pa_nil))))
      (pss_cons (ps_set (i := 4) scT.nd rfl (.inl rfl) (pe_ix ix_list (pv 2) (pv 3) (fun _ _ => rfl)))
      (pss_cons (ps_if (pt_cmpR op_ge (pv 4) (pe_int) (nomark _))
      (pss_cons (ps_asg (pe_op op_fdiv (pv 4) (pv 1)) (pg_sub (pv 2) (pv 3) set_list))
      (pss_one (ps_ret (pe_op op_mod (pv 4) (pv 1))))) pss_nil)
      (pss_cons (ps_asg (pe_op op_add (pe_ix ix_list (pv 0) (pe_int) (fun _ _ => rfl)) (pe_int)) (pg_sub (pv 0) (pe_int) set_list))
      (pss_cons (ps_set (i := 5) scT.nd rfl (.inl rfl) (pe_op op_mod (pe_callTy call_int1 (by rfl) m_int (by decide +kernel) (pa_cons (pe_op op_add (pe_op op_mul (pv 4) (pe_int)) (pe_op op_mul (pe_ix ix_list (pv 0) (pe_int) (fun _ _ => rfl)) (pe_int))) pa_nil)) (pe_int)))
      (pss_cons (ps_set (i := 5) scT.nd rfl (.inl rfl) (pe_op op_mod (pe_callTy call_int1 (by rfl) m_int (by decide +kernel) (pa_cons (pe_op op_add (pe_op op_mul (pv 5) (pe_int)) (pe_op op_mul (pe_ix ix_list (pv 0) (pe_int) (fun _ _ => rfl)) (pe_int))) pa_nil)) (pe_int)))
      (pss_one (ps_ret (pe_op op_mod (pe_op op_fdiv (pv 5) (pe_int)) (pv 1)))))))))))), ?_⟩
    dsimp only [tNext, tSeq, tIfS, tAsg, gName, tC]
    refine ⟨_, rfl, _, _, rfl, rfl, _, rfl, ite2 (fun h1 => ?_) (fun h1 => ?_)⟩
    · have m0 : m = 0 := by
        have := of_decide_eq_true h1
        omega
      exact q H 0 (fun _ => rfl) (fun z => by omega) ⟨⟨n, ms, hp, hc, hl0, hl, h0, n0⟩, npc⟩ drawn_refl
    have mp : 0 < m := by
      have : ¬ ((m : Nat) : Int) < 1 := fun z => h1 (decide_eq_true z)
      omega
    refine ⟨_, rfl, p, _, 1, _, rfl, rfl, SqL.of hp, atI_nat (j := 1) rfl, ?_⟩
    refine ⟨_, rfl, p, _, 0, _, rfl, rfl, SqL.of hp, atI_nat (j := 0) rfl, _, rfl, c, _, rfl, .inl (SqL.of hc), _, _, rfl, rfl, by rw [List.length_map]; omega, ?_⟩
    dsimp only
    simp only [List.length_map]
    have hat := Int.emod_lt_of_pos n (show (0 : Int) < (ms.length : Int) by omega)
    have hat0 := Int.emod_nonneg n (show ((ms.length : Nat) : Int) ≠ 0 by omega)
    obtain ⟨i, hi⟩ : ∃ i : Nat, n % (ms.length : Int) = (i : Int) := ⟨_, (Int.toNat_of_nonneg hat0).symm⟩
    rw [hi] at hat
    simp only [hi]
    have li : i < ms.length := by omega
    have gi := List.getElem?_eq_getElem li
    have ci := h0 _ (List.getElem_mem li)
    generalize ms[i] = cell at gi ci
    have gv : (ms.map V.int)[i]? = some (.int cell) := by rw [List.getElem?_map, gi]; rfl
    refine ⟨_, rfl, _, rfl, c, _, _, _, rfl, rfl, SqL.of hc, atI_nat gv, ?_⟩
    have res : ∀ (x : Int), 0 ≤ x → ∃ r : Nat, x % (m : Int) = (r : Int) ∧ r < m := fun x hx => by
      have e1 := Int.emod_nonneg x (show (m : Int) ≠ 0 by omega)
      have e2 := Int.emod_lt_of_pos x (show (0 : Int) < (m : Int) by omega)
      exact ⟨(x % (m : Int)).toNat, (Int.toNat_of_nonneg e1).symm, by omega⟩
    refine ⟨_, rfl, _, _, rfl, rfl, _, rfl, ite2 (fun h2 => ?_) (fun h2 => ?_)⟩
    · refine ⟨_, rfl, _, rfl, _, _, rfl, rfl, ⟨by omega, by omega⟩, _, rfl, _, rfl, c, _, _, i, rfl, rfl, hc, ?_, ?_⟩
      · rw [List.length_map]
        unfold ixN
        rw [if_pos (by omega), if_pos (by omega), Int.toNat_natCast]
      refine ⟨_, rfl, _, rfl, _, _, rfl, rfl, by show (0 : Int) < (m : Int); omega, ?_⟩
      obtain ⟨r, hr, lr⟩ := res cell ci
      show Q (V.int (cell % (m : Int))) _
      rw [hr]
      refine q _ r (fun z => by omega) (fun _ => lr) ⟨⟨n, ms.set i (cell / (m : Int)), ?_, ?_, by rw [List.length_set]; exact hl0, by rw [List.length_set]; exact hl, ?_, n0⟩, npc⟩ ?_
      · rw [upd_ne npc]
        exact hp
      · rw [upd_same, List.map_set]
      · intro x hx
        rcases List.mem_or_eq_of_mem_set hx with hx | rfl
        · exact h0 x hx
        · exact Int.ediv_nonneg ci (by omega)
      · intro b z1 z2
        rw [upd_ne z2]
    · have c18 : cell < 1000000000000000000 := by
        have : ¬ (1000000000000000000 : Int) ≤ cell := fun z => h2 (decide_eq_true z)
        omega
      refine ⟨_, rfl, p, _, 0, _, rfl, rfl, SqL.of hp, atI_nat (j := 0) rfl, _, _, rfl, rfl, _, rfl, p, _, 0, 0, rfl, rfl, hp, rfl, ?_⟩
      have ep : (upd H p (.lst [.int (n + 1), .ref c])) p = some (.lst [.int (n + 1), .ref c]) := upd_same
      have ec : (upd H p (.lst [.int (n + 1), .ref c])) c = some (.lst (ms.map V.int)) := by rw [upd_ne (Ne.symm npc)]; exact hc
      have dr : Drawn p c H (upd H p (.lst [.int (n + 1), .ref c])) := fun b z1 z2 => upd_ne z1
      refine ⟨_, rfl, _, _, rfl, rfl, .inl ⟨by omega, by omega⟩, _, rfl, p, _, 0, _, rfl, rfl, SqL.of ep, atI_nat (j := 0) rfl, _, _, rfl, rfl, .inr ⟨by decide, by decide⟩, _, _, rfl, rfl, .inl ⟨_, rfl, _, _, rfl, rfl, by show (0 : Int) < 2147483647; decide, ?_⟩⟩
      have a0 := Int.emod_nonneg (cell * 48271 + (n + 1) * 69621) (show (2147483647 : Int) ≠ 0 by decide)
      have a1 := Int.emod_lt_of_pos (cell * 48271 + (n + 1) * 69621) (show (0 : Int) < 2147483647 by decide)
      dsimp only
      generalize hx1 : (cell * 48271 + (n + 1) * 69621) % 2147483647 = x1 at a0 a1
      refine ⟨_, rfl, _, _, rfl, rfl, .inl ⟨by omega, by omega⟩, _, rfl, p, _, 0, _, rfl, rfl, SqL.of ep, atI_nat (j := 0) rfl, _, _, rfl, rfl, .inr ⟨by decide, by decide⟩, _, _, rfl, rfl, .inl ⟨_, rfl, _, _, rfl, rfl, by show (0 : Int) < 1000000007; decide, ?_⟩⟩
      have b0 := Int.emod_nonneg (x1 * 16807 + (n + 1) * 7919) (show (1000000007 : Int) ≠ 0 by decide)
      have b1 := Int.emod_lt_of_pos (x1 * 16807 + (n + 1) * 7919) (show (0 : Int) < 1000000007 by decide)
      dsimp only
      generalize hx2 : (x1 * 16807 + (n + 1) * 7919) % 1000000007 = x2 at b0 b1
      refine ⟨_, rfl, _, _, rfl, rfl, ⟨by show (0 : Int) < 7; decide, by show (7 : Int) < 1073741824; decide⟩, _, rfl, _, _, rfl, rfl, by show (0 : Int) < (m : Int); omega, ?_⟩
      obtain ⟨r, hr, lr⟩ := res (x2 / 7) (Int.ediv_nonneg b0 (by decide))
      show Q (V.int (x2 / 7 % (m : Int))) _
      rw [hr]
      exact q _ r (fun z => by omega) (fun _ => lr) ⟨⟨n + 1, ms, ep, ec, hl0, hl, h0, by omega⟩, npc⟩ dr
end
end K51
namespace GX
open PySem PySem.Spec PyProof.Rows L2 GxR
/-- repr of a truth value -/
theorem cr_reprB {X : Cx} : CallR X (.builtin "repr") (fun xs H Q => ∃ b, xs = [.bl b] ∧ Q (.str (if b then "True" else "False")) H) := by
  intro pins s σ H xs us Q I r ⟨b, ex, q⟩
  subst ex
  obtain ⟨u, rfl, rx⟩ := vals1 r
  obtain rfl : u = Value.bool b := rx
  exact PySem.P.repr_of_bool ⟨.str _, H, I.tok _, ⟨_, rfl⟩, q⟩
/-- > of plain data that are alike -/
def rGtP (K : PySem.W.Frag) : R2 := fun x y H Q => ∃ d e, Dp K H x d ∧ Dp K H y e ∧ PySem.W.alike d e = true ∧ d ≠ .none ∧ d.depth ≤ 60 ∧ Q (.bl (PySem.W.dataLt e d)) H
theorem op_gtP {X : Cx} (hu : X.A.units + 64 < cLine) : OpR X (compareOp .Gt) (rGtP X.K) := fun pins s σ H x y v u Q I rx ry ⟨d, e, hd, he, al, nn, dd, q⟩ => by
  obtain ⟨as, r1⟩ := Dp.reads I d x v hd rx
  obtain ⟨bs, r2⟩ := Dp.reads I e y u he ry
  exact PySem.W.gt_data r1 r2 al nn (by omega) ⟨.bl _, H, I, rfl, q⟩
theorem wk_str {d : Bool} {x : Str} {g : TG} {tt : TT} {te : TE} {vs : List Nat} {σ : L2.St} {Qe Qd : Hp → Prop} {H0 : Hp} (Pv : Nat → Hp → Prop) (h0 : Pv 0 H0)
    (hs : ∀ i c H, x.cps.toList[i]? = some c → Pv i H → g (.str ⟨#[c]⟩) (wipe σ vs) H fun σ2 H2 => wipe σ2 vs = wipe σ vs ∧ tt σ2 H2 fun b H3 =>
      if b = true then te σ2 H3 fun y H4 => ∃ c, y = .bl c ∧ if c = d then Qd H4 else Pv (i + 1) H4 else Pv (i + 1) H3) (hd : ∀ H, Pv x.cps.toList.length H → Qe H) :
    ∃ W : Nat → Nat → Hp → Prop, (∃ m, W 0 m H0) ∧ Wk d (Its x) g tt te vs σ W Qe Qd := by
  refine ⟨fun i m H => m = x.cps.size - i ∧ i ≤ x.cps.size ∧ Pv i H, ⟨x.cps.size, by simp, Nat.zero_le _, h0⟩, ?_⟩
  rintro i m H ⟨rfl, hi, p⟩
  by_cases hlt : i < x.cps.size
  · refine .inr ⟨hlt, Pv (i + 1), fun H' p' => ⟨x.cps.size - (i + 1), by omega, rfl, hlt, p'⟩, fun v H' y => ?_⟩
    obtain ⟨rfl, c, hc, rfl⟩ := y
    exact hs i c _ (by rw [Array.getElem?_toList]; exact hc) p
  · have e : i = x.cps.size := by omega
    subst e
    exact .inl ⟨Nat.le_refl _, hd H p⟩
theorem wk_tup {d : Bool} {K : PySem.W.Frag} {a : Addr} {xs : List V} {g : TG} {tt : TT} {te : TE} {vs : List Nat} {σ : L2.St} {Qe Qd : Hp → Prop} {H0 : Hp} (Pv : Nat → Hp → Prop) (h0 : Pv 0 H0) (hl : ∀ i H, i ≤ xs.length → Pv i H → SqT K H a xs)
    (hs : ∀ i x H, xs[i]? = some x → Pv i H → g x (wipe σ vs) H fun σ2 H2 => wipe σ2 vs = wipe σ vs ∧ tt σ2 H2 fun b H3 =>
      if b = true then te σ2 H3 fun y H4 => ∃ c, y = .bl c ∧ if c = d then Qd H4 else Pv (i + 1) H4 else Pv (i + 1) H3) (hd : ∀ H, Pv xs.length H → Qe H) :
    ∃ W : Nat → Nat → Hp → Prop, (∃ m, W 0 m H0) ∧ Wk d (Itt K a) g tt te vs σ W Qe Qd := by
  refine ⟨fun i m H => m = xs.length - i ∧ i ≤ xs.length ∧ Pv i H, ⟨xs.length, by simp, Nat.zero_le _, h0⟩, ?_⟩
  rintro i m H ⟨rfl, hi, p⟩
  have q := hl i H hi p
  by_cases hlt : i < xs.length
  · refine .inr ⟨⟨xs, xs[i], q, by simp [hlt]⟩, Pv (i + 1), fun H' p' => ⟨xs.length - (i + 1), by omega, rfl, hlt, p'⟩, fun x H' y => ?_⟩
    obtain ⟨rfl, e⟩ := y
    exact hs i x _ (e xs q) p
  · have e : i = xs.length := by omega
    subst e
    exact .inl ⟨⟨xs, q, Nat.le_refl _⟩, hd H p⟩
end GX
namespace K51
open PySem PySem.Spec PyProof.Rows L2 TR QR
open GxR (TabB TabG Tabbed)
theorem same_upd {a : Addr} {H H1 : Hp} {o : HO} (e : H a = none) (s : Same H H1) : Same H (upd H1 a o) := fun b o' e' => by
  rw [upd_ne (ne_of_none e' e)]
  exact s b o' e'
theorem same_trans {H H1 H2 : Hp} (a : Same H H1) (b : Same H1 H2) : Same H H2 := fun x o e => b x o (a x o e)
theorem same_none {H H' : Hp} {a : Addr} (s : Same H H') (n : H' a = none) : H a = none := by
  cases e : H a with
  | none => rfl
  | some o =>
    rw [s a o e] at n
    cases n
theorem same_refl {H : Hp} : Same H H := fun _ _ e => e
theorem to_dec {R : Bool → Hp → Prop} {H : Hp} {x y : Bool} (e : x = y) (h : R y H) : R x H := e ▸ h
theorem get_map {α β : Type} {l : List α} {i : Nat} {x : α} (f : α → β) (h : l[i]? = some x) : (l.map f)[i]? = some (f x) := by
  rw [List.getElem?_map, h]
  rfl
theorem map_get {α β : Type} {l : List α} {i : Nat} {y : β} {f : α → β} (h : (l.map f)[i]? = some y) : ∃ x, l[i]? = some x ∧ f x = y := by
  rw [List.getElem?_map] at h
  exact Option.map_eq_some_iff.mp h
/-- a test of two parts; the parts may lay new objects -/
theorem and_dec {tA tB : TT} {σ : L2.St} {H : Hp} {Q : Bool → Hp → Prop} {p q : Prop} [Decidable p] [Decidable q] (hA : ∀ R : Bool → Hp → Prop, (∀ H1, Same H H1 → R (decide p) H1) → tA σ H R)
    (hB : p → ∀ H1, Same H H1 → ∀ R : Bool → Hp → Prop, (∀ H2, Same H1 H2 → R (decide q) H2) → tB σ H1 R) (h : ∀ H2, Same H H2 → Q (decide (p ∧ q)) H2) : tAnd tA tB σ H Q := by
  refine hA _ fun H1 s1 => ?_
  by_cases hp : p
  · show if decide p = true then tB σ H1 Q else Q false H1
    rw [decide_eq_true hp]
    refine hB hp H1 s1 Q fun H2 s2 => ?_
    have := h H2 (same_trans s1 s2)
    rw [show decide (p ∧ q) = decide q from decide_eq_decide.mpr ⟨fun z => z.2, fun z => ⟨hp, z⟩⟩] at this
    exact this
  · show if decide p = true then tB σ H1 Q else Q false H1
    rw [decide_eq_false hp]
    have := h H1 s1
    rw [decide_eq_false (fun z => hp z.1)] at this
    exact this
theorem or_dec {tA tB : TT} {σ : L2.St} {H : Hp} {Q : Bool → Hp → Prop} {p q : Prop} [Decidable p] [Decidable q] (hA : ∀ R : Bool → Hp → Prop, (∀ H1, Same H H1 → R (decide p) H1) → tA σ H R)
    (hB : ¬ p → ∀ H1, Same H H1 → ∀ R : Bool → Hp → Prop, (∀ H2, Same H1 H2 → R (decide q) H2) → tB σ H1 R) (h : ∀ H2, Same H H2 → Q (decide (p ∨ q)) H2) : tOr tA tB σ H Q := by
  refine hA _ fun H1 s1 => ?_
  by_cases hp : p
  · show if decide p = true then Q true H1 else tB σ H1 Q
    rw [decide_eq_true hp]
    have := h H1 s1
    rw [decide_eq_true (Or.inl hp)] at this
    exact this
  · show if decide p = true then Q true H1 else tB σ H1 Q
    rw [decide_eq_false hp]
    refine hB hp H1 s1 Q fun H2 s2 => ?_
    have := h H2 (same_trans s1 s2)
    rw [show decide (p ∨ q) = decide q from decide_eq_decide.mpr ⟨fun z => z.resolve_left hp, fun z => .inr z⟩] at this
    exact this
/-- draws were made, objects laid: the state stands, the others stand as before -/
structure Dr (p c : Addr) (H H' : Hp) : Prop where
  st : StateAt H' p c
  ou : ∀ b o, b ≠ p → b ≠ c → H b = some o → H' b = some o
theorem StateAt.some {H : Hp} {p c : Addr} (s : StateAt H p c) : (∃ o, H p = Option.some (.lst o)) ∧ ∃ o, H c = Option.some (.lst o) := by
  obtain ⟨⟨seed, ms, h1, h2, _⟩, _⟩ := s
  exact ⟨⟨_, h1⟩, ⟨_, h2⟩⟩
theorem StateAt.same {H H' : Hp} {p c : Addr} (s : StateAt H p c) (k : Same H H') : StateAt H' p c := s.mono (fun o e => k _ _ e) (fun o e => k _ _ e)
theorem Dr.refl {p c : Addr} {H : Hp} (s : StateAt H p c) : Dr p c H H := ⟨s, fun _ _ _ _ e => e⟩
theorem Dr.trans {p c : Addr} {H H1 H2 : Hp} (a : Dr p c H H1) (b : Dr p c H1 H2) : Dr p c H H2 := ⟨b.st, fun x o n1 n2 e => b.ou x o n1 n2 (a.ou x o n1 n2 e)⟩
theorem Dr.same {p c : Addr} {H H1 H2 : Hp} (a : Dr p c H H1) (b : Same H1 H2) : Dr p c H H2 := ⟨a.st.same b, fun x o n1 n2 e => b _ _ (a.ou x o n1 n2 e)⟩
theorem Dr.drawn {p c : Addr} {H H1 H2 : Hp} (a : Dr p c H H1) (s : StateAt H2 p c) (b : Drawn p c H1 H2) : Dr p c H H2 := ⟨s, fun x o n1 n2 e => (b x n1 n2).trans (a.ou x o n1 n2 e)⟩
theorem Dr.none {p c : Addr} {H H1 : Hp} {x : Addr} (a : Dr p c H H1) (n : H1 x = none) : H x = none := by
  obtain ⟨⟨_, e1⟩, ⟨_, e2⟩⟩ := a.st.some
  cases e : H x with
  | none => rfl
  | some o =>
    have n1 : x ≠ p := fun z => by rw [z, e1] at n; cases n
    have n2 : x ≠ c := fun z => by rw [z, e2] at n; cases n
    rw [a.ou x o n1 n2 e] at n
    cases n
theorem StateAt.new {H : Hp} {p c x : Addr} (s : StateAt H p c) (n : H x = none) : x ≠ p ∧ x ≠ c := by
  obtain ⟨⟨_, e1⟩, ⟨_, e2⟩⟩ := s.some
  exact ⟨fun z => (by rw [z, e1] at n; cases n), fun z => (by rw [z, e2] at n; cases n)⟩
theorem StateAt.upd {H : Hp} {p c x : Addr} {o : HO} (s : StateAt H p c) (n : x ≠ p ∧ x ≠ c) : StateAt (L2.upd H x o) p c :=
  s.mono (fun q e => by rw [upd_ne (Ne.symm n.1)]; exact e) (fun q e => by rw [upd_ne (Ne.symm n.2)]; exact e)
/-- what stood stands, but for the table at T -/
structure Tb (T : Addr) (H H' : Hp) : Prop where
  sm : ∀ b o, b ≠ T → H b = some o → H' b = some o
  tg : TabG H' T
/-- what stood stands, but for two tables -/
structure Tb2 (T1 T2 : Addr) (H H' : Hp) : Prop where
  sm : ∀ b o, b ≠ T1 → b ≠ T2 → H b = some o → H' b = some o
  t1 : TabG H' T1
  t2 : TabG H' T2
theorem Tb2.at_ {T1 T2 : Addr} {H H' : Hp} (h : Tb2 T1 T2 H H') (g1 : TabG H T1) (g2 : TabG H T2) {b : Addr} {o : HO} (e : H b = some o) (n : ∀ ps, o ≠ .tbl ps) : H' b = some o := by
  obtain ⟨p1, e1, _⟩ := g1
  obtain ⟨p2, e2, _⟩ := g2
  refine h.sm b o (fun z => ?_) (fun z => ?_) e
  · rw [z, e1] at e
    exact n p1 (Option.some.inj e).symm
  · rw [z, e2] at e
    exact n p2 (Option.some.inj e).symm
theorem tab_ne {H : Hp} {T b : Addr} {o : HO} (g : TabG H T) (e : H b = some o) (n : ∀ ps, o ≠ .tbl ps) : b ≠ T := fun z => by
  obtain ⟨ps, e1, _⟩ := g
  rw [z, e1] at e
  exact n ps (Option.some.inj e).symm
theorem tab_same {H H' : Hp} {T : Addr} (g : TabG H T) (s : Same H H') : TabG H' T := by
  obtain ⟨ps, e1, e2⟩ := g
  exact ⟨ps, s _ _ e1, e2⟩
end K51
namespace K51
open PySem PySem.Spec PyProof.Rows L2 TR QR
open GxR (TabB TabG Tabbed)
abbrev sIW : Stmt := topS 4
abbrev nIW : List Str := ["text", "signs", "most", "sign"]
theorem scIW : FnScope nIW ["text", "signs", "most"] (defScope sIW) := ⟨rfl, rfl, rfl, by decide +kernel, rfl, by decide +kernel, by decide +kernel⟩
abbrev sIP : Stmt := topS 6
abbrev nIP : List Str := ["path", "part"]
theorem scIP : FnScope nIP ["path"] (defScope sIP) := ⟨rfl, rfl, rfl, by decide +kernel, rfl, by decide +kernel, by decide +kernel⟩
def wordB (l s : List Nat) (m : Int) : Bool := decide ((1 : Int) ≤ l.length ∧ (l.length : Int) ≤ m) && l.all fun c => decide (c ∈ s)
def letL : List Nat := tl "abcdefghijklmnopqrstuvwxyz" ++ tl "0123456789"
def pathB (ps : List (List Nat)) : Bool := decide (1 ≤ ps.length ∧ ps.length ≤ 4) && ps.all fun l => wordB l letL 8
section
variable {P : Program} {w : World} {K : PySem.W.Frag} {mg : Str → Option Value} {base : Heap}
def spIW (T : Addr) : Sp := fun vs H Q _ => ∃ (x s : Str) (m : Int), vs = [.str x, .str s, .int m] ∧ x.length ≤ 100000 ∧ TabG H T ∧ ∀ H', Tb T H H' → Q (.bl (wordB (tl x) (tl s) m)) H'
theorem ok_IW {T c f : Addr} {oc kV doc pm ct : Value} {od an : Option Addr} {osl : Array (Option Value)} (lk : K.lookup f = some ⟨oc, od, .func (PySem.W.fnOf "is_word" "is_word" (defArgs sIW) (defBody sIW) (defScope sIW) .none kV doc pm an (.ref c) ct), osl⟩)
    (hcd : PySem.W.codeIn K (.ref c) "is_word" = true) (TB : TabB base mg c T) (m_len : mg "len" = none) (m_all : mg "all" = none) :
    FnOk P w K mg base CX0 2 f (PySem.W.fnOf "is_word" "is_word" (defArgs sIW) (defBody sIW) (defScope sIW) .none kV doc pm an (.ref c) ct) ["text", "signs", "most"] (spIW T) := by
  refine fn_of lk hcd scIW (fun vs H Q E h => ?_) fun A outer s H vs Q E hr h => ?_
  · obtain ⟨x, s, m, rfl, _⟩ := h
    rfl
  · obtain ⟨x, sg, m, rfl, hx, hT, q⟩ := h
    have hu := hr.units
    have hu1 := hu_of hr
    have zl := zl
    have hrX := hr
    refine ⟨_, (pss_one (ps_ret (pe_and (pe_chain op_le op_le (pe_int) (pe_callB call_len_str (by rfl) m_len PySem.boot_len (pa_cons (pv 0) pa_nil)) (pv 2)) (pe_one (GX.pe_allG (k := 0) (own := [("sign", 3)]) (g := gName 3) (tt := tYes) (te := tOp (fun x y H Q => ∃ (c : Nat) (z : Str), x = .str ⟨#[c]⟩ ∧ y = .str z ∧ Q (.bl (decide (c ∈ z.cps.toList))) H) (tVar 3) (tVar 1)) hrX rfl scIW.nd (by rfl) m_all ⟨blkOk_by (N := nIW) (sc := defScope sIW) (by decide +kernel), by decide +kernel, rfl, rfl, TB, rfl⟩ (pi_str (pv 0)) (fun _ _ _ _ _ _ hrG => by exact pg_name (i := 3) scIW.nd rfl (.inl rfl)) (fun _ _ _ _ _ _ hrG => pts_nil) (fun _ _ _ _ _ _ hrG => by exact pe_cmpR op_in_sign (pv 3) (pv 1) (by rfl)) (fun _ => rfl)))))), ?_⟩
    have no : ∀ H', Tb T H H' → ¬ ((1 : Int) ≤ (tl x).length ∧ ((tl x).length : Int) ≤ m) → Q (.bl false) H' := fun H' t z => by
      have := q H' t
      unfold wordB at this
      rw [decide_eq_false z, Bool.false_and] at this
      exact this
    have t0 : Tb T H H := ⟨fun _ _ _ e => e, hT⟩
    refine ⟨_, rfl, x, rfl, by omega, _, _, rfl, rfl, _, rfl, ite2 (fun h1 => ?_) (fun h1 => ?_)⟩
    · have h1 := of_decide_eq_true h1
      refine ⟨_, rfl, _, _, rfl, rfl, _, rfl, ite2 (fun h2 => ?_) (fun h2 => ?_)⟩
      · have h2 := of_decide_eq_true h2
        have yes : ∀ H', Tb T H H' → Q (.bl ((tl x).all fun c => decide (c ∈ tl sg))) H' := fun H' t => by
          have := q H' t
          unfold wordB at this
          rw [decide_eq_true ⟨h1, h2⟩, Bool.true_and] at this
          exact this
        refine ⟨_, rfl, x, rfl, hT, fun H2 t2 => ?_⟩
        have b2 : Tb T H H2 := ⟨fun b o n e => (t2.2 b n).trans e, t2.1⟩
        refine GX.wk_str (x := x) (fun k H' => Tb T H H' ∧ ∀ (m : Nat) (c : Nat), m < k → (tl x)[m]? = some c → c ∈ tl sg) ⟨b2, fun m c h => by omega⟩ ?_ ?_
        · rintro i c H3 hc ⟨b3, hm⟩
          refine ⟨rfl, _, rfl, _, rfl, c, sg, rfl, rfl, _, rfl, ?_⟩
          by_cases hin : c ∈ tl sg
          · rw [if_neg (by rw [decide_eq_true hin]; decide)]
            refine ⟨b3, fun m c' h e => ?_⟩
            by_cases hmk : m = i
            · subst hmk
              have e2 : (tl x)[m]? = some c := hc
              rw [e2] at e
              cases e
              exact hin
            · exact hm m c' (by omega) e
          · rw [if_pos (decide_eq_false hin)]
            have := yes H3 b3
            rw [show ((tl x).all fun c => decide (c ∈ tl sg)) = false by
              rw [List.all_eq_false]
              exact ⟨c, List.mem_of_getElem? hc, by rw [decide_eq_true_eq]; exact hin⟩] at this
            exact this
        · rintro H3 ⟨b3, hm⟩
          have := yes H3 b3
          rw [show ((tl x).all fun c => decide (c ∈ tl sg)) = true by
            rw [List.all_eq_true]
            intro c hc
            obtain ⟨m, e⟩ := List.mem_iff_getElem?.mp hc
            exact decide_eq_true (hm m c (List.getElem?_eq_some_iff.mp e).1 e)] at this
          exact this
      · exact no H t0 fun z => h2 (decide_eq_true z.2)
    · exact ⟨_, rfl, ite2 (fun z => absurd z (by decide)) (fun _ => no H t0 fun z => h1 (decide_eq_true z.1))⟩
def spIP (T1 T2 : Addr) : Sp := fun vs H Q _ => ∃ (a : Addr) (ps : List (List Nat)), vs = [.ref a] ∧ H a = some (.tup (ps.map fun l => V.str (Sg l))) ∧ ps.length ≤ 100000 ∧ (∀ l ∈ ps, l.length ≤ 100000) ∧ TabG H T1 ∧ TabG H T2 ∧ T1 ≠ T2 ∧ ∀ H', Tb2 T1 T2 H H' → Q (.bl (pathB ps)) H'
theorem ok_IP {T1 T2 c f fIW : Addr} {oc kV doc pm ct : Value} {od an : Option Addr} {osl : Array (Option Value)} {fdIW : FuncData} {kLE kDI : Tok} (lk : K.lookup f = some ⟨oc, od, .func (PySem.W.fnOf "is_path" "is_path" (defArgs sIP) (defBody sIP) (defScope sIP) .none kV doc pm an (.ref c) ct), osl⟩)
    (hcd : PySem.W.codeIn K (.ref c) "is_path" = true) (TB : TabB base mg c T2)
    (GIW : FnOk P w K mg base CX0 2 fIW fdIW ["text", "signs", "most"] (spIW T1)) (bIW : Binds K fdIW ["text", "signs", "most"] []) (gIW : mg "is_word" = some (.ref fIW)) (kIW : PySem.W.keepIn K (.ref fIW) = true)
    (gLE : mg "LETTERS" = some (.str "abcdefghijklmnopqrstuvwxyz" kLE)) (gDI : mg "DIGITS" = some (.str "0123456789" kDI))
    (m_isinstance : mg "isinstance" = none) (m_tuple : mg "tuple" = none) (m_len : mg "len" = none) (m_all : mg "all" = none) (m_str : mg "str" = none) :
    FnOk P w K mg base CX0 4 f (PySem.W.fnOf "is_path" "is_path" (defArgs sIP) (defBody sIP) (defScope sIP) .none kV doc pm an (.ref c) ct) ["path"] (spIP T1 T2) := by
  refine fn_of lk hcd scIP (fun vs H Q E h => ?_) fun A outer s H vs Q E hr h => ?_
  · obtain ⟨a, ps, rfl, _⟩ := h
    rfl
  · obtain ⟨a, ps, rfl, ha, hn, hl, hT1, hT2, neT, q⟩ := h
    have hu := hr.units
    have hu1 := hu_of hr
    have zl := zl
    have hrX := hr
    refine ⟨_, (pss_cons (ps_if (PW.pt (pw_or (pt_not (pt_val (pe_callB call_isi (by rfl) m_isinstance (by decide +kernel) (pa_cons (pv 0) (pa_cons (pe_bltn (v := V.ty "tuple") (u := .type "tuple") (by rfl) m_tuple (by decide +kernel) rfl) pa_nil))))) (pw_or1 (pt_not (pt_chain op_le op_le (pe_int) (pe_callB call_len_seq (by rfl) m_len PySem.boot_len (pa_cons (pv 0) pa_nil)) (pe_int))))))
      (pss_one (ps_ret (pe_bl))) pss_nil)
      (pss_one (ps_ret (GX.pe_allG (k := 2) (own := [("part", 1)]) (g := gName 1) (tt := tYes) (te := tAndV (tCB (rIsi K) (tCons (tVar 1) (tCons (tC (.ty "str")) tNil))) (tCall (spIW T1) [] E0 (tCons (tVar 1) (tCons (tOp (fun x y H Q => ∃ i j, x = .str i ∧ y = .str j ∧ i.length + j.length ≤ sizeLine ∧ Q (.str (i ++ j)) H) (tC (.str "abcdefghijklmnopqrstuvwxyz")) (tC (.str "0123456789"))) (tCons (tC (.int 8)) tNil))))) hrX rfl scIP.nd (by rfl) m_all ⟨blkOk_by (N := nIP) (sc := defScope sIP) (by decide +kernel), by decide +kernel, rfl, rfl, TB, rfl⟩ (pi_tup (pv 0)) (fun _ _ _ _ _ _ hrG => by exact pg_name (i := 1) scIP.nd rfl (.inl rfl)) (fun _ _ _ _ _ _ hrG => pts_nil) (fun _ _ _ _ _ _ hrG => by exact pe_and (pe_callB (show CallR _ (.builtin "isinstance") (rIsi K) from call_isi) (by rfl) m_isinstance (by decide +kernel) (pa_cons (pv 1) (pa_cons (pe_bltn (v := V.ty "str") (u := .type "str") (by rfl) m_str (by decide +kernel) rfl) pa_nil))) (pe_one (pe_call GIW (hrG.mono (by decide)) (by rfl) gIW kIW bIW .nil pass0 (pa_cons (pv 1) (pa_cons (pe_op op_add_str (pe_glob (v := V.str "abcdefghijklmnopqrstuvwxyz") (by rfl) gLE ⟨_, rfl⟩) (pe_glob (v := V.str "0123456789") (by rfl) gDI ⟨_, rfl⟩)) (pa_cons (pe_int) pa_nil)))))) (fun _ => rfl))))), ?_⟩
    have t0 : ∀ H1, Same H H1 → Tb2 T1 T2 H H1 := fun H1 s1 => ⟨fun _ _ _ _ e => s1 _ _ e, tab_same hT1 s1, tab_same hT2 s1⟩
    have lps : (ps.map fun l => V.str (Sg l)).length = ps.length := List.length_map _
    have no : ∀ H', Tb2 T1 T2 H H' → ¬ (1 ≤ ps.length ∧ ps.length ≤ 4) → Q (.bl false) H' := fun H' t z => by
      have := q H' t
      unfold pathB at this
      rw [decide_eq_false z, Bool.false_and] at this
      exact this
    dsimp only [tNext, tSeq, tIfS, tAsg, gName, tC]
    refine or_dec (p := False) (q := ¬ (1 ≤ ps.length ∧ ps.length ≤ 4)) (fun R k => ⟨_, rfl, _, _, _, _, true, rfl, .ty _, .base (.tup ha), kit_ty (by decide +kernel), _, rfl, to_dec (by simp) (k _ same_refl)⟩)
      (fun _ H1 s1 R k => ⟨_, rfl, a, _, rfl, .inr (SqT.of (s1 _ _ ha)), _, _, rfl, rfl, _, rfl, ite2 (fun h1 => ⟨_, _, rfl, rfl, _, rfl, ?_⟩) (fun h1 => ⟨_, rfl, ?_⟩)⟩) fun H1 s1 => ite2 (fun h1 => ?_) (fun h1 => ?_)
    · have h1 := of_decide_eq_true h1
      refine to_dec ?_ (k _ same_refl)
      rw [← decide_not]
      exact decide_eq_decide.mpr (by omega)
    · have h1 : ¬ (1 : Int) ≤ ((ps.map fun l => V.str (Sg l)).length : Int) := fun z => h1 (decide_eq_true z)
      refine to_dec ?_ (k _ same_refl)
      exact (decide_eq_true (by omega)).symm
    · have h1 := of_decide_eq_true h1
      exact no H1 (t0 _ s1) (by simpa using h1)
    · have h1 : 1 ≤ ps.length ∧ ps.length ≤ 4 := Decidable.byContradiction fun z => h1 (decide_eq_true (.inr z))
      have yes : ∀ H', Tb2 T1 T2 H H' → Q (.bl (ps.all fun l => wordB l letL 8)) H' := fun H' t => by
        have := q H' t
        unfold pathB at this
        rw [decide_eq_true h1, Bool.true_and] at this
        exact this
      refine ⟨_, rfl, a, rfl, ⟨_, SqT.of (s1 _ _ ha)⟩, tab_same hT2 s1, fun H2 t2 => ?_⟩
      have b2 : Tb2 T1 T2 H H2 := ⟨fun b o n1 n2 e => (t2.2 b n2).trans (s1 _ _ e), by
        obtain ⟨p1, z1, z2⟩ := tab_same hT1 s1
        exact ⟨p1, (t2.2 T1 neT).trans z1, z2⟩, t2.1⟩
      refine GX.wk_tup (xs := ps.map fun l => V.str (Sg l)) (fun k H' => Tb2 T1 T2 H H' ∧ ∀ (m : Nat) (l : List Nat), m < k → ps[m]? = some l → wordB l letL 8 = true) ⟨b2, fun m l h => by omega⟩ ?_ ?_ ?_
      · rintro k H' _ ⟨t5, _⟩
        exact SqT.of (t5.at_ hT1 hT2 ha (fun ps z => nomatch z))
      · rintro i y H5 hy ⟨t5, hm⟩
        obtain ⟨l, gl, rfl⟩ := map_get hy
        have ll := hl l (List.mem_of_getElem? gl)
        refine ⟨rfl, _, rfl, _, _, _, _, true, rfl, .ty _, .base (.str _), kit_ty (by decide +kernel), _, rfl, ite2 (fun _ => ?_) (fun z => absurd rfl z)⟩
        refine ⟨_, rfl, _, _, rfl, rfl, (by have : (Str.ofString "abcdefghijklmnopqrstuvwxyz").length + (Str.ofString "0123456789").length = 36 := by decide +kernel
                                            omega), Sg l, _, 8, rfl, ll, t5.t1, fun H6 t6 => ⟨_, rfl, ?_⟩⟩
        have b6 : Tb2 T1 T2 H H6 := ⟨fun b o n1 n2 e => t6.sm b o n1 (t5.sm b o n1 n2 e), t6.tg, by
          obtain ⟨p2, z1, z2⟩ := t5.t2
          exact ⟨p2, t6.sm T2 _ (Ne.symm neT) z1, z2⟩⟩
        have el : tl (Str.ofString "abcdefghijklmnopqrstuvwxyz" ++ Str.ofString "0123456789") = letL := tl_app _ _
        rw [el]
        by_cases hw : wordB (tl (Sg l)) letL 8 = true
        · rw [if_neg (by rw [hw]; decide)]
          refine ⟨b6, fun m l' h e => ?_⟩
          by_cases hmk : m = i
          · subst hmk
            rw [gl] at e
            cases e
            exact hw
          · exact hm m l' (by omega) e
        · rw [if_pos (Bool.eq_false_iff.mpr hw)]
          have := yes H6 b6
          rw [show (ps.all fun l => wordB l letL 8) = false by
            rw [List.all_eq_false]
            exact ⟨l, List.mem_of_getElem? gl, hw⟩] at this
          exact this
      · rintro H5 ⟨t5, hm⟩
        rw [lps] at hm
        have := yes H5 t5
        rw [show (ps.all fun l => wordB l letL 8) = true by
          rw [List.all_eq_true]
          intro c hc
          obtain ⟨m, e⟩ := List.mem_iff_getElem?.mp hc
          exact hm m c (List.getElem?_eq_some_iff.mp e).1 e] at this
        exact this
end
end K51
namespace K51
open PySem PySem.Spec PyProof.Rows L2 TR QR
open GxR (TabB TabG Tabbed)
open PySem.W (Datum Tup)
abbrev sBE : Stmt := topS 8
abbrev nBE : List Str := ["prefix", "path"]
theorem scBE : FnScope nBE ["prefix", "path"] (defScope sBE) := ⟨rfl, rfl, rfl, by decide +kernel, rfl, by decide +kernel, by decide +kernel⟩
abbrev sSH : Stmt := topS 9
abbrev nSH : List Str := ["path"]
theorem scSH : FnScope nSH ["path"] (defScope sSH) := ⟨rfl, rfl, rfl, by decide +kernel, rfl, by decide +kernel, by decide +kernel⟩
abbrev sPP : Stmt := topS 10
abbrev nPP : List Str := ["text", "path"]
theorem scPP : FnScope nPP ["text"] (defScope sPP) := ⟨rfl, rfl, rfl, by decide +kernel, rfl, by decide +kernel, by decide +kernel⟩
abbrev Path := List (List Nat)
abbrev strV (ps : Path) : List V := ps.map fun l => V.str (Sg l)
theorem strV_len (ps : Path) : (strV ps).length = ps.length := List.length_map _
theorem dp_path {K : PySem.W.Frag} {H : Hp} {a : Addr} {ps : Path} (h : SqT K H a (strV ps)) : Dp K H (.ref a) (Datum.toD (⟨ps.map Sg⟩ : Tup Str)) := by
  refine .tup h ?_
  show DpAll K H (strV ps) ((ps.map Sg).map Datum.toD)
  clear h
  induction ps with
  | nil => exact .nil
  | cons p r ih => exact .cons (.str (Sg p)) ih
theorem sg_inj {ps qs : Path} : ((⟨ps.map Sg⟩ : Tup Str) = ⟨qs.map Sg⟩) ↔ ps = qs := by
  constructor
  · intro h
    injection h with h
    have h2 := congrArg (List.map tl) h
    rw [List.map_map, List.map_map] at h2
    have e : (tl ∘ Sg) = id := by funext l; rfl
    rw [e, List.map_id, List.map_id] at h2
    exact h2
  · intro h
    rw [h]
def begB (pre path : Path) : Bool := decide (path.take pre.length = pre)
/-- a cut of a tuple: the same one, or a new one -/
theorem cut_tup {K : PySem.W.Frag} {H : Hp} {a : Addr} {ps : Path} {n : Nat} {Q : VK} (ha : H a = some (.tup (strV ps))) (q : ∀ H' r, Same H H' → H' r = some (.tup (strV (ps.take n))) → Q (.ref r) H') : rSlA K (.ref a) none (some (n : Int)) H Q := by
  refine ⟨a, _, rfl, SqT.of ha, fun e => q H a same_refl ?_, fun _ p np => ?_⟩
  · have e2 := cutV_nn (strV ps) n
    unfold cutV at e2
    rw [e.1, e.2, List.drop_zero, Nat.sub_zero, List.take_length] at e2
    have e3 : strV (ps.take n) = strV ps := by
      show (ps.take n).map _ = _
      rw [List.map_take]
      exact e2.symm
    rw [e3]
    exact ha
  · rw [cutV_nn]
    refine q _ p (same_new np) ?_
    rw [upd_same]
    unfold strV
    rw [List.map_take]
section
variable {P : Program} {w : World} {K : PySem.W.Frag} {mg : Str → Option Value} {base : Heap}
def spBE : Sp := fun vs H Q _ => ∃ (a b : Addr) (ps qs : Path), vs = [.ref a, .ref b] ∧ H a = some (.tup (strV ps)) ∧ H b = some (.tup (strV qs)) ∧ ∀ H', Same H H' → Q (.bl (begB ps qs)) H'
theorem ok_BE {f : Addr} {fd : FuncData} (F : Fun K "begins" "begins" sBE f fd)
    (m_len : mg "len" = none) : FnOk P w K mg base CX0 1 f fd ["prefix", "path"] spBE := by
  refine F.ok scBE (fun vs H Q E h => ?_) (fun cdv A outer s H vs Q E hr h => ?_)
  · obtain ⟨a, b, ps, qs, rfl, _⟩ := h
    rfl
  · obtain ⟨a, b, ps, qs, rfl, ha, hb, q⟩ := h
    have hu := hr.units
    have hu1 := hu_of hr
    have zl := zl
    refine ⟨_, (pss_one (ps_ret (pe_cmpR (op_eqP hu) (pe_slice sl_tupA (pv 1) (po_none) (po_some (pe_callB call_len_seq (by rfl) m_len PySem.boot_len (pa_cons (pv 0) pa_nil)))) (pv 0) (nomark _)))), ?_⟩
    refine ⟨_, rfl, _, rfl, a, _, rfl, .inr (SqT.of ha), _, rfl, ?_⟩
    rw [strV_len]
    refine cut_tup hb fun H' r s1 e1 => ?_
    refine ⟨_, rfl, eq_dat (dp_path (SqT.of e1)) (dp_path (SqT.of (s1 _ _ ha))) (by decide) ?_⟩
    refine to_dec (R := fun b H' => Q (.bl b) H') (decide_eq_decide.mpr sg_inj) (q _ s1)
/-- the text of a path -/
def slashL : Path → List Nat := joinL 47
def spSH : Sp := fun vs H Q _ => ∃ (a : Addr) (ps : Path), vs = [.ref a] ∧ H a = some (.tup (strV ps)) ∧ ps.length ≤ 1000 ∧ (∀ l ∈ ps, l.length ≤ 100) ∧ Q (.str (Sg (slashL ps))) H
theorem slash_str : Str.ofString "/" = ⟨#[47]⟩ := by decide +kernel
theorem join_slash (ps : Path) : Txt.join (Str.ofString "/") (ps.map Sg) = Sg (slashL ps) := by
  rw [slash_str]
  show Builtin.Str.glued _ _ = _
  rw [StrLaws.glued_eq_join]
  refine ext_tl ?_
  rw [tl_join, List.map_map]
  have e : (tl ∘ Sg) = id := by funext l; rfl
  rw [e, List.map_id]
  rfl
theorem sum_sg : ∀ {ps : Path}, (∀ l ∈ ps, l.length ≤ 100) → ((ps.map Sg).map (·.length)).sum ≤ 100 * ps.length
  | [], _ => Nat.le_refl _
  | p :: r, h => by
    have a := h p List.mem_cons_self
    have b := sum_sg (ps := r) fun x hx => h x (List.mem_cons_of_mem _ hx)
    rw [List.map_cons, List.map_cons, List.sum_cons, List.length_cons]
    have e : (Sg p).length = p.length := rfl
    rw [e]
    omega
theorem ok_SH {f : Addr} {fd : FuncData} (F : Fun K "show_path" "show_path" sSH f fd) : FnOk P w K mg base CX0 1 f fd ["path"] spSH := by
  refine F.ok scSH (fun vs H Q E h => ?_) (fun cdv A outer s H vs Q E hr h => ?_)
  · obtain ⟨a, ps, rfl, _⟩ := h
    rfl
  · obtain ⟨a, ps, rfl, ha, hn, hl, q⟩ := h
    have hu := hr.units
    have hu1 := hu_of hr
    have zl := zl
    refine ⟨_, (pss_one (ps_ret (pe_join (pe_str) (pv 0)))), ?_⟩
    refine ⟨⟨_, rfl⟩, _, rfl, _, a, ps.map Sg, rfl, rfl, .inr (SqT.of (by rw [List.map_map]; exact ha)), ?_, ?_⟩
    · have := sum_sg hl
      rw [List.length_map, show (Str.ofString "/").length = 1 by decide +kernel]
      omega
    · rw [join_slash]
      exact q
/-- the path that a text shows -/
def parseL (l : List Nat) : Option Path := if pathB (cutAt 47 l) = true then some (cutAt 47 l) else none
def pathV (H : Hp) (v : V) : Option Path → Prop
  | none => v = .non
  | some ps => ∃ a, v = .ref a ∧ H a = some (.tup (strV ps))
def spPP (T1 T2 : Addr) : Sp := fun vs H Q _ => ∃ (x : Str), vs = [.str x] ∧ x.length ≤ 10000 ∧ TabG H T1 ∧ TabG H T2 ∧ T1 ≠ T2 ∧ ∀ H' v, Tb2 T1 T2 H H' → pathV H' v (parseL (tl x)) → Q v H'
end
end K51
namespace K51
open PySem PySem.Spec PyProof.Rows L2 TR QR
open GxR (TabB TabG Tabbed)
open PySem.W (Datum Tup)
abbrev sRA : Stmt := topS 11
abbrev nRA : List Str := ["rules", "path", "best", "at", "prefix", "_"]
theorem scRA : FnScope nRA ["rules", "path"] (defScope sRA) := ⟨rfl, rfl, rfl, by decide +kernel, rfl, by decide +kernel, by decide +kernel⟩
abbrev sLA : Stmt := topS 12
abbrev nLA : List Str := ["rules", "path", "at"]
theorem scLA : FnScope nLA ["rules", "path"] (defScope sLA) := ⟨rfl, rfl, rfl, by decide +kernel, rfl, by decide +kernel, by decide +kernel⟩
theorem cut_len (c : Nat) : ∀ l : List Nat, (cutAt c l).length ≤ l.length + 1 ∧ ∀ p ∈ cutAt c l, p.length ≤ l.length
  | [] => ⟨Nat.le_refl _, fun p hp => by rw [List.mem_singleton.mp hp]; exact Nat.le_refl _⟩
  | x :: l => by
    obtain ⟨h1, h2⟩ := cut_len c l
    unfold cutAt
    split
    · refine ⟨by rw [List.length_cons, List.length_cons]; omega, fun p hp => ?_⟩
      rcases List.mem_cons.mp hp with e | hp
      · rw [e]
        exact Nat.zero_le _
      · have := h2 p hp
        rw [List.length_cons]
        omega
    · split
      · refine ⟨by simp, fun p hp => ?_⟩
        rw [List.mem_singleton.mp hp]
        simp
      · rename_i p r e
        rw [e] at h1 h2
        refine ⟨by rw [List.length_cons, List.length_cons] at *; omega, fun q hq => ?_⟩
        rcases List.mem_cons.mp hq with e2 | hq
        · have := h2 p List.mem_cons_self
          rw [e2, List.length_cons, List.length_cons]
          omega
        · have := h2 q (List.mem_cons_of_mem _ hq)
          rw [List.length_cons]
          omega
/-! ### rules -/
structure Rule where
  pre : Path
  lv : Nat
  ms : List Nat
structure RA where
  t : Addr
  pa : Addr
  la : Addr
  ma : Addr
def LabAt (H : Hp) (la ma : Addr) (lv : Nat) (ms : List Nat) : Prop := H la = some (.tup [.str "label", .int (lv : Int), .ref ma]) ∧ H ma = some (.tup (ms.map fun m : Nat => V.int (m : Int)))
structure RuleAt (H : Hp) (x : RA × Rule) : Prop where
  t : H x.1.t = some (.tup [.ref x.1.pa, .ref x.1.la])
  p : H x.1.pa = some (.tup (strV x.2.pre))
  l : LabAt H x.1.la x.1.ma x.2.lv x.2.ms
structure RulesAt (H : Hp) (r : Addr) (R : List (RA × Rule)) : Prop where
  li : H r = some (.lst (R.map fun x => V.ref x.1.t))
  it : ∀ x ∈ R, RuleAt H x
theorem LabAt.same {H H' : Hp} {la ma : Addr} {lv : Nat} {ms : List Nat} (h : LabAt H la ma lv ms) (s : Same H H') : LabAt H' la ma lv ms := ⟨s _ _ h.1, s _ _ h.2⟩
theorem RuleAt.same {H H' : Hp} {x : RA × Rule} (h : RuleAt H x) (s : Same H H') : RuleAt H' x := ⟨s _ _ h.t, s _ _ h.p, h.l.same s⟩
theorem RulesAt.same {H H' : Hp} {r : Addr} {R : List (RA × Rule)} (h : RulesAt H r R) (s : Same H H') : RulesAt H' r R := ⟨s _ _ h.li, fun x hx => (h.it x hx).same s⟩
/-- the rule that counts among the first i -/
def lenAt (R : List (RA × Rule)) (b : Nat) : Nat := ((R[b]?).map fun x => x.2.pre.length).getD 0
def bst (R : List (RA × Rule)) (p : Path) : Nat → Option Nat
  | 0 => none
  | i + 1 => match R[i]? with
    | none => bst R p i
    | some x => if begB x.2.pre p = true ∧ (bst R p i = none ∨ ∃ b, bst R p i = some b ∧ lenAt R b ≤ x.2.pre.length) then some i else bst R p i
theorem bst_step {R : List (RA × Rule)} {p : Path} {i : Nat} {x : RA × Rule} (h : R[i]? = some x) : bst R p (i + 1) = if begB x.2.pre p = true ∧ (bst R p i = none ∨ ∃ b, bst R p i = some b ∧ lenAt R b ≤ x.2.pre.length) then some i else bst R p i := by
  rw [bst, h]
theorem bst_lt {R : List (RA × Rule)} {p : Path} : ∀ {i b : Nat}, bst R p i = some b → b < i ∧ b < R.length
  | 0, b, h => by cases h
  | i + 1, b, h => by
    rw [bst] at h
    split at h
    · have := bst_lt h
      omega
    · rename_i x e
      split at h
      · cases h
        exact ⟨Nat.lt_succ_self _, (List.getElem?_eq_some_iff.mp e).1⟩
      · have := bst_lt h
        omega
theorem len_at {R : List (RA × Rule)} {b : Nat} {x : RA × Rule} (h : R[b]? = some x) : lenAt R b = x.2.pre.length := by
  unfold lenAt
  rw [h]
  rfl
/-- no rule's prefix begins it -/
theorem bst_none {R : List (RA × Rule)} {p : Path} : ∀ {i : Nat}, bst R p i = none → ∀ k x, k < i → R[k]? = some x → begB x.2.pre p = false
  | 0, _, k, x, hk, _ => by omega
  | i + 1, h, k, x, hk, hx => by
    rw [bst] at h
    split at h
    · rename_i e
      by_cases z : k = i
      · rw [z, e] at hx
        cases hx
      · exact bst_none h k x (by omega) hx
    · rename_i y e
      split at h
      · cases h
      · rename_i n
        by_cases z : k = i
        · subst z
          rw [e] at hx
          cases hx
          exact Bool.eq_false_iff.mpr fun q => n ⟨q, .inl h⟩
        · exact bst_none h k x (by omega) hx
/-- the rule that is found begins it, and no other that does is longer, or as long and later -/
theorem bst_some {R : List (RA × Rule)} {p : Path} : ∀ {i b : Nat}, bst R p i = some b → (∃ y, R[b]? = some y ∧ begB y.2.pre p = true) ∧ ∀ k x, k < i → R[k]? = some x → begB x.2.pre p = true → x.2.pre.length < lenAt R b ∨ (x.2.pre.length = lenAt R b ∧ k ≤ b)
  | 0, b, h => by cases h
  | i + 1, b, h => by
    rw [bst] at h
    split at h
    · rename_i e
      obtain ⟨a1, a2⟩ := bst_some h
      refine ⟨a1, fun k x hk hx hb => ?_⟩
      by_cases z : k = i
      · rw [z, e] at hx
        cases hx
      · exact a2 k x (by omega) hx hb
    · rename_i y e
      split at h
      · rename_i n
        cases h
        refine ⟨⟨y, e, n.1⟩, fun k x hk hx hb => ?_⟩
        rw [len_at e]
        by_cases z : k = i
        · subst z
          rw [e] at hx
          cases hx
          exact .inr ⟨rfl, Nat.le_refl _⟩
        · rcases n.2 with n2 | ⟨b', n2, n3⟩
          · rw [bst_none n2 k x (by omega) hx] at hb
            cases hb
          · rcases (bst_some n2).2 k x (by omega) hx hb with q | q
            · exact .inl (by omega)
            · by_cases w : x.2.pre.length = y.2.pre.length
              · exact .inr ⟨w, by omega⟩
              · exact .inl (by omega)
      · rename_i n
        obtain ⟨a1, a2⟩ := bst_some h
        refine ⟨a1, fun k x hk hx hb => ?_⟩
        by_cases z : k = i
        · subst z
          rw [e] at hx
          cases hx
          have n2 : ¬ lenAt R b ≤ y.2.pre.length := fun q => n ⟨hb, .inr ⟨b, h, q⟩⟩
          exact .inl (by omega)
        · exact a2 k x (by omega) hx hb
def natO : Option Nat → V
  | none => .non
  | some n => .int (n : Int)
section
variable {P : Program} {w : World} {K : PySem.W.Frag} {mg : Str → Option Value} {base : Heap}
theorem ok_PP {T1 T2 f fIP : Addr} {fd fdIP : FuncData} (F : Fun K "parse_path" "parse_path" sPP f fd)
    (GIP : FnOk P w K mg base CX0 4 fIP fdIP ["path"] (spIP T1 T2)) (bIP : Binds K fdIP ["path"] []) (gIP : mg "is_path" = some (.ref fIP)) (kIP : PySem.W.keepIn K (.ref fIP) = true) (m_tuple : mg "tuple" = none) :
    FnOk P w K mg base CX0 5 f fd ["text"] (spPP T1 T2) := by
  refine F.ok scPP (fun vs H Q E h => ?_) (fun cdv A outer s H vs Q E hr h => ?_)
  · obtain ⟨x, rfl, _⟩ := h
    rfl
  · obtain ⟨x, rfl, hx, g1, g2, neT, q⟩ := h
    have hu := hr.units
    have hu1 := hu_of hr
    have hr1 : Room 1 _ := hr.mono (by decide)
    have hr2 : Room 2 _ := hr.mono (by decide)
    have hr3 : Room 3 _ := hr.mono (by decide)
    have hr4 : Room 4 _ := hr.mono (by decide)
    have zl := zl
    refine ⟨_, (pss_cons (ps_set (i := 1) scPP.nd rfl (.inl rfl) (pe_callTy call_tuple_of (by rfl) m_tuple (by decide +kernel) (pa_cons (pe_split (pv 0) (pe_str)) pa_nil)))
      (pss_one (ps_ret (pe_ifExp (pt_val (pe_call GIP hr4 (by rfl) gIP kIP bIP .nil pass0 (pa_cons (pv 1) pa_nil))) (pv 1) (pe_non))))), ?_⟩
    have zl2 := zl
    obtain ⟨l1, l2⟩ := cut_len 47 (tl x)
    have lx := len_tl x
    refine ⟨_, rfl, ⟨_, rfl⟩, x, _, rfl, rfl, by decide +kernel, by omega, fun p np => ?_⟩
    rw [slash_str, split_cut, List.map_map]
    refine ⟨p, _, rfl, .inl ⟨SqL.of upd_same, fun t nt => ?_⟩⟩
    have s1 : Same H (upd (upd H p (.lst ((cutAt 47 (tl x)).map (V.str ∘ Sg)))) t (.tup ((cutAt 47 (tl x)).map (V.str ∘ Sg)))) := same_trans (same_new np) (same_new nt)
    have et : (upd (upd H p (.lst ((cutAt 47 (tl x)).map (V.str ∘ Sg)))) t (.tup ((cutAt 47 (tl x)).map (V.str ∘ Sg)))) t = some (.tup (strV (cutAt 47 (tl x)))) := upd_same
    generalize upd (upd H p (.lst ((cutAt 47 (tl x)).map (V.str ∘ Sg)))) t (.tup ((cutAt 47 (tl x)).map (V.str ∘ Sg))) = H1 at s1 et
    have h1 := tab_same g1 s1
    have h2 := tab_same g2 s1
    refine ⟨_, rfl, t, cutAt 47 (tl x), rfl, et, by omega, fun l hl => by have := l2 l hl; omega, h1, h2, neT, fun H2 t2 => ⟨_, rfl, ?_⟩⟩
    have b2 : Tb2 T1 T2 H H2 := ⟨fun b o n1 n2 e => t2.sm b o n1 n2 (s1 _ _ e), t2.t1, t2.t2⟩
    have et2 := t2.at_ h1 h2 et (fun ps z => nomatch z)
    refine ite2 (fun h => ?_) (fun h => ?_)
    · refine ⟨_, rfl, q H2 _ b2 ?_⟩
      unfold parseL
      rw [if_pos h]
      exact ⟨t, rfl, et2⟩
    · refine q H2 _ b2 ?_
      unfold parseL
      rw [if_neg h]
      rfl
def spRA : Sp := fun vs H Q _ => ∃ (r a : Addr) (R : List (RA × Rule)) (ps : Path), vs = [.ref r, .ref a] ∧ RulesAt H r R ∧ R.length ≤ 1000 ∧ H a = some (.tup (strV ps)) ∧ ∀ H', Same H H' → Q (natO (bst R ps R.length)) H'
theorem ok_RA {f fBE : Addr} {fd fdBE : FuncData} (F : Fun K "rule_at" "rule_at" sRA f fd)
    (GBE : FnOk P w K mg base CX0 1 fBE fdBE ["prefix", "path"] spBE) (bBE : Binds K fdBE ["prefix", "path"] []) (gBE : mg "begins" = some (.ref fBE)) (kBE : PySem.W.keepIn K (.ref fBE) = true)
    (m_len : mg "len" = none) (m_enumerate : mg "enumerate" = none) : FnOk P w K mg base CX0 2 f fd ["rules", "path"] spRA := by
  refine F.ok scRA (fun vs H Q E h => ?_) (fun cdv A outer s H vs Q E hr h => ?_)
  · obtain ⟨r, a, R, ps, rfl, _⟩ := h
    rfl
  · obtain ⟨r, a, R, ps, rfl, hR, hn, ha, q⟩ := h
    have hu := hr.units
    have hu1 := hu_of hr
    have hr1 : Room 1 _ := hr.mono (by decide)
    have zl := zl
    refine ⟨_, (pss_cons (ps_set (i := 2) scRA.nd rfl (.inl rfl) (pe_non))
      (pss_cons (ps_for PassesOwn.never rfl (pi_enum (by rfl) m_enumerate (pa_cons (pv 0) pa_nil)) (pg_tup (by rfl) (pgs_cons (pg_name (i := 3) scRA.nd rfl (.inl rfl)) (pgs_cons (pg_tup (by rfl) (pgs_cons (pg_name (i := 4) scRA.nd rfl (.inl rfl)) (pgs_cons (pg_name (i := 5) scRA.nd rfl (.inl rfl)) pgs_nil))) pgs_nil)))
      (pss_one (ps_if (PW.pt (pw_and (pt_val (pe_call GBE hr1 (by rfl) gBE kBE bBE .nil pass0 (pa_cons (pv 4) (pa_cons (pv 1) pa_nil)))) (pw_and1 (PW.pt (pw_or (pt_cmpR op_isN (pv 2) (pe_non) (nomark _)) (pw_or1 (pt_cmpR op_ge (pe_callB call_len_seq (by rfl) m_len PySem.boot_len (pa_cons (pv 4) pa_nil)) (pe_callB call_len_seq (by rfl) m_len PySem.boot_len (pa_cons (pe_ix ix_tup (pe_ix ix_list (pv 0) (pv 2) (fun _ _ => rfl)) (pe_int) (fun _ _ => rfl)) pa_nil)) (nomark _))))))))
      (pss_one (ps_set (i := 2) scRA.nd rfl (.inl rfl) (pv 3))) pss_nil)))
      (pss_one (ps_ret (pv 2))))), ?_⟩
    have zl2 := zl
    have hlen : (R.map fun x => V.ref x.1.t).length = R.length := List.length_map _
    refine ⟨_, rfl, r, _, rfl, SqL.of hR.li, for_it (walk_enum (xs := R.map fun x => V.ref x.1.t)) (fun i σ H' => ∃ (y3 y4 y5 : Option V), σ = [some (.ref r), some (.ref a), some (natO (bst R ps i)), y3, y4, y5] ∧ Same H H') ⟨none, none, none, rfl, same_refl⟩ ?_ ?_ ?_⟩
    · rintro i σ H' _ ⟨_, _, _, _, s1⟩
      exact SqL.of (s1 _ _ hR.li)
    · rintro i v σ H0 H' hi ⟨y3, y4, y5, rfl, s0⟩ ⟨T, x1, x2, rfl, nT, rfl, e1, e2⟩
      cases e1
      obtain ⟨x, gx, rfl⟩ := map_get e2
      have s1 : Same H (upd H0 T (.tup [.int (i : Nat), .ref x.1.t])) := same_trans s0 (same_new nT)
      have eT : (upd H0 T (.tup [.int (i : Nat), .ref x.1.t])) T = some (.tup [.int (i : Nat), .ref x.1.t]) := upd_same
      clear e2 nT
      generalize upd H0 T (.tup [.int (i : Nat), .ref x.1.t]) = H1 at s1 eT
      have hx := (hR.it x (List.mem_of_getElem? gx)).same s1
      have ha1 := s1 _ _ ha
      refine ⟨T, _, rfl, SqT.of eT, rfl, _, _, rfl, _, _, rfl, x.1.t, _, rfl, SqT.of hx.t, rfl, _, _, rfl, _, _, rfl, rfl, rfl, ?_⟩
      dsimp only [tNext, tSeq, tIfS, tAsg, gName, tC]
      refine and_dec (p := begB x.2.pre ps = true) (q := bst R ps i = none ∨ ∃ b, bst R ps i = some b ∧ lenAt R b ≤ x.2.pre.length) (fun R' k => ⟨_, rfl, _, rfl, x.1.pa, a, x.2.pre, ps, rfl, hx.p, ha1, fun H2 s2 => ⟨_, rfl, to_dec (Bool.decide_eq_true).symm (k _ s2)⟩⟩)
        (fun _ H2 s2 R' k => ?_) fun H2 s2 => ite2 (fun h => ?_) (fun h => ?_)
      · cases hb : bst R ps i with
        | none =>
          rw [hb] at k
          refine or_dec (p := True) (q := True) (fun R' k => ⟨_, rfl, rfl, _, rfl, to_dec (by simp [natO]) (k _ same_refl)⟩) (fun z => absurd trivial z) fun H3 s3 => to_dec (R := R') ?_ (k _ s3)
          exact decide_eq_decide.mpr ⟨fun _ => .inl rfl, fun _ => .inl trivial⟩
        | some b =>
          rw [hb] at k
          obtain ⟨b1, b2⟩ := bst_lt hb
          have gb := List.getElem?_eq_getElem b2
          generalize R[b] = y at gb
          have hy := ((hR.it y (List.mem_of_getElem? gb)).same s1).same s2
          have hx2 := hx.same s2
          have gy : (R.map fun x => V.ref x.1.t)[b]? = some (V.ref y.1.t) := get_map _ gb
          refine or_dec (p := False) (q := y.2.pre.length ≤ x.2.pre.length) (fun R' k => ⟨_, rfl, rfl, _, rfl, to_dec (by simp [natO]) (k _ same_refl)⟩)
            (fun _ H3 s3 R' k => ⟨_, rfl, x.1.pa, _, rfl, .inr (SqT.of (hx2.same s3).p), _, rfl, _, rfl, r, _, _, _, rfl, rfl, SqL.of (s3 _ _ (s2 _ _ (s1 _ _ hR.li))), atI_nat gy, y.1.t, _, _, _, rfl, rfl, SqT.of (hy.same s3).t, atI_nat (j := 0) rfl, y.1.pa, _, rfl, .inr (SqT.of (hy.same s3).p), _, _, rfl, rfl, _, rfl, to_dec ?_ (k _ same_refl)⟩) fun H3 s3 => to_dec (R := R') ?_ (k _ s3)
          · rw [strV_len, strV_len]
            exact decide_eq_decide.mpr Int.ofNat_le
          · refine decide_eq_decide.mpr ?_
            rw [← len_at gb]
            constructor
            · rintro (z | z)
              · exact z.elim
              · exact .inr ⟨b, rfl, z⟩
            · rintro (z | ⟨b', z, z2⟩)
              · cases z
              · cases z
                exact .inr z2
      · have h := of_decide_eq_true h
        refine ⟨_, rfl, some (.int (i : Nat)), some (.ref x.1.pa), some (.ref x.1.la), ?_, same_trans s1 s2⟩
        rw [bst_step gx, if_pos h]
        rfl
      · have h : ¬ _ := fun z => h (decide_eq_true z)
        refine ⟨some (.int (i : Nat)), some (.ref x.1.pa), some (.ref x.1.la), ?_, same_trans s1 s2⟩
        rw [bst_step gx, if_neg h]
        rfl
    · rintro σ H' ⟨y3, y4, y5, rfl, s1⟩
      rw [hlen]
      exact ⟨_, rfl, q _ s1⟩
/-- the label that is found: that of the rule, or the public one -/
def labV (R : List (RA × Rule)) (pu : Addr) : Option Nat → V
  | none => .ref pu
  | some b => ((R[b]?).map fun x => V.ref x.1.la).getD .non
def spLA (pu : Addr) : Sp := fun vs H Q _ => ∃ (r a : Addr) (R : List (RA × Rule)) (ps : Path), vs = [.ref r, .ref a] ∧ RulesAt H r R ∧ R.length ≤ 1000 ∧ H a = some (.tup (strV ps)) ∧ ∀ H', Same H H' → Q (labV R pu (bst R ps R.length)) H'
theorem ok_LA {PU f fRA : Addr} {fd fdRA : FuncData} (F : Fun K "label_of" "label_of" sLA f fd)
    (GRA : FnOk P w K mg base CX0 2 fRA fdRA ["rules", "path"] spRA) (bRA : Binds K fdRA ["rules", "path"] []) (gRA : mg "rule_at" = some (.ref fRA)) (kRA : PySem.W.keepIn K (.ref fRA) = true) (gPU : mg "PUBLIC" = some (.ref PU)) :
    FnOk P w K mg base CX0 3 f fd ["rules", "path"] (spLA PU) := by
  refine F.ok scLA (fun vs H Q E h => ?_) (fun cdv A outer s H vs Q E hr h => ?_)
  · obtain ⟨r, a, R, ps, rfl, _⟩ := h
    rfl
  · obtain ⟨r, a, R, ps, rfl, hR, hn, ha, q⟩ := h
    have hu := hr.units
    have hu1 := hu_of hr
    have hr1 : Room 1 _ := hr.mono (by decide)
    have hr2 : Room 2 _ := hr.mono (by decide)
    have zl := zl
    refine ⟨_, (pss_cons (ps_set (i := 2) scLA.nd rfl (.inl rfl) (pe_call GRA hr2 (by rfl) gRA kRA bRA .nil pass0 (pa_cons (pv 0) (pa_cons (pv 1) pa_nil))))
      (pss_one (ps_ret (pe_ifExp (pt_cmpR op_isN (pv 2) (pe_non) (nomark _)) (pe_glob (v := V.ref PU) (by rfl) gPU rfl) (pe_ix ix_tup (pe_ix ix_list (pv 0) (pv 2) (fun _ _ => rfl)) (pe_int) (fun _ _ => rfl)))))), ?_⟩
    refine ⟨_, rfl, _, rfl, r, a, R, ps, rfl, hR, hn, ha, fun H1 s1 => ?_⟩
    have q1 := q H1 s1
    cases hb : bst R ps R.length with
    | none =>
      rw [hb] at q1
      exact ⟨_, rfl, rfl, _, rfl, ite2 (fun _ => q1) (fun z => absurd (decide_eq_true rfl) z)⟩
    | some b =>
      rw [hb] at q1
      obtain ⟨b1, b2⟩ := bst_lt hb
      have gb := List.getElem?_eq_getElem b2
      generalize R[b] = y at gb
      have e : labV R PU (some b) = V.ref y.1.la := by
        show ((R[b]?).map fun x => V.ref x.1.la).getD .non = _
        rw [gb]
        rfl
      rw [e] at q1
      have hy := (hR.it y (List.mem_of_getElem? gb)).same s1
      have gy : (R.map fun x => V.ref x.1.t)[b]? = some (V.ref y.1.t) := get_map _ gb
      exact ⟨_, rfl, rfl, _, rfl, ite2 (fun z => absurd z (by simp [natO])) (fun _ => ⟨_, rfl, _, rfl, r, _, _, _, rfl, rfl, SqL.of (s1 _ _ hR.li), atI_nat gy, y.1.t, _, _, _, rfl, rfl, SqT.of hy.t, atI_nat (j := 1) rfl, q1⟩)⟩
end
end K51
namespace K51
open PySem PySem.Spec PyProof.Rows L2 TR QR
open GxR (TabB TabG Tabbed)
open PySem.W (Datum Tup)
abbrev sLL : Stmt := topS 17
abbrev nLL : List Str := ["state", "labels"]
theorem scLL : FnScope nLL ["state"] (defScope sLL) := ⟨rfl, rfl, rfl, by decide +kernel, rfl, by decide +kernel, by decide +kernel⟩
abbrev sLP : Stmt := topS 19
abbrev nLP : List Str := ["state", "paths"]
theorem scLP : FnScope nLP ["state"] (defScope sLP) := ⟨rfl, rfl, rfl, by decide +kernel, rfl, by decide +kernel, by decide +kernel⟩
abbrev sLR : Stmt := topS 20
abbrev nLR : List Str := ["state", "count", "prefixes", "k"]
theorem scLR : FnScope nLR ["state", "count"] (defScope sLR) := ⟨rfl, rfl, rfl, by decide +kernel, rfl, by decide +kernel, by decide +kernel⟩
def labelL : List (Nat × List Nat) := [(0, []), (1, []), (1, [0]), (2, [0, 3]), (0, [3]), (7, [0, 1, 2, 3, 4, 5]), (3, [1, 3])]
def pathL : List Path := [[[97]], [[98]], [[97], [98]], [[97], [99]], [[115], [107]], [[97], [98], [99]], [[115]]]
def preL : List Path := [[], [[97]], [[97], [98]], [[115]], [[115], [107]], [[98]]]
theorem sA : Str.ofString "a" = Sg [97] := by decide +kernel
theorem sB : Str.ofString "b" = Sg [98] := by decide +kernel
theorem sC : Str.ofString "c" = Sg [99] := by decide +kernel
theorem sS : Str.ofString "s" = Sg [115] := by decide +kernel
theorem sK : Str.ofString "k" = Sg [107] := by decide +kernel
/-- labels that were laid since H0 -/
structure LabsAt (H0 H : Hp) (L : List ((Addr × Addr) × (Nat × List Nat))) : Prop where
  sm : Same H0 H
  it : ∀ x ∈ L, LabAt H x.1.1 x.1.2 x.2.1 x.2.2 ∧ H0 x.1.1 = none ∧ H0 x.1.2 = none
theorem LabsAt.nil {H : Hp} : LabsAt H H [] := ⟨same_refl, fun x hx => nomatch hx⟩
theorem LabsAt.same {H0 H H' : Hp} {L : List ((Addr × Addr) × (Nat × List Nat))} (h : LabsAt H0 H L) (s : Same H H') : LabsAt H0 H' L := ⟨same_trans h.sm s, fun x hx => ⟨(h.it x hx).1.same s, (h.it x hx).2⟩⟩
theorem LabsAt.step {H0 H : Hp} {L : List ((Addr × Addr) × (Nat × List Nat))} {ma la : Addr} {lv : Nat} {ms : List Nat} (h : LabsAt H0 H L) (n1 : H ma = none) (n2 : (upd H ma (.tup (ms.map fun m : Nat => V.int (m : Int)))) la = none) :
    LabsAt H0 (upd (upd H ma (.tup (ms.map fun m : Nat => V.int (m : Int)))) la (.tup [.str "label", .int (lv : Int), .ref ma])) (L ++ [((la, ma), (lv, ms))]) := by
  have s1 := same_new (o := .tup (ms.map fun m : Nat => V.int (m : Int))) n1
  have s2 := same_new (o := .tup [.str "label", .int (lv : Int), .ref ma]) n2
  have ne : ma ≠ la := ne_of_none upd_same n2
  refine ⟨same_trans h.sm (same_trans s1 s2), fun x hx => ?_⟩
  rcases List.mem_append.mp hx with hx | hx
  · exact ⟨((h.it x hx).1.same s1).same s2, (h.it x hx).2⟩
  · rw [List.mem_singleton.mp hx]
    refine ⟨⟨upd_same, ?_⟩, same_none (same_trans h.sm s1) n2, same_none h.sm n1⟩
    show (upd (upd H ma _) la _) ma = _
    rw [upd_ne ne]
    exact upd_same
/-- paths that were laid since H0 -/
structure PathsAt (H0 H : Hp) (L : List (Addr × Path)) : Prop where
  sm : Same H0 H
  it : ∀ x ∈ L, H x.1 = some (.tup (strV x.2)) ∧ H0 x.1 = none
theorem PathsAt.nil {H : Hp} : PathsAt H H [] := ⟨same_refl, fun x hx => nomatch hx⟩
theorem PathsAt.same {H0 H H' : Hp} {L : List (Addr × Path)} (h : PathsAt H0 H L) (s : Same H H') : PathsAt H0 H' L := ⟨same_trans h.sm s, fun x hx => ⟨s _ _ (h.it x hx).1, (h.it x hx).2⟩⟩
theorem PathsAt.step {H0 H : Hp} {L : List (Addr × Path)} {a : Addr} (ps : Path) (h : PathsAt H0 H L) (n : H a = none) : PathsAt H0 (upd H a (.tup (strV ps))) (L ++ [(a, ps)]) := by
  have s := same_new (o := .tup (strV ps)) n
  refine ⟨same_trans h.sm s, fun x hx => ?_⟩
  rcases List.mem_append.mp hx with hx | hx
  · exact ⟨s _ _ (h.it x hx).1, (h.it x hx).2⟩
  · rw [List.mem_singleton.mp hx]
    exact ⟨upd_same, same_none h.sm n⟩
section
variable {P : Program} {w : World} {K : PySem.W.Frag} {mg : Str → Option Value} {base : Heap}
def spLL : Sp := fun vs H Q _ => ∃ (p c : Addr), vs = [.ref p] ∧ StateAt H p c ∧ ∀ H' la ma l, Dr p c H H' → H la = none → H ma = none → l ∈ labelL → LabAt H' la ma l.1 l.2 → Q (.ref la) H'
def spLP : Sp := fun vs H Q _ => ∃ (p c : Addr), vs = [.ref p] ∧ StateAt H p c ∧ ∀ H' a ps, Dr p c H H' → H a = none → ps ∈ pathL → H' a = some (.tup (strV ps)) → Q (.ref a) H'
theorem ok_LL {f fT : Addr} {fd fdT : FuncData} (F : Fun K "_law_label" "_law_label" sLL f fd)
    (GT : FnOk P w K mg base CX0 1 fT fdT ["state", "most"] spTake) (bT : Binds K fdT ["state", "most"] []) (gT : mg "_law_take" = some (.ref fT)) (kT : PySem.W.keepIn K (.ref fT) = true) : FnOk P w K mg base CX0 2 f fd ["state"] spLL := by
  refine F.ok scLL (fun vs H Q E h => ?_) (fun cdv A outer s H vs Q E hr h => ?_)
  · obtain ⟨p, c, rfl, _⟩ := h
    rfl
  · obtain ⟨p, c, rfl, st, q⟩ := h
    have hu := hr.units
    have hu1 := hu_of hr
    have hr1 : Room 1 _ := hr.mono (by decide)
    have zl := zl
    refine ⟨_, (pss_cons (ps_set (i := 1) scLL.nd rfl (.inl rfl) (pe_lst (pa_cons (pe_tup (pa_cons (pe_str) (pa_cons (pe_int) (pa_cons (pe_tup (pa_nil)) pa_nil)))) (pa_cons (pe_tup (pa_cons (pe_str) (pa_cons (pe_int) (pa_cons (pe_tup (pa_nil)) pa_nil)))) (pa_cons (pe_tup (pa_cons (pe_str) (pa_cons (pe_int) (pa_cons (pe_tup (pa_cons (pe_int) pa_nil)) pa_nil)))) (pa_cons (pe_tup (pa_cons (pe_str) (pa_cons (pe_int) (pa_cons (pe_tup (pa_cons (pe_int) (pa_cons (pe_int) pa_nil))) pa_nil)))) (pa_cons (pe_tup (pa_cons (pe_str) (pa_cons (pe_int) (pa_cons (pe_tup (pa_cons (pe_int) pa_nil)) pa_nil)))) pa_nil)))))))
      (pss_cons (ps_set (i := 1) scLL.nd rfl (.inl rfl) (pe_op op_cat (pv 1) (pe_lst (pa_cons (pe_tup (pa_cons (pe_str) (pa_cons (pe_int) (pa_cons (pe_tup (pa_cons (pe_int) (pa_cons (pe_int) (pa_cons (pe_int) (pa_cons (pe_int) (pa_cons (pe_int) (pa_cons (pe_int) pa_nil))))))) pa_nil)))) (pa_cons (pe_tup (pa_cons (pe_str) (pa_cons (pe_int) (pa_cons (pe_tup (pa_cons (pe_int) (pa_cons (pe_int) pa_nil))) pa_nil)))) pa_nil)))))
      (pss_one (ps_ret (pe_ix ix_list (pv 1) (pe_call GT hr1 (by rfl) gT kT bT .nil pass0 (pa_cons (pv 0) (pa_cons (pe_int) pa_nil))) (fun _ _ => rfl)))))), ?_⟩
    have zl2 := zl
    have L0 : LabsAt H H [] := LabsAt.nil
    refine ⟨by show 0 ≤ sizeLine; omega, fun m0 n0 => ⟨by show 3 ≤ sizeLine; omega, fun l0 k0 => ?_⟩⟩
    have L1 := LabsAt.step (lv := 0) (ms := []) L0 n0 k0
    refine ⟨by show 0 ≤ sizeLine; omega, fun m1 n1 => ⟨by show 3 ≤ sizeLine; omega, fun l1 k1 => ?_⟩⟩
    have L2 := LabsAt.step (lv := 1) (ms := []) L1 n1 k1
    refine ⟨by show 1 ≤ sizeLine; omega, fun m2 n2 => ⟨by show 3 ≤ sizeLine; omega, fun l2 k2 => ?_⟩⟩
    have L3 := LabsAt.step (lv := 1) (ms := [0]) L2 n2 k2
    refine ⟨by show 2 ≤ sizeLine; omega, fun m3 n3 => ⟨by show 3 ≤ sizeLine; omega, fun l3 k3 => ?_⟩⟩
    have L4 := LabsAt.step (lv := 2) (ms := [0, 3]) L3 n3 k3
    refine ⟨by show 1 ≤ sizeLine; omega, fun m4 n4 => ⟨by show 3 ≤ sizeLine; omega, fun l4 k4 => ?_⟩⟩
    have L5 := LabsAt.step (lv := 0) (ms := [3]) L4 n4 k4
    refine ⟨by show 5 ≤ sizeLine; omega, fun a1 na1 => ?_⟩
    have LL5 := L5.same (same_new (o := .lst [.ref l0, .ref l1, .ref l2, .ref l3, .ref l4]) na1)
    refine ⟨_, rfl, by show 6 ≤ sizeLine; omega, fun m5 n5 => ⟨by show 3 ≤ sizeLine; omega, fun l5 k5 => ?_⟩⟩
    have L6 := LabsAt.step (lv := 7) (ms := [0, 1, 2, 3, 4, 5]) LL5 n5 k5
    refine ⟨by show 2 ≤ sizeLine; omega, fun m6 n6 => ⟨by show 3 ≤ sizeLine; omega, fun l6 k6 => ?_⟩⟩
    have L7 := LabsAt.step (lv := 3) (ms := [1, 3]) L6 n6 k6
    refine ⟨by show 2 ≤ sizeLine; omega, fun a2 na2 => ⟨a1, a2, _, _, rfl, rfl, same_new na2 _ _ (same_new k6 _ _ (same_new n6 _ _ (same_new k5 _ _ (same_new n5 _ _ upd_same)))), upd_same, by show 7 ≤ sizeLine; omega, fun a3 na3 => ?_⟩⟩
    have L8 := (L7.same (same_new (o := .lst [.ref l5, .ref l6]) na2)).same (same_new (o := .lst [.ref l0, .ref l1, .ref l2, .ref l3, .ref l4, .ref l5, .ref l6]) na3)
    have st8 := st.same L8.sm
    have n3 := (st.same ((L7.same (same_new (o := .lst [.ref l5, .ref l6]) na2)).sm)).new na3
    refine ⟨_, rfl, _, rfl, p, c, 7, rfl, by decide, st8, fun H' r _ lr st9 d9 => ?_⟩
    have lr := lr (by decide)
    have fin : ∀ (L : List ((Addr × Addr) × (Nat × List Nat))) (G : Hp) (a3 : Addr), LabsAt H G L → L.length = 7 → L.map (·.2) = labelL → G a3 = some (.lst (L.map fun x => V.ref x.1.1)) → a3 ≠ p → a3 ≠ c → Drawn p c G H' → rIxL K (.ref a3) (.int (r : Int)) H' Q := by
      intro L G a3 hL h7 hm e3 z1 z2 d
      have gr := List.getElem?_eq_getElem (l := L) (i := r) (by omega)
      have mr := List.getElem_mem (l := L) (n := r) (by omega)
      generalize L[r] = x at gr mr
      obtain ⟨hx, y1, y2⟩ := hL.it x mr
      have w1 := st.new y1
      have w2 := st.new y2
      refine ⟨a3, _, _, _, rfl, rfl, SqL.of ((d a3 z1 z2).trans e3), atI_nat (get_map _ gr), q H' x.1.1 x.1.2 x.2 ⟨st9, fun b o n1 n2 e => (d b n1 n2).trans (hL.sm _ _ e)⟩ y1 y2 ?_ ⟨(d _ w1.1 w1.2).trans hx.1, (d _ w2.1 w2.2).trans hx.2⟩⟩
      rw [← hm]
      exact List.mem_map.mpr ⟨x, mr, rfl⟩
    exact fin _ _ a3 L8 rfl rfl upd_same n3.1 n3.2 d9
theorem ok_LP {f fT : Addr} {fd fdT : FuncData} (F : Fun K "_law_path" "_law_path" sLP f fd)
    (GT : FnOk P w K mg base CX0 1 fT fdT ["state", "most"] spTake) (bT : Binds K fdT ["state", "most"] []) (gT : mg "_law_take" = some (.ref fT)) (kT : PySem.W.keepIn K (.ref fT) = true) : FnOk P w K mg base CX0 2 f fd ["state"] spLP := by
  refine F.ok scLP (fun vs H Q E h => ?_) (fun cdv A outer s H vs Q E hr h => ?_)
  · obtain ⟨p, c, rfl, _⟩ := h
    rfl
  · obtain ⟨p, c, rfl, st, q⟩ := h
    have hu := hr.units
    have hu1 := hu_of hr
    have hr1 : Room 1 _ := hr.mono (by decide)
    have zl := zl
    refine ⟨_, (pss_cons (ps_set (i := 1) scLP.nd rfl (.inl rfl) (pe_lst (pa_cons (pe_tup (pa_cons (pe_str) pa_nil)) (pa_cons (pe_tup (pa_cons (pe_str) pa_nil)) (pa_cons (pe_tup (pa_cons (pe_str) (pa_cons (pe_str) pa_nil))) (pa_cons (pe_tup (pa_cons (pe_str) (pa_cons (pe_str) pa_nil))) (pa_cons (pe_tup (pa_cons (pe_str) (pa_cons (pe_str) pa_nil))) (pa_cons (pe_tup (pa_cons (pe_str) (pa_cons (pe_str) (pa_cons (pe_str) pa_nil)))) (pa_cons (pe_tup (pa_cons (pe_str) pa_nil)) pa_nil)))))))))
      (pss_one (ps_ret (pe_ix ix_list (pv 1) (pe_call GT hr1 (by rfl) gT kT bT .nil pass0 (pa_cons (pv 0) (pa_cons (pe_int) pa_nil))) (fun _ _ => rfl))))), ?_⟩
    have zl2 := zl
    simp only [sA, sB, sC, sS, sK]
    have L0 : PathsAt H H [] := PathsAt.nil
    refine ⟨by show 1 ≤ sizeLine; omega, fun l0 k0 => ?_⟩
    have L1 := PathsAt.step [[97]] L0 k0
    refine ⟨by show 1 ≤ sizeLine; omega, fun l1 k1 => ?_⟩
    have L2 := PathsAt.step [[98]] L1 k1
    refine ⟨by show 2 ≤ sizeLine; omega, fun l2 k2 => ?_⟩
    have L3 := PathsAt.step [[97], [98]] L2 k2
    refine ⟨by show 2 ≤ sizeLine; omega, fun l3 k3 => ?_⟩
    have L4 := PathsAt.step [[97], [99]] L3 k3
    refine ⟨by show 2 ≤ sizeLine; omega, fun l4 k4 => ?_⟩
    have L5 := PathsAt.step [[115], [107]] L4 k4
    refine ⟨by show 3 ≤ sizeLine; omega, fun l5 k5 => ?_⟩
    have L6 := PathsAt.step [[97], [98], [99]] L5 k5
    refine ⟨by show 1 ≤ sizeLine; omega, fun l6 k6 => ?_⟩
    have L7 := PathsAt.step [[115]] L6 k6
    refine ⟨by show 7 ≤ sizeLine; omega, fun a1 na1 => ?_⟩
    have L8 := L7.same (same_new (o := .lst [.ref l0, .ref l1, .ref l2, .ref l3, .ref l4, .ref l5, .ref l6]) na1)
    have st8 := st.same L8.sm
    have n3 := (st.same L7.sm).new na1
    refine ⟨_, rfl, _, rfl, p, c, 7, rfl, by decide, st8, fun H' r _ lr st9 d9 => ?_⟩
    have lr := lr (by decide)
    have fin : ∀ (L : List (Addr × Path)) (G : Hp) (a3 : Addr), PathsAt H G L → L.length = 7 → L.map (·.2) = pathL → G a3 = some (.lst (L.map fun x => V.ref x.1)) → a3 ≠ p → a3 ≠ c → Drawn p c G H' → rIxL K (.ref a3) (.int (r : Int)) H' Q := by
      intro L G a3 hL h7 hm e3 z1 z2 d
      have gr := List.getElem?_eq_getElem (l := L) (i := r) (by omega)
      have mr := List.getElem_mem (l := L) (n := r) (by omega)
      generalize L[r] = x at gr mr
      obtain ⟨hx, y1⟩ := hL.it x mr
      have w1 := st.new y1
      refine ⟨a3, _, _, _, rfl, rfl, SqL.of ((d a3 z1 z2).trans e3), atI_nat (get_map _ gr), q H' x.1 x.2 ⟨st9, fun b o n1 n2 e => (d b n1 n2).trans (hL.sm _ _ e)⟩ y1 ?_ ((d _ w1.1 w1.2).trans hx)⟩
      rw [← hm]
      exact List.mem_map.mpr ⟨x, mr, rfl⟩
    exact fin _ _ a1 L8 rfl rfl upd_same n3.1 n3.2 d9
end
end K51
namespace K51
open PySem PySem.Spec PyProof.Rows L2 TR QR
open GxR (TabB TabG Tabbed)
open PySem.W (Datum Tup)
abbrev sLT : Stmt := topS 21
abbrev nLT : List Str := ["rules", "path", "best", "found", "prefix", "label"]
theorem scLT : FnScope nLT ["rules", "path"] (defScope sLT) := ⟨rfl, rfl, rfl, by decide +kernel, rfl, by decide +kernel, by decide +kernel⟩
def okR (r : Rule) : Prop := r.pre ∈ preL ∧ (r.lv, r.ms) ∈ labelL
def Fresh (H0 : Hp) (x : RA × Rule) : Prop := H0 x.1.t = none ∧ H0 x.1.pa = none ∧ H0 x.1.la = none ∧ H0 x.1.ma = none
theorem RuleAt.dr {H0 H H' : Hp} {p c : Addr} {x : RA × Rule} (st : StateAt H0 p c) (f : Fresh H0 x) (h : RuleAt H x) (ou : ∀ b o, b ≠ p → b ≠ c → H b = some o → H' b = some o) : RuleAt H' x :=
  ⟨ou _ _ (st.new f.1).1 (st.new f.1).2 h.t, ou _ _ (st.new f.2.1).1 (st.new f.2.1).2 h.p, ou _ _ (st.new f.2.2.1).1 (st.new f.2.2.1).2 h.l.1, ou _ _ (st.new f.2.2.2).1 (st.new f.2.2.2).2 h.l.2⟩
structure RulesN (H0 H : Hp) (r : Addr) (R : List (RA × Rule)) : Prop where
  at_ : RulesAt H r R
  nr : H0 r = none
  fr : ∀ x ∈ R, Fresh H0 x ∧ okR x.2
theorem RulesN.dr {H0 H H' : Hp} {p c r : Addr} {R : List (RA × Rule)} (st : StateAt H0 p c) (h : RulesN H0 H r R) (ou : ∀ b o, b ≠ p → b ≠ c → H b = some o → H' b = some o) : RulesN H0 H' r R :=
  ⟨⟨ou _ _ (st.new h.nr).1 (st.new h.nr).2 h.at_.li, fun x hx => (h.at_.it x hx).dr st (h.fr x hx).1 ou⟩, h.nr, h.fr⟩
theorem RulesN.same {H0 H H' : Hp} {r : Addr} {R : List (RA × Rule)} (h : RulesN H0 H r R) (s : Same H H') : RulesN H0 H' r R := ⟨h.at_.same s, h.nr, h.fr⟩
section
variable {P : Program} {w : World} {K : PySem.W.Frag} {mg : Str → Option Value} {base : Heap}
def spLR : Sp := fun vs H Q _ => ∃ (p c : Addr) (n : Nat), vs = [.ref p, .int (n : Int)] ∧ n ≤ 100 ∧ StateAt H p c ∧ ∀ H' r R, Dr p c H H' → R.length ≤ n → RulesN H H' r R → Q (.ref r) H'
theorem ok_LR {f fLL fT : Addr} {fd fdLL fdT : FuncData} (F : Fun K "_law_rules" "_law_rules" sLR f fd)
    (GLL : FnOk P w K mg base CX0 2 fLL fdLL ["state"] spLL) (bLL : Binds K fdLL ["state"] []) (gLL : mg "_law_label" = some (.ref fLL)) (kLL : PySem.W.keepIn K (.ref fLL) = true)
    (GT : FnOk P w K mg base CX0 1 fT fdT ["state", "most"] spTake) (bT : Binds K fdT ["state", "most"] []) (gT : mg "_law_take" = some (.ref fT)) (kT : PySem.W.keepIn K (.ref fT) = true)
    (m_range : mg "range" = none) : FnOk P w K mg base CX0 3 f fd ["state", "count"] spLR := by
  refine F.ok scLR (fun vs H Q E h => ?_) (fun cdv A outer s H vs Q E hr h => ?_)
  · obtain ⟨p, c, n, rfl, _⟩ := h
    rfl
  · obtain ⟨p, c, n, rfl, hn, st, q⟩ := h
    have hu := hr.units
    have hu1 := hu_of hr
    have hr1 : Room 1 _ := hr.mono (by decide)
    have hr2 : Room 2 _ := hr.mono (by decide)
    have zl := zl
    refine ⟨_, (pss_cons (ps_set (i := 2) scLR.nd rfl (.inr rfl) (pe_lst (pa_cons (pe_tup (pa_nil)) (pa_cons (pe_tup (pa_cons (pe_str) pa_nil)) (pa_cons (pe_tup (pa_cons (pe_str) (pa_cons (pe_str) pa_nil))) (pa_cons (pe_tup (pa_cons (pe_str) pa_nil)) (pa_cons (pe_tup (pa_cons (pe_str) (pa_cons (pe_str) pa_nil))) (pa_cons (pe_tup (pa_cons (pe_str) pa_nil)) pa_nil))))))))
      (pss_one (ps_ret (pe_lc (own := [("k", 3)]) (g := gName 3) (tt := tYes) (te := tTup (tCons (tOp (rIxL K) (tVar 2) (tCall spTake [] E0 (tCons (tVar 0) (tCons (tC (.int 6)) tNil)))) (tCons (tCall spLL [] E0 (tCons (tVar 0) tNil)) tNil))) rfl scLR.nd (pi_range1 (by rfl) m_range (pa_cons (pe_call GT hr1 (by rfl) gT kT bT .nil pass0 (pa_cons (pv 0) (pa_cons (pe_op op_add (pv 1) (pe_int)) pa_nil))) pa_nil)) (blkOk_by (N := nLR) (sc := defScope sLR) (by decide +kernel)) (fun _ _ _ _ _ => by exact pg_name (i := 3) scLR.nd rfl (.inl rfl)) (fun _ _ _ _ _ => pts_nil) (fun _ _ _ _ _ => by exact pe_tup (pa_cons (pe_ix ix_list (pv 2) (pe_call GT hr1 (by rfl) gT kT bT .nil pass0 (pa_cons (pv 0) (pa_cons (pe_int) pa_nil))) (fun _ _ => rfl)) (pa_cons (pe_call GLL hr2 (by rfl) gLL kLL bLL .nil pass0 (pa_cons (pv 0) pa_nil)) pa_nil))))))), ?_⟩
    have zl2 := zl
    simp only [sA, sB, sC, sS, sK]
    have L0 : PathsAt H H [] := PathsAt.nil
    refine ⟨by show 0 ≤ sizeLine; omega, fun l0 k0 => ?_⟩
    have L1 := PathsAt.step [] L0 k0
    refine ⟨by show 1 ≤ sizeLine; omega, fun l1 k1 => ?_⟩
    have L2 := PathsAt.step [[97]] L1 k1
    refine ⟨by show 2 ≤ sizeLine; omega, fun l2 k2 => ?_⟩
    have L3 := PathsAt.step [[97], [98]] L2 k2
    refine ⟨by show 1 ≤ sizeLine; omega, fun l3 k3 => ?_⟩
    have L4 := PathsAt.step [[115]] L3 k3
    refine ⟨by show 2 ≤ sizeLine; omega, fun l4 k4 => ?_⟩
    have L5 := PathsAt.step [[115], [107]] L4 k4
    refine ⟨by show 1 ≤ sizeLine; omega, fun l5 k5 => ?_⟩
    have L6 := PathsAt.step [[98]] L5 k5
    refine ⟨by show 6 ≤ sizeLine; omega, fun a1 na1 => ?_⟩
    have L8 := L6.same (same_new (o := .lst [.ref l0, .ref l1, .ref l2, .ref l3, .ref l4, .ref l5]) na1)
    have n10 := same_none L6.sm na1
    have fin : ∀ (L : List (Addr × Path)) (G : Hp), PathsAt H G L → L.length = 6 → L.map (·.2) = preL → G a1 = some (.lst (L.map fun x => V.ref x.1)) →
        tRet (tLc (iRng1 (tCons (tCall spTake [] E0 (tCons (tVar 0) (tCons (tOp (rI0 fun i j => V.int (i + j)) (tVar 1) (tC (V.int 1))) tNil))) tNil)) (gName 3) tYes (tTup (tCons (tOp (rIxL K) (tVar 2) (tCall spTake [] E0 (tCons (tVar 0) (tCons (tC (V.int 6)) tNil)))) (tCons (tCall spLL [] E0 (tCons (tVar 0) tNil)) tNil))) [3]) { nx := fun x H' => Q V.non H', rt := Q } [some (.ref p), some (.int (n : Int)), some (.ref a1), none] G := by
      intro L G hL h6 hm e1
      have stG := st.same hL.sm
      have n1p := st.new n10
      refine ⟨_, rfl, _, rfl, _, _, rfl, rfl, p, c, n + 1, rfl, by omega, stG, fun H2 m _ lm st2 d2 => ⟨_, rfl, by omega, by omega, fun D nD => ?_⟩⟩
      have lm := lm (by omega)
      have dr2 : Dr p c H H2 := ⟨st2, fun b o n1 n2 e => (d2 b n1 n2).trans (hL.sm _ _ e)⟩
      have nD0 := dr2.none nD
      have nDp := st.new nD0
      refine lc_range (lo := 0) (n := ((m : Int)).toNat) (fun k H3 => Dr p c H H3 ∧ (∀ b o, b ≠ p → b ≠ c → G b = some o → H3 b = some o) ∧ ∃ R : List (RA × Rule), R.length = k ∧ RulesN H H3 D R)
        ⟨dr2.same (same_new nD), fun b o n1 n2 e => same_new nD _ _ ((d2 b n1 n2).trans e), [], rfl, ⟨upd_same, fun x hx => nomatch hx⟩, nD0, fun x hx => nomatch hx⟩ ?_ ?_
      · rintro k H3 hk ⟨dr3, g3, R, lR, hR⟩
        refine ⟨rfl, ?_⟩
        refine ⟨_, rfl, _, rfl, p, c, 6, rfl, by decide, dr3.st, fun H4 r _ lr st4 d4 => ?_⟩
        have lr := lr (by decide)
        have gr := List.getElem?_eq_getElem (l := L) (i := r) (by omega)
        have mr := List.getElem_mem (l := L) (n := r) (by omega)
        generalize L[r] = x at gr mr
        obtain ⟨hx, y1⟩ := hL.it x mr
        have w1 := st.new y1
        have g4 : ∀ b o, b ≠ p → b ≠ c → G b = some o → H4 b = some o := fun b o n1 n2 e => (d4 b n1 n2).trans (g3 b o n1 n2 e)
        refine ⟨a1, _, _, _, rfl, rfl, SqL.of (g4 _ _ n1p.1 n1p.2 e1), atI_nat (get_map _ gr), _, rfl, p, c, rfl, st4, fun H5 la ma l d5 nla nma ml hla => ⟨by show 2 ≤ sizeLine; omega, fun t nt => ?_⟩⟩
        have dr4 := dr3.drawn st4 d4
        have dr5 := dr4.trans d5
        have nt0 := dr5.none nt
        have hR5 := (hR.dr st fun b o n1 n2 e => (d4 b n1 n2).trans e).dr st d5.ou
        have hR6 := hR5.same (same_new (o := .tup [.ref x.1, .ref la]) nt)
        have tD : t ≠ D := fun z => by
          have e := hR5.at_.li
          rw [← z, nt] at e
          cases e
        have g6 : ∀ b o, b ≠ p → b ≠ c → G b = some o → (upd H5 t (.tup [.ref x.1, .ref la])) b = some o := fun b o n1 n2 e => same_new nt _ _ (d5.ou b o n1 n2 (g4 b o n1 n2 e))
        have nla0 := dr4.none nla
        have nma0 := dr4.none nma
        have new : RuleAt (upd H5 t (.tup [.ref x.1, .ref la])) (⟨t, x.1, la, ma⟩, ⟨x.2, l.1, l.2⟩) := ⟨upd_same, g6 _ _ w1.1 w1.2 hx, hla.same (same_new nt)⟩
        have lk : k ≤ 200 := by omega
        refine ⟨_, hR6.at_.li, by rw [List.length_map, lR]; omega, ⟨(dr5.same (same_new nt)).st.upd nDp, fun b o n1 n2 e => ?_⟩, fun b o n1 n2 e => ?_, R ++ [(⟨t, x.1, la, ma⟩, ⟨x.2, l.1, l.2⟩)], by rw [List.length_append, lR]; rfl, ⟨?_, fun y hy => ?_⟩, nD0, fun y hy => ?_⟩
        · rw [upd_ne (ne_of_none e nD0)]
          exact (dr5.same (same_new nt)).ou b o n1 n2 e
        · have e2 := g6 b o n1 n2 e
          have bD : b ≠ D := fun z => by
            have e3 := (d2 b n1 n2).trans e
            rw [z, nD] at e3
            cases e3
          rw [upd_ne bD]
          exact e2
        · rw [upd_same, List.map_append]
          rfl
        · have keep : ∀ b o, (∀ xs, o ≠ HO.lst xs) → (upd H5 t (.tup [.ref x.1, .ref la])) b = some o → (upd (upd H5 t (.tup [.ref x.1, .ref la])) D (.lst ((R.map fun x => V.ref x.1.t) ++ [V.ref t]))) b = some o := fun b o no e => by
            have bD : b ≠ D := fun z => by
              rw [z, hR6.at_.li] at e
              exact no _ (Option.some.inj e).symm
            rw [upd_ne bD]
            exact e
          have k2 : ∀ y, RuleAt (upd H5 t (.tup [.ref x.1, .ref la])) y → RuleAt (upd (upd H5 t (.tup [.ref x.1, .ref la])) D (.lst ((R.map fun x => V.ref x.1.t) ++ [V.ref t]))) y := fun y h =>
            ⟨keep _ _ (fun _ z => nomatch z) h.t, keep _ _ (fun _ z => nomatch z) h.p, keep _ _ (fun _ z => nomatch z) h.l.1, keep _ _ (fun _ z => nomatch z) h.l.2⟩
          rcases List.mem_append.mp hy with hy | hy
          · exact k2 y (hR6.at_.it y hy)
          · rw [List.mem_singleton.mp hy]
            exact k2 _ new
        · rcases List.mem_append.mp hy with hy | hy
          · exact hR6.fr y hy
          · rw [List.mem_singleton.mp hy]
            refine ⟨⟨nt0, y1, nla0, nma0⟩, ?_, ml⟩
            show x.2 ∈ preL
            rw [← hm]
            exact List.mem_map.mpr ⟨x, mr, rfl⟩
      · rintro H3 ⟨dr3, g3, R, lR, hR⟩
        exact q H3 D R dr3 (by omega) hR
    exact fin _ _ L8 rfl rfl upd_same
end
end K51
namespace K51
open PySem PySem.Spec PyProof.Rows L2 TR QR
open GxR (TabB TabG Tabbed)
open PySem.W (Datum Tup)
abbrev sLX : Stmt := topS 23
abbrev nLX : List Str := ["state", "pieces", "k"]
theorem scLX : FnScope nLX ["state"] (defScope sLX) := ⟨rfl, rfl, rfl, by decide +kernel, rfl, by decide +kernel, by decide +kernel⟩
abbrev sPD : Stmt := topS 24
abbrev nPD : List Str := ["text", "parts", "sign", "part", "wrong"]
theorem scPD : FnScope nPD ["text"] (defScope sPD) := ⟨rfl, rfl, rfl, by decide +kernel, rfl, by decide +kernel, by decide +kernel⟩
def bestI (R : List (RA × Rule)) : Option Nat → Int
  | none => -1
  | some b => (lenAt R b : Int)
theorem best_iff {R : List (RA × Rule)} {o : Option Nat} {n : Nat} : bestI R o ≤ (n : Int) ↔ (o = none ∨ ∃ b, o = some b ∧ lenAt R b ≤ n) := by
  cases o with
  | none => exact ⟨fun _ => .inl rfl, fun _ => by show (-1 : Int) ≤ n; omega⟩
  | some b =>
    constructor
    · intro h
      exact .inr ⟨b, rfl, Int.ofNat_le.mp h⟩
    · rintro (h | ⟨b', h, h2⟩)
      · cases h
      · cases h
        exact Int.ofNat_le.mpr h2
theorem cut_snoc_c (c : Nat) : ∀ l, cutAt c (l ++ [c]) = cutAt c l ++ [[]]
  | [] => by simp [cutAt]
  | x :: l => by
    have ih := cut_snoc_c c l
    show cutAt c (x :: (l ++ [c])) = _
    by_cases h : x = c
    · rw [cutAt, if_pos h, ih, cutAt, if_pos h]
      rfl
    · rw [cutAt, if_neg h, ih, cutAt, if_neg h]
      cases e : cutAt c l with
      | nil => exact absurd e (cut_ne c l)
      | cons p r => rfl
theorem cut_snoc {c d : Nat} (hd : d ≠ c) : ∀ l, ∃ P q, cutAt c l = P ++ [q] ∧ cutAt c (l ++ [d]) = P ++ [q ++ [d]]
  | [] => ⟨[], [], rfl, by simp [cutAt, hd]⟩
  | x :: l => by
    obtain ⟨P, q, h1, h2⟩ := cut_snoc hd l
    show ∃ P q, _ ∧ cutAt c (x :: (l ++ [d])) = _
    by_cases h : x = c
    · refine ⟨[] :: P, q, ?_, ?_⟩
      · rw [cutAt, if_pos h, h1]
        rfl
      · rw [cutAt, if_pos h, h2]
        rfl
    · cases P with
      | nil =>
        refine ⟨[], x :: q, ?_, ?_⟩
        · rw [cutAt, if_neg h, h1]
          rfl
        · rw [cutAt, if_neg h, h2]
          rfl
      | cons p r =>
        refine ⟨(x :: p) :: r, q, ?_, ?_⟩
        · rw [cutAt, if_neg h, h1]
          rfl
        · rw [cutAt, if_neg h, h2]
          rfl
section
variable {P : Program} {w : World} {K : PySem.W.Frag} {mg : Str → Option Value} {base : Heap}
def spLT : Sp := fun vs H Q _ => ∃ (r a : Addr) (R : List (RA × Rule)) (ps : Path), vs = [.ref r, .ref a] ∧ RulesAt H r R ∧ R.length ≤ 1000 ∧ H a = some (.tup (strV ps)) ∧ ∀ H' D m, Same H H' → LabAt H' D m 0 [] → Q (labV R D (bst R ps R.length)) H'
theorem ok_LT {f : Addr} {fd : FuncData} (F : Fun K "_law_label_at" "_law_label_at" sLT f fd)
    (m_len : mg "len" = none) : FnOk P w K mg base CX0 1 f fd ["rules", "path"] spLT := by
  refine F.ok scLT (fun vs H Q E h => ?_) (fun cdv A outer s H vs Q E hr h => ?_)
  · obtain ⟨r, a, R, ps, rfl, _⟩ := h
    rfl
  · obtain ⟨r, a, R, ps, rfl, hR, hn, ha, q⟩ := h
    have hu := hr.units
    have hu1 := hu_of hr
    have zl := zl
    refine ⟨_, (pss_cons (ps_set (i := 2) scLT.nd rfl (.inl rfl) (pe_un un_neg (pe_int)))
      (pss_cons (ps_set (i := 3) scLT.nd rfl (.inl rfl) (pe_tup (pa_cons (pe_str) (pa_cons (pe_int) (pa_cons (pe_tup (pa_nil)) pa_nil)))))
      (pss_cons (ps_for PassesOwn.never rfl (pi_list (pv 0)) (pg_tup (by rfl) (pgs_cons (pg_name (i := 4) scLT.nd rfl (.inl rfl)) (pgs_cons (pg_name (i := 5) scLT.nd rfl (.inl rfl)) pgs_nil)))
      (pss_one (ps_if (PW.pt (pw_and (pt_cmpR (op_eqP hu) (pe_slice sl_tupA (pv 1) (po_none) (po_some (pe_callB call_len_seq (by rfl) m_len PySem.boot_len (pa_cons (pv 4) pa_nil)))) (pv 4) (nomark _)) (pw_and1 (pt_cmpR op_ge (pe_callB call_len_seq (by rfl) m_len PySem.boot_len (pa_cons (pv 4) pa_nil)) (pv 2) (nomark _)))))
      (pss_cons (ps_set (i := 2) scLT.nd rfl (.inl rfl) (pe_callB call_len_seq (by rfl) m_len PySem.boot_len (pa_cons (pv 4) pa_nil)))
      (pss_one (ps_set (i := 3) scLT.nd rfl (.inl rfl) (pv 5)))) pss_nil)))
      (pss_one (ps_ret (pv 3)))))), ?_⟩
    have zl2 := zl
    refine ⟨_, rfl, by show 0 ≤ sizeLine; omega, fun m nm => ⟨by show 3 ≤ sizeLine; omega, fun D nD => ?_⟩⟩
    have s1 : Same H (upd (upd H m (.tup [])) D (.tup [.str "label", .int 0, .ref m])) := same_trans (same_new nm) (same_new nD)
    have hL : LabAt (upd (upd H m (.tup [])) D (.tup [.str "label", .int 0, .ref m])) D m 0 [] := ⟨upd_same, same_new nD _ _ upd_same⟩
    have hR1 := hR.same s1
    have ha1 := s1 _ _ ha
    clear nm nD
    generalize upd (upd H m (.tup [])) D (.tup [.str "label", .int 0, .ref m]) = H1 at s1 hL hR1 ha1
    refine ⟨_, rfl, r, rfl, ⟨_, SqL.of hR1.li⟩, for_list (xs := R.map fun x => V.ref x.1.t) (fun i σ H' => ∃ (y4 y5 : Option V), σ = [some (.ref r), some (.ref a), some (.int (bestI R (bst R ps i))), some (labV R D (bst R ps i)), y4, y5] ∧ Same H1 H') ⟨none, none, rfl, same_refl⟩ ?_ ?_ ?_⟩
    · rintro i σ H' _ ⟨_, _, _, s2⟩
      exact SqL.of (s2 _ _ hR1.li)
    · rintro i v σ H2 hv ⟨y4, y5, rfl, s2⟩
      obtain ⟨x, gx, rfl⟩ := map_get hv
      have hx := (hR1.it x (List.mem_of_getElem? gx)).same s2
      refine ⟨x.1.t, _, rfl, SqT.of hx.t, rfl, _, _, rfl, _, _, rfl, rfl, ?_⟩
      dsimp only [tNext, tSeq, tIfS, tAsg, gName, tC]
      refine and_dec (p := begB x.2.pre ps = true) (q := bst R ps i = none ∨ ∃ b, bst R ps i = some b ∧ lenAt R b ≤ x.2.pre.length) (fun R' k => ⟨_, rfl, _, rfl, x.1.pa, _, rfl, .inr (SqT.of hx.p), _, rfl, ?_⟩)
        (fun _ H3 s3 R' k => ⟨_, rfl, x.1.pa, _, rfl, .inr (SqT.of (hx.same s3).p), _, rfl, _, _, rfl, rfl, _, rfl, to_dec ?_ (k _ same_refl)⟩) fun H3 s3 => ite2 (fun h => ?_) (fun h => ?_)
      · rw [strV_len]
        refine cut_tup (s2 _ _ ha1) fun H3 r3 s3 e3 => ?_
        refine ⟨_, rfl, eq_dat (dp_path (SqT.of e3)) (dp_path (SqT.of (hx.same s3).p)) (by decide) ⟨_, rfl, to_dec ?_ (k _ s3)⟩⟩
        unfold begB
        rw [Bool.decide_eq_true]
        exact decide_eq_decide.mpr sg_inj
      · rw [strV_len]
        exact decide_eq_decide.mpr best_iff
      · have h := of_decide_eq_true h
        refine ⟨_, rfl, x.1.pa, _, rfl, .inr (SqT.of (hx.same s3).p), _, rfl, some (.ref x.1.pa), some (.ref x.1.la), ?_, same_trans s2 s3⟩
        rw [bst_step gx, if_pos h, strV_len]
        have e1 : bestI R (some i) = (x.2.pre.length : Int) := congrArg Int.ofNat (len_at gx)
        have e2 : labV R D (some i) = .ref x.1.la := by
          show ((R[i]?).map fun x => V.ref x.1.la).getD .non = _
          rw [gx]
          rfl
        rw [e1, e2]
        rfl
      · have h : ¬ _ := fun z => h (decide_eq_true z)
        refine ⟨some (.ref x.1.pa), some (.ref x.1.la), ?_, same_trans s2 s3⟩
        rw [bst_step gx, if_neg h]
        rfl
    · rintro σ H' ⟨y4, y5, rfl, s2⟩
      rw [List.length_map]
      exact ⟨_, rfl, q _ D m (same_trans s1 s2) (hL.same s2)⟩
def spLX : Sp := fun vs H Q _ => ∃ (p c : Addr), vs = [.ref p] ∧ StateAt H p c ∧ ∀ H' x, Dr p c H H' → x.length ≤ 1000 → Q (.str x) H'
def shortV (n : Nat) : V → Bool
  | .str s => decide (s.length ≤ n)
  | _ => false
theorem short_v {n : Nat} {v : V} (h : shortV n v = true) : ∃ s, v = .str s ∧ s.length ≤ n := by
  cases v <;> first | exact ⟨_, rfl, of_decide_eq_true h⟩ | cases h
abbrev piecesV : List V := [.str (Str.ofString "a"), .str (Str.ofString "b7"), .str (Str.ofString "abcdefgh"), .str (Str.ofString "abcdefghi"), .str (Str.ofString ""), .str (Str.ofString "A"), .str (Str.ofString "/"), .str (Str.ofString "//"), .str (Str.ofString "a b"), .str (Str.ofString "0"), .str (Str.ofString "z")]
theorem pieces_short : ∀ v ∈ piecesV, shortV 9 v = true := by
  have h : piecesV.all (shortV 9) = true := by decide +kernel
  exact fun v hv => List.all_eq_true.mp h v hv
theorem two_short : ∀ v ∈ ([.str "", .str "/"] : List V), shortV 1 v = true := by
  have h : ([.str "", .str "/"] : List V).all (shortV 1) = true := by decide +kernel
  exact fun v hv => List.all_eq_true.mp h v hv
theorem sum10 : ∀ {ys : List Str}, (∀ y ∈ ys, y.length ≤ 10) → (ys.map (·.length)).sum ≤ 10 * ys.length ∧ ((ys.map tl).flatten).length ≤ 10 * ys.length
  | [], _ => ⟨Nat.le_refl _, Nat.le_refl _⟩
  | y :: r, h => by
    have a := h y List.mem_cons_self
    obtain ⟨b1, b2⟩ := sum10 (ys := r) fun x hx => h x (List.mem_cons_of_mem _ hx)
    have e := len_tl y
    rw [List.map_cons, List.sum_cons, List.map_cons, List.flatten_cons, List.length_append, List.length_cons]
    omega
theorem ok_LX {f fT : Addr} {fd fdT : FuncData} (F : Fun K "_law_text" "_law_text" sLX f fd)
    (GT : FnOk P w K mg base CX0 1 fT fdT ["state", "most"] spTake) (bT : Binds K fdT ["state", "most"] []) (gT : mg "_law_take" = some (.ref fT)) (kT : PySem.W.keepIn K (.ref fT) = true)
    (m_range : mg "range" = none) : FnOk P w K mg base CX0 2 f fd ["state"] spLX := by
  refine F.ok scLX (fun vs H Q E h => ?_) (fun cdv A outer s H vs Q E hr h => ?_)
  · obtain ⟨p, c, rfl, _⟩ := h
    rfl
  · obtain ⟨p, c, rfl, st, q⟩ := h
    have hu := hr.units
    have hu1 := hu_of hr
    have hr1 : Room 1 _ := hr.mono (by decide)
    have zl := zl
    refine ⟨_, (pss_cons (ps_set (i := 1) scLX.nd rfl (.inr rfl) (pe_lst (pa_cons (pe_str) (pa_cons (pe_str) (pa_cons (pe_str) (pa_cons (pe_str) (pa_cons (pe_str) (pa_cons (pe_str) (pa_cons (pe_str) (pa_cons (pe_str) (pa_cons (pe_str) (pa_cons (pe_str) (pa_cons (pe_str) pa_nil)))))))))))))
      (pss_one (ps_ret (pe_join (pe_str) (pe_lc (own := [("k", 2)]) (g := gName 2) (tt := tYes) (te := tOp (fun x y H Q => ∃ i j, x = .str i ∧ y = .str j ∧ i.length + j.length ≤ sizeLine ∧ Q (.str (i ++ j)) H) (tOp (rIxL K) (tVar 1) (tCall spTake [] E0 (tCons (tVar 0) (tCons (tC (.int 11)) tNil)))) (tOp (rIxL K) (tLst (tCons (tC (.str "")) (tCons (tC (.str "/")) tNil))) (tCall spTake [] E0 (tCons (tVar 0) (tCons (tC (.int 2)) tNil))))) rfl scLX.nd (pi_range1 (by rfl) m_range (pa_cons (pe_call GT hr1 (by rfl) gT kT bT .nil pass0 (pa_cons (pv 0) (pa_cons (pe_int) pa_nil))) pa_nil)) (blkOk_by (N := nLX) (sc := defScope sLX) (by decide +kernel)) (fun _ _ _ _ _ => by exact pg_name (i := 2) scLX.nd rfl (.inl rfl)) (fun _ _ _ _ _ => pts_nil) (fun _ _ _ _ _ => by exact pe_op op_add_str (pe_ix ix_list (pv 1) (pe_call GT hr1 (by rfl) gT kT bT .nil pass0 (pa_cons (pv 0) (pa_cons (pe_int) pa_nil))) (fun _ _ => rfl)) (pe_ix ix_list (pe_lst (pa_cons (pe_str) (pa_cons (pe_str) pa_nil))) (pe_call GT hr1 (by rfl) gT kT bT .nil pass0 (pa_cons (pv 0) (pa_cons (pe_int) pa_nil))) (fun _ _ => rfl)))))))), ?_⟩
    have zl2 := zl
    refine ⟨by show 11 ≤ sizeLine; omega, fun a1 na1 => ?_⟩
    have st1 := st.same (same_new (o := .lst piecesV) na1)
    have na1p := st.new na1
    have dr1 : Dr p c H (upd H a1 (.lst piecesV)) := (Dr.refl st).same (same_new na1)
    have e1 : (upd H a1 (.lst piecesV)) a1 = some (.lst piecesV) := upd_same
    refine ⟨⟨_, rfl⟩, _, rfl, p, c, 6, rfl, by decide, st1, fun H2 m _ lm st2 d2 => ⟨_, rfl, by omega, by omega, fun D nD => ?_⟩⟩
    have lm := lm (by decide)
    have dr2 := dr1.drawn st2 d2
    have e2 := (d2 a1 na1p.1 na1p.2).trans e1
    have nD0 := dr2.none nD
    have nDp := st.new nD0
    have nDa : D ≠ a1 := fun z => by rw [z, e2] at nD; cases nD
    refine lc_range (lo := 0) (n := ((m : Int)).toNat) (fun k H3 => Dr p c H H3 ∧ H3 a1 = some (.lst piecesV) ∧ ∃ ys : List Str, ys.length = k ∧ (∀ y ∈ ys, y.length ≤ 10) ∧ H3 D = some (.lst (ys.map V.str)))
      ⟨dr2.same (same_new nD), same_new nD _ _ e2, [], rfl, (fun y hy => nomatch hy), upd_same⟩ ?_ ?_
    · rintro k H3 hk ⟨dr3, e3, ys, ly, sy, eD⟩
      refine ⟨rfl, ?_⟩
      refine ⟨_, rfl, _, rfl, p, c, 11, rfl, by decide, dr3.st, fun H4 r _ lr st4 d4 => ?_⟩
      have lr := lr (by decide)
      have gr := List.getElem?_eq_getElem (l := piecesV) (i := r) lr
      have mr := List.getElem_mem (l := piecesV) (n := r) lr
      generalize piecesV[r] = v at gr mr
      obtain ⟨z1, rfl, lz1⟩ := short_v (pieces_short v mr)
      have e4 := (d4 a1 na1p.1 na1p.2).trans e3
      have eD4 := (d4 D nDp.1 nDp.2).trans eD
      refine ⟨a1, _, _, _, rfl, rfl, SqL.of e4, atI_nat gr, by show 2 ≤ sizeLine; omega, fun b nb => ?_⟩
      have st5 := st4.same (same_new (o := .lst [.str "", .str "/"]) nb)
      have nbp := st4.new nb
      refine ⟨_, rfl, p, c, 2, rfl, by decide, st5, fun H6 r2 _ lr2 st6 d6 => ?_⟩
      have lr2 := lr2 (by decide)
      have gr2 := List.getElem?_eq_getElem (l := ([.str "", .str "/"] : List V)) (i := r2) lr2
      have mr2 := List.getElem_mem (l := ([.str "", .str "/"] : List V)) (n := r2) lr2
      generalize ([.str "", .str "/"] : List V)[r2] = v2 at gr2 mr2
      obtain ⟨z2, rfl, lz2⟩ := short_v (two_short v2 mr2)
      have e6 : H6 b = some (.lst [.str "", .str "/"]) := (d6 b nbp.1 nbp.2).trans upd_same
      have eD6 := (d6 D nDp.1 nDp.2).trans (same_new nb _ _ eD4)
      have dr6 := ((dr3.drawn st4 d4).same (same_new nb)).drawn st6 d6
      refine ⟨b, _, _, _, rfl, rfl, SqL.of e6, atI_nat gr2, _, _, rfl, rfl, by omega, _, eD6, by rw [List.length_map, ly]; omega, ⟨dr6.st.upd nDp, fun b' o n1 n2 e => ?_⟩, ?_, ys ++ [z1 ++ z2], by rw [List.length_append, ly]; rfl, fun y hy => ?_, ?_⟩
      · rw [upd_ne (ne_of_none e nD0)]
        exact dr6.ou b' o n1 n2 e
      · rw [upd_ne (Ne.symm nDa)]
        exact (d6 a1 na1p.1 na1p.2).trans (same_new nb _ _ e4)
      · rcases List.mem_append.mp hy with hy | hy
        · exact sy y hy
        · rw [List.mem_singleton.mp hy, len_tl, tl_app, List.length_append]
          have a1 := len_tl z1
          have a2 := len_tl z2
          omega
      · rw [upd_same, List.map_append]
        rfl
    · rintro H3 ⟨dr3, e3, ys, ly, sy, eD⟩
      obtain ⟨f1, f2⟩ := sum10 sy
      refine ⟨_, D, ys, rfl, rfl, .inl (SqL.of eD), by rw [show (Str.ofString "").length = 0 by decide +kernel]; omega, q H3 _ dr3 ?_⟩
      rw [show Str.ofString "" = Str.empty by decide +kernel, txt_join0, len_tl]
      show ((ys.map tl).flatten).length ≤ 1000
      omega
end
end K51
namespace K51
open PySem PySem.Spec PyProof.Rows L2 TR QR
open GxR (TabB TabG Tabbed)
open PySem.W (Datum Tup)
theorem atI_end {α : Type} {xs : List α} {v : α} (h : xs[xs.length - 1]? = some v) : atI xs (-1) = some v := by
  have l := (List.getElem?_eq_some_iff.mp h).1
  have e : ixN xs.length (-1) = some (xs.length - 1) := by
    unfold ixN
    rw [if_neg (by decide), if_pos (by omega)]
    congr 1
    omega
  unfold atI
  rw [e]
  exact h
theorem ixN_end {n : Nat} (h : 0 < n) : ixN n (-1) = some (n - 1) := by
  unfold ixN
  rw [if_neg (by decide), if_pos (by omega)]
  congr 1
  omega
theorem chr_sl {c : Nat} : V.str ⟨#[c]⟩ = V.str (Str.ofString "/") ↔ c = 47 := by
  rw [slash_str]
  constructor
  · intro h
    injection h with h
    injection h with h
    simpa using h
  · intro h
    rw [h]
theorem let_str : tl (Str.ofString "abcdefghijklmnopqrstuvwxyz0123456789") = letL := by decide +kernel
section
variable {P : Program} {w : World} {K : PySem.W.Frag} {mg : Str → Option Value} {base : Heap}
def spPD : Sp := fun vs H Q _ => ∃ (x : Str), vs = [.str x] ∧ x.length ≤ 10000 ∧ ∀ H' v, Same H H' → pathV H' v (parseL (tl x)) → Q v H'
theorem ok_PD {f : Addr} {fd : FuncData} (F : Fun K "_law_parsed" "_law_parsed" sPD f fd)
    (m_len : mg "len" = none) (m_tuple : mg "tuple" = none) : FnOk P w K mg base CX0 1 f fd ["text"] spPD := by
  refine F.ok scPD (fun vs H Q E h => ?_) (fun cdv A outer s H vs Q E hr h => ?_)
  · obtain ⟨x, rfl, _⟩ := h
    rfl
  · obtain ⟨x, rfl, hx, q⟩ := h
    have hu := hr.units
    have hu1 := hu_of hr
    have zl := zl
    refine ⟨_, (pss_cons (ps_set (i := 1) scPD.nd rfl (.inl rfl) (pe_lst (pa_cons (pe_str) pa_nil)))
      (pss_cons (ps_for PassesOwn.never rfl (pi_str (pv 0)) (pg_name (i := 2) scPD.nd rfl (.inl rfl))
      (pss_one (ps_if (pt_cmpR op_eq (pv 2) (pe_str) (nomark _))
      (pss_one (ps_expr (pe_bm PySem.F.plainAttrs_list PySem.F.slot_list_append PySem.F.type_list_append mt_append (pv 1) (pa_cons (pe_str) pa_nil)))) (pss_one (ps_asg (pe_op op_add_str (pe_ix ix_list (pv 1) (pe_un un_neg (pe_int)) (fun _ _ => rfl)) (pv 2)) (pg_sub (pv 1) (pe_un un_neg (pe_int)) set_list))))))
      (pss_cons (ps_if (pt_cmpR op_gt (pe_callB call_len_seq (by rfl) m_len PySem.boot_len (pa_cons (pv 1) pa_nil)) (pe_int) (nomark _))
      (pss_one (ps_ret (pe_non))) pss_nil)
      (pss_cons (ps_for PassesOwn.never rfl (pi_list (pv 1)) (pg_name (i := 3) scPD.nd rfl (.inl rfl))
      (pss_cons (ps_setLc (i := 4) (own := [("sign", 2)]) (g := gName 2) (tt := tTest (tOp (fun x y H Q => ∃ i j, x = .str i ∧ y = .str j ∧ Q (.bl (!(!(Builtin.Str.occurrences j i 0 j.length 1).isEmpty))) H) (tVar 2) (tC (.str "abcdefghijklmnopqrstuvwxyz0123456789")))) (te := tVar 2) rfl scPD.nd rfl rfl (sw_true rfl rfl rfl (by decide +kernel)) (pi_str (pv 3)) (blkOk_by (N := nPD) (sc := defScope sPD) (by decide +kernel)) (fun _ _ _ _ _ => by exact pg_name (i := 2) scPD.nd rfl (.inl rfl)) (fun _ _ _ _ _ => by exact pts_one (pt_cmpR op_notIn_str (pv 2) (pe_str) (by rfl))) (fun _ _ _ _ _ => by exact pv 2))
      (pss_one (ps_if (PW.pt (pw_or (pt_cmpR op_eq (pv 3) (pe_str) (nomark _)) (pw_or (pt_cmpR op_gt (pe_callB call_len_str (by rfl) m_len PySem.boot_len (pa_cons (pv 3) pa_nil)) (pe_int) (nomark _)) (pw_or1 (pt_cmpR op_gt (pe_callB call_len_seq (by rfl) m_len PySem.boot_len (pa_cons (pv 4) pa_nil)) (pe_int) (nomark _))))))
      (pss_one (ps_ret (pe_non))) pss_nil))))
      (pss_one (ps_ret (pe_callTy call_tuple_of (by rfl) m_tuple (by decide +kernel) (pa_cons (pv 1) pa_nil)))))))), ?_⟩
    have zl2 := zl
    refine ⟨by show 1 ≤ sizeLine; omega, fun D nD => ?_⟩
    have e0 : (upd H D (.lst [.str (Str.ofString "")])) D = some (.lst (strV [[]])) := by
      rw [show Str.ofString "" = Sg [] by decide +kernel]
      exact upd_same
    have s0 : Same H (upd H D (.lst [.str (Str.ofString "")])) := same_new nD
    generalize upd H D (.lst [.str (Str.ofString "")]) = H0 at e0 s0
    have lens : ∀ i, (cutAt 47 ((tl x).take i)).length ≤ 10001 := fun i => by
      have := (cut_len 47 ((tl x).take i)).1
      rw [List.length_take] at this
      have := len_tl x
      omega
    refine ⟨_, rfl, x, rfl, for_it (walk_str (z := x)) (fun i σ H' => ∃ (y2 y3 y4 : Option V), σ = [some (.str x), some (.ref D), y2, y3, y4] ∧ Same H H' ∧ H' D = some (.lst (strV (cutAt 47 ((tl x).take i))))) ⟨none, none, none, rfl, s0, e0⟩ (fun _ _ _ _ _ => trivial) ?_ ?_⟩
    · rintro i v σ H1 H' hi ⟨y2, y3, y4, rfl, s1, eD⟩ ⟨rfl, c, hc, rfl⟩
      have hc' : (tl x)[i]? = some c := by rw [Array.getElem?_toList]; exact hc
      have et : (tl x).take (i + 1) = (tl x).take i ++ [c] := by rw [List.take_add_one, hc']; rfl
      have ll := lens i
      dsimp only [tNext, tSeq, tIfS, tAsg, gName, tC]
      refine ⟨_, rfl, rfl, _, rfl, ite2 (fun h => ?_) (fun h => ?_)⟩
      · have h : c = 47 := chr_sl.mp (of_decide_eq_true h)
        refine ⟨_, rfl, .inl ⟨rfl, _, SqL.of eD⟩, D, _, _, rfl, rfl, eD, by rw [strV_len]; omega, _, _, _, rfl, fun b o e => ?_, ?_⟩
        · rw [upd_ne (ne_of_none e nD)]
          exact s1 _ _ e
        · rw [upd_same, et, h, cut_snoc_c]
          unfold strV
          rw [List.map_append]
          rw [show Str.ofString "" = Sg [] by decide +kernel]
          rfl
      · have h : ¬ c = 47 := fun z => h (decide_eq_true (chr_sl.mpr z))
        obtain ⟨Pp, qq, h1, h2⟩ := cut_snoc h ((tl x).take i)
        rw [h1] at eD
        have lq : qq.length ≤ 10000 := by
          have := (cut_len 47 ((tl x).take i)).2 qq (by rw [h1]; simp)
          rw [List.length_take] at this
          have := len_tl x
          omega
        have sv : ∀ z, strV (Pp ++ [z]) = strV Pp ++ [V.str (Sg z)] := fun z => by unfold strV; rw [List.map_append]; rfl
        rw [sv] at eD
        have lv : (strV Pp ++ [V.str (Sg qq)]).length = Pp.length + 1 := by rw [List.length_append, strV_len]; rfl
        refine ⟨_, rfl, _, rfl, D, _, -1, V.str (Sg qq), rfl, rfl, SqL.of eD, atI_end ?_, _, rfl, _, _, rfl, rfl, ?_, _, rfl, _, rfl, D, _, -1, Pp.length, rfl, rfl, eD, ?_, _, _, _, rfl, fun b o e => ?_, ?_⟩
        · rw [lv, Nat.add_sub_cancel, List.getElem?_append_right (by rw [strV_len]; exact Nat.le_refl _), strV_len, Nat.sub_self]
          rfl
        · show qq.length + 1 ≤ sizeLine
          omega
        · rw [lv]
          exact ixN_end (Nat.succ_pos _)
        · rw [upd_ne (ne_of_none e nD)]
          exact s1 _ _ e
        · rw [upd_same, et, h2, sv]
          rw [List.set_append_right _ _ (by rw [strV_len]; exact Nat.le_refl _), strV_len, Nat.sub_self]
          rw [show Sg (qq ++ [c]) = Sg qq ++ ⟨#[c]⟩ from (ext_tl (a := Sg qq ++ ⟨#[c]⟩) (b := Sg (qq ++ [c])) (tl_app _ _)).symm]
          rfl
    · rintro σ H1 ⟨y2, y3, y4, rfl, s1, eD⟩
      rw [List.take_of_length_le (by exact Nat.le_refl _)] at eD
      obtain ⟨l1, l2⟩ := cut_len 47 (tl x)
      have lx := len_tl x
      have hq := q
      unfold parseL at hq
      have hne := cut_ne 47 (tl x)
      generalize cutAt 47 (tl x) = ps at eD l1 l2 hq hne
      have no : ∀ H', Same H H' → pathB ps = false → Q .non H' := fun H' s2 h => hq H' .non s2 (by rw [if_neg (by rw [h]; decide)]; rfl)
      dsimp only [tNext, tSeq, tIfS, tAsg, gName, tC]
      refine ⟨_, rfl, D, _, rfl, .inl (SqL.of eD), _, _, rfl, rfl, _, rfl, ite2 (fun h => ?_) (fun h => ?_)⟩
      · have h := of_decide_eq_true h
        rw [strV_len] at h
        refine no _ s1 ?_
        unfold pathB
        rw [decide_eq_false (by omega), Bool.false_and]
      have h4 : ps.length ≤ 4 := by
        have : ¬ (4 : Int) < ((strV ps).length : Int) := fun z => h (decide_eq_true z)
        rw [strV_len] at this
        omega
      have h1 : 1 ≤ ps.length := by
        cases ps with
        | nil => exact absurd rfl hne
        | cons _ _ => exact Nat.succ_pos _
      refine ⟨_, rfl, D, rfl, ⟨_, SqL.of eD⟩, for_list (xs := strV ps) (fun i σ H' => ∃ (y2 y3 y4 : Option V), σ = [some (.str x), some (.ref D), y2, y3, y4] ∧ Same H H' ∧ H' D = some (.lst (strV ps)) ∧ ∀ m l, m < i → ps[m]? = some l → wordB l letL 8 = true) ⟨_, _, _, rfl, s1, eD, fun m l h => by omega⟩ ?_ ?_ ?_⟩
      · rintro i σ H' _ ⟨_, _, _, _, _, e, _⟩
        exact SqL.of e
      · rintro i v σ H2 hv ⟨y2, y3, y4, rfl, s2, e2, hm⟩
        obtain ⟨l, gl, rfl⟩ := map_get hv
        have ll := l2 l (List.mem_of_getElem? gl)
        refine ⟨_, rfl, Sg l, rfl, fun E nE => ?_⟩
        have fl : ∀ k, (((l.take k).filter fun c => !decide (c ∈ letL)).map fun c => V.str ⟨#[c]⟩).length < sizeLine := fun k => by
          rw [List.length_map]
          have := List.length_filter_le (fun c => !decide (c ∈ letL)) (l.take k)
          rw [List.length_take] at this
          omega
        refine lc_it (walk_str (z := Sg l)) (fun k H3 => H3 = upd H2 E (.lst (((l.take k).filter fun c => !decide (c ∈ letL)).map fun c => V.str ⟨#[c]⟩))) rfl (fun _ _ _ _ => trivial) ?_ ?_
        · rintro k y H3 H' hk rfl ⟨rfl, c, hc, rfl⟩
          have hc' : l[k]? = some c := by
            have : (Sg l).cps.toList[k]? = some c := by rw [Array.getElem?_toList]; exact hc
            exact this
          have et : l.take (k + 1) = l.take k ++ [c] := by rw [List.take_add_one, hc']; rfl
          refine ⟨rfl, ?_⟩
          refine ⟨_, rfl, _, _, rfl, rfl, _, rfl, ?_⟩
          rw [StrLaws.found_one]
          have el : (Str.ofString "abcdefghijklmnopqrstuvwxyz0123456789").cps.toList = letL := let_str
          rw [el]
          refine ite2 (fun h => ?_) (fun h => ?_)
          · refine ⟨_, rfl, _, upd_same, fl k, ?_⟩
            rw [upd_upd, et, List.filter_append, List.map_append]
            rw [show List.filter (fun c => !decide (c ∈ letL)) [c] = [c] by rw [List.filter_cons, if_pos h]; rfl]
            rfl
          · show upd H2 E _ = upd H2 E _
            rw [et, List.filter_append, show List.filter (fun c => !decide (c ∈ letL)) [c] = [] by rw [List.filter_cons, if_neg h]; rfl, List.append_nil]
        · rintro H3 rfl
          have el : (Sg l).cps.size = l.length := rfl
          rw [el, List.take_length]
          have nED : D ≠ E := ne_of_none e2 nE
          have s3 : Same H2 (upd H2 E (.lst ((l.filter fun c => !decide (c ∈ letL)).map fun c => V.str ⟨#[c]⟩))) := same_new nE
          have eE : (upd H2 E (.lst ((l.filter fun c => !decide (c ∈ letL)).map fun c => V.str ⟨#[c]⟩))) E = some (.lst ((l.filter fun c => !decide (c ∈ letL)).map fun c => V.str ⟨#[c]⟩)) := upd_same
          have hw : wordB l letL 8 = true ↔ ¬ (l = [] ∨ (8 < l.length ∨ 0 < (l.filter fun c => !decide (c ∈ letL)).length)) := by
            unfold wordB
            rw [Bool.and_eq_true, decide_eq_true_eq, List.all_eq_true]
            constructor
            · rintro ⟨⟨h1, h2⟩, h3⟩ (z | z | z)
              · rw [z] at h1
                exact absurd h1 (by decide)
              · omega
              · obtain ⟨c, hc⟩ := List.exists_mem_of_length_pos z
                obtain ⟨c1, c2⟩ := List.mem_filter.mp hc
                have := h3 c c1
                rw [this] at c2
                cases c2
            · intro h
              have n1 : l ≠ [] := fun z => h (.inl z)
              have n2 : ¬ 8 < l.length := fun z => h (.inr (.inl z))
              have n3 : 0 < l.length := List.length_pos_iff.mpr n1
              refine ⟨⟨by omega, by omega⟩, fun c hc => ?_⟩
              cases e : decide (c ∈ letL) with
              | true => rfl
              | false => exact absurd (.inr (.inr (List.length_pos_of_mem (List.mem_filter.mpr ⟨hc, by rw [e]; rfl⟩)))) h
          generalize upd H2 E (.lst ((l.filter fun c => !decide (c ∈ letL)).map fun c => V.str ⟨#[c]⟩)) = H3 at s3 eE
          generalize hF : (l.filter fun c => !decide (c ∈ letL)) = F at eE hw
          have e3 := s3 _ _ e2
          dsimp only [tNext, tSeq, tIfS, tAsg, gName, tC]
          refine or_dec (p := l = []) (q := 8 < l.length ∨ 0 < F.length) (fun R k => ⟨_, rfl, rfl, _, rfl, to_dec ?_ (k _ same_refl)⟩)
            (fun _ H4 s4 R k => or_dec (p := 8 < l.length) (q := 0 < F.length) (fun R k => ⟨_, rfl, Sg l, rfl, (by show l.length ≤ sizeLine; omega), _, _, rfl, rfl, _, rfl, to_dec (decide_eq_decide.mpr (by show (8 : Int) < (l.length : Int) ↔ _; omega)) (k _ same_refl)⟩)
              (fun _ H5 s5 R k => ⟨_, rfl, E, _, rfl, .inl (SqL.of (s5 _ _ (s4 _ _ eE))), _, _, rfl, rfl, _, rfl, to_dec (decide_eq_decide.mpr (by rw [List.length_map]; omega)) (k _ same_refl)⟩) k) fun H4 s4 => ite2 (fun h => ?_) (fun h => ?_)
          · rw [show Str.ofString "" = Sg [] by decide +kernel]
            refine decide_eq_decide.mpr ⟨fun z => ?_, fun z => by rw [z]⟩
            have z2 := V.str.inj z
            exact congrArg tl z2
          · have h := of_decide_eq_true h
            refine no _ (same_trans s2 (same_trans s3 s4)) ?_
            have nw : ¬ wordB l letL 8 = true := fun z => hw.mp z h
            unfold pathB
            rw [show (ps.all fun l => wordB l letL 8) = false by
              rw [List.all_eq_false]
              exact ⟨l, List.mem_of_getElem? gl, nw⟩, Bool.and_false]
          · have h : ¬ _ := fun z => h (decide_eq_true z)
            refine ⟨_, _, _, rfl, same_trans s2 (same_trans s3 s4), s4 _ _ e3, fun m l' hm' e => ?_⟩
            by_cases hmk : m = i
            · subst hmk
              rw [gl] at e
              cases e
              exact hw.mpr h
            · exact hm m l' (by omega) e
      · rintro σ H2 ⟨y2, y3, y4, rfl, s2, e2, hm⟩
        rw [strV_len] at hm
        have yes : pathB ps = true := by
          unfold pathB
          rw [decide_eq_true ⟨h1, h4⟩, Bool.true_and, List.all_eq_true]
          intro l hl
          obtain ⟨m, e⟩ := List.mem_iff_getElem?.mp hl
          exact hm m l (List.getElem?_eq_some_iff.mp e).1 e
        refine ⟨_, rfl, D, _, rfl, .inl ⟨SqL.of e2, fun t nt => ?_⟩⟩
        exact hq _ _ (same_trans s2 (same_new nt)) (by rw [if_pos yes]; exact ⟨t, rfl, upd_same⟩)
end
end K51
namespace K51
open PySem PySem.Spec PyProof.Rows L2 TR QR
open GxR (TabB TabG Tabbed)
open PySem.W (Datum Tup)
abbrev sLaw : Stmt := topS 25
abbrev nLAW : List Str := ["script", "state", "rules", "kept", "turn", "path", "text", "index", "longer", "other", "wild", "k", "rule"]
theorem scLAW : FnScope nLAW ["script"] (defScope sLaw) := ⟨rfl, rfl, rfl, by decide +kernel, rfl, by decide +kernel, by decide +kernel⟩
/-- draws were made, objects laid, code written into two tables -/
structure LS (p c T1 T2 : Addr) (H H' : Hp) : Prop where
  st : StateAt H' p c
  ou : ∀ b o, b ≠ p → b ≠ c → b ≠ T1 → b ≠ T2 → H b = some o → H' b = some o
  g1 : TabG H' T1
  g2 : TabG H' T2
theorem st_ne {H : Hp} {T p c : Addr} (g : TabG H T) (s : StateAt H p c) : p ≠ T ∧ c ≠ T := by
  obtain ⟨⟨_, e1⟩, ⟨_, e2⟩⟩ := s.some
  exact ⟨tab_ne g e1 (fun ps z => nomatch z), tab_ne g e2 (fun ps z => nomatch z)⟩
section
variable {p c T1 T2 : Addr} {H H1 H2 : Hp}
theorem LS.same (h : LS p c T1 T2 H H1) (s : Same H1 H2) : LS p c T1 T2 H H2 := ⟨h.st.same s, fun b o n1 n2 n3 n4 e => s _ _ (h.ou b o n1 n2 n3 n4 e), tab_same h.g1 s, tab_same h.g2 s⟩
theorem LS.dr (h : LS p c T1 T2 H H1) (d : Dr p c H1 H2) : LS p c T1 T2 H H2 := by
  have a := st_ne h.g1 h.st
  have b := st_ne h.g2 h.st
  obtain ⟨p1, e1, o1⟩ := h.g1
  obtain ⟨p2, e2, o2⟩ := h.g2
  exact ⟨d.st, fun x o n1 n2 n3 n4 e => d.ou x o n1 n2 (h.ou x o n1 n2 n3 n4 e), ⟨p1, d.ou T1 _ (Ne.symm a.1) (Ne.symm a.2) e1, o1⟩, ⟨p2, d.ou T2 _ (Ne.symm b.1) (Ne.symm b.2) e2, o2⟩⟩
theorem LS.tb (h : LS p c T1 T2 H H1) (t : Tb2 T1 T2 H1 H2) : LS p c T1 T2 H H2 := by
  have a := st_ne h.g1 h.st
  have b := st_ne h.g2 h.st
  exact ⟨h.st.mono (fun o e => t.sm _ _ a.1 b.1 e) (fun o e => t.sm _ _ a.2 b.2 e), fun x o n1 n2 n3 n4 e => t.sm x o n3 n4 (h.ou x o n1 n2 n3 n4 e), t.t1, t.t2⟩
theorem LS.refl (s : StateAt H p c) (g1 : TabG H T1) (g2 : TabG H T2) : LS p c T1 T2 H H := ⟨s, fun _ _ _ _ _ _ e => e, g1, g2⟩
theorem LS.self (h : LS p c T1 T2 H H1) : LS p c T1 T2 H1 H1 := LS.refl h.st h.g1 h.g2
theorem LS.trans (h : LS p c T1 T2 H H1) (k : LS p c T1 T2 H1 H2) : LS p c T1 T2 H H2 := ⟨k.st, fun b o n1 n2 n3 n4 e => k.ou b o n1 n2 n3 n4 (h.ou b o n1 n2 n3 n4 e), k.g1, k.g2⟩
/-- a tuple stays -/
theorem LS.tup (h : LS p c T1 T2 H H1) (k : LS p c T1 T2 H1 H2) {b : Addr} {xs : List V} (e : H1 b = some (.tup xs)) : H2 b = some (.tup xs) := by
  obtain ⟨⟨_, e1⟩, ⟨_, e2⟩⟩ := h.st.some
  refine k.ou b _ (fun z => ?_) (fun z => ?_) (tab_ne h.g1 e (fun ps z => nomatch z)) (tab_ne h.g2 e (fun ps z => nomatch z)) e
  · rw [z, e1] at e
    cases e
  · rw [z, e2] at e
    cases e
theorem LS.rule (h : LS p c T1 T2 H H1) (k : LS p c T1 T2 H1 H2) {x : RA × Rule} (e : RuleAt H1 x) : RuleAt H2 x := ⟨h.tup k e.t, h.tup k e.p, h.tup k e.l.1, h.tup k e.l.2⟩
theorem LS.rules {H0 : Hp} (s0 : StateAt H0 p c) (h : LS p c T1 T2 H H1) (k : LS p c T1 T2 H1 H2) {r : Addr} {R : List (RA × Rule)} (e : RulesN H0 H1 r R) : RulesN H0 H2 r R :=
  ⟨⟨k.ou r _ (s0.new e.nr).1 (s0.new e.nr).2 (tab_ne h.g1 e.at_.li (fun ps z => nomatch z)) (tab_ne h.g2 e.at_.li (fun ps z => nomatch z)) e.at_.li, fun x hx => h.rule k (e.at_.it x hx)⟩, e.nr, e.fr⟩
end
theorem or_decG {Rel : Hp → Hp → Prop} (tr : ∀ a b c, Rel a b → Rel b c → Rel a c) {tA tB : TT} {σ : L2.St} {H : Hp} {Q : Bool → Hp → Prop} {p q : Prop} [Decidable p] [Decidable q] (hA : ∀ R : Bool → Hp → Prop, (∀ H1, Rel H H1 → R (decide p) H1) → tA σ H R)
    (hB : ¬ p → ∀ H1, Rel H H1 → ∀ R : Bool → Hp → Prop, (∀ H2, Rel H1 H2 → R (decide q) H2) → tB σ H1 R) (h : ∀ H2, Rel H H2 → Q (decide (p ∨ q)) H2) : tOr tA tB σ H Q := by
  refine hA _ fun H1 s1 => ?_
  by_cases hp : p
  · show if decide p = true then Q true H1 else tB σ H1 Q
    rw [decide_eq_true hp]
    have := h H1 s1
    rw [decide_eq_true (Or.inl hp)] at this
    exact this
  · show if decide p = true then Q true H1 else tB σ H1 Q
    rw [decide_eq_false hp]
    refine hB hp H1 s1 Q fun H2 s2 => ?_
    have := h H2 (tr _ _ _ s1 s2)
    rw [show decide (p ∨ q) = decide q from decide_eq_decide.mpr ⟨fun z => z.resolve_left hp, fun z => .inr z⟩] at this
    exact this
/-! ### data -/
abbrev LabT := PySem.W.T3 Str Int (Tup Int)
def labT (lv : Nat) (ms : List Nat) : LabT := ⟨"label", lv, ⟨ms.map fun m : Nat => (m : Int)⟩⟩
theorem dp_ints {K : PySem.W.Frag} {H : Hp} : ∀ ms : List Int, DpAll K H (ms.map V.int) (ms.map Datum.toD)
  | [] => .nil
  | m :: r => .cons (.int m) (dp_ints r)
theorem dp_labS {K : PySem.W.Frag} {H : Hp} {la ma : Addr} {lv : Nat} {ms : List Nat} (h1 : SqT K H la [.str "label", .int (lv : Int), .ref ma]) (h2 : SqT K H ma ((ms.map fun m : Nat => (m : Int)).map V.int)) : Dp K H (.ref la) (Datum.toD (labT lv ms)) :=
  .tup h1 (.cons (.str _) (.cons (.int _) (.cons (.tup h2 (dp_ints _)) .nil)))
theorem dp_lab {K : PySem.W.Frag} {H : Hp} {la ma : Addr} {lv : Nat} {ms : List Nat} (h : LabAt H la ma lv ms) : Dp K H (.ref la) (Datum.toD (labT lv ms)) :=
  dp_labS (SqT.of h.1) (SqT.of (by rw [List.map_map]; exact h.2))
theorem hPE_ {K : PySem.W.Frag} {PE : Addr} {d : Option Addr} {n : Nat} {s : Array (Option Value)} (l : K.lookup PE = some ⟨.type "tuple", d, .seq #[] n, s⟩) (H : Hp) : SqT K H PE [] := .inr ⟨_, #[], n, l, rfl, rfl, by simp, .nil⟩
theorem hPU_ {K : PySem.W.Frag} {PU PE : Addr} {d : Option Addr} {n : Nat} {s : Array (Option Value)} {k1 k2 : Tok} (l : K.lookup PU = some ⟨.type "tuple", d, .seq #[.str "label" k1, .int 0 k2, .ref PE] n, s⟩) (H : Hp) : SqT K H PU [.str "label", .int 0, .ref PE] :=
  .inr ⟨_, _, n, l, rfl, rfl, by show 3 ≤ sizeLine; have := zl; omega, .cons ⟨k1, rfl⟩ (.cons ⟨k2, rfl⟩ (.cons rfl .nil))⟩
def ruleD (r : Rule) : PyData := .tuple [Datum.toD (⟨r.pre.map Sg⟩ : Tup Str), Datum.toD (labT r.lv r.ms)]
def rulesD (R : List (RA × Rule)) : PyData := .list (R.map fun x => ruleD x.2)
theorem dp_rules {K : PySem.W.Frag} {H : Hp} {r : Addr} {R : List (RA × Rule)} (h : RulesAt H r R) : Dp K H (.ref r) (rulesD R) := by
  refine .lst (SqL.of h.li) ?_
  have key : ∀ R : List (RA × Rule), (∀ x ∈ R, RuleAt H x) → DpAll K H (R.map fun x => V.ref x.1.t) (R.map fun x => ruleD x.2) := by
    intro R
    induction R with
    | nil => exact fun _ => .nil
    | cons x R ih =>
      intro h
      have hx := h x List.mem_cons_self
      exact .cons (.tup (SqT.of hx.t) (.cons (dp_path (SqT.of hx.p)) (.cons (dp_lab hx.l) .nil))) (ih fun y hy => h y (List.mem_cons_of_mem _ hy))
  exact key R h.it
theorem ruleD_facts {r : Rule} (h : okR r) : PyData.leavesShort 8 (ruleD r) = true ∧ PyData.showable (ruleD r) = true ∧ PyData.hasDict (ruleD r) = false ∧ PyData.bulk (ruleD r) ≤ 20 ∧ PyData.depth (ruleD r) ≤ 3 := by
  have k : (preL.all fun p => labelL.all fun l => PyData.leavesShort 8 (ruleD ⟨p, l.1, l.2⟩) && (PyData.showable (ruleD ⟨p, l.1, l.2⟩) && (!PyData.hasDict (ruleD ⟨p, l.1, l.2⟩) && (decide (PyData.bulk (ruleD ⟨p, l.1, l.2⟩) ≤ 20) && decide (PyData.depth (ruleD ⟨p, l.1, l.2⟩) ≤ 3))))) = true := by decide +kernel
  have := List.all_eq_true.mp (List.all_eq_true.mp k _ h.1) _ h.2
  simpa using this
theorem rules_facts : ∀ {R : List (RA × Rule)}, (∀ x ∈ R, okR x.2) → PyData.leavesShortAll 8 (R.map fun x => ruleD x.2) = true ∧ PyData.showableAll (R.map fun x => ruleD x.2) = true ∧ PyData.hasDictAll (R.map fun x => ruleD x.2) = false ∧ PyData.bulkAll (R.map fun x => ruleD x.2) ≤ 21 * R.length ∧ PyData.depthAll (R.map fun x => ruleD x.2) ≤ 3
  | [], _ => ⟨rfl, rfl, rfl, Nat.zero_le _, Nat.zero_le _⟩
  | x :: R, h => by
    obtain ⟨a1, a2, a3, a4, a5⟩ := ruleD_facts (h x List.mem_cons_self)
    obtain ⟨b1, b2, b3, b4, b5⟩ := rules_facts fun q hq => h q (List.mem_cons_of_mem _ hq)
    rw [List.map_cons]
    refine ⟨?_, ?_, ?_, ?_, ?_⟩
    · rw [PyData.leavesShortAll, a1, b1]
      rfl
    · rw [PyData.showableAll, a2, b2]
      rfl
    · rw [PyData.hasDictAll, a3, b3]
      rfl
    · rw [PyData.bulkAll, List.length_cons]
      omega
    · rw [PyData.depthAll]
      omega
theorem rulesD_facts {R : List (RA × Rule)} (h : ∀ x ∈ R, okR x.2) (l : R.length ≤ 1000) : (rulesD R).showable = true ∧ (rulesD R).hasDict = false ∧ (rulesD R).depth ≤ 60 ∧ (rulesD R).shown.length ≤ sizeLine := by
  obtain ⟨a1, a2, a3, a4, a5⟩ := rules_facts h
  have z : sizeLine = 16777216 := sizeLine_eq
  refine ⟨?_, ?_, ?_, ?_⟩
  · rw [rulesD, PyData.showable]; exact a2
  · rw [rulesD, PyData.hasDict]; exact a3
  · rw [rulesD, PyData.depth]; omega
  · have := PyData.shown_le_bulk 8 (Nat.le_refl _) (rulesD R) (by rw [rulesD, PyData.leavesShort]; exact a1)
    have e : (rulesD R).bulk ≤ 21 * R.length + 5 := by rw [rulesD, PyData.bulk]; omega
    omega
theorem path_facts {ps : Path} (h : ps ∈ pathL) : parseL (slashL ps) = some ps ∧ ps.length ≤ 4 ∧ (∀ l ∈ ps, l.length ≤ 1) ∧ (slashL ps).length ≤ 10 := by
  have k : (pathL.all fun ps => decide (parseL (slashL ps) = some ps) && (decide (ps.length ≤ 4) && ((ps.all fun l => decide (l.length ≤ 1)) && decide ((slashL ps).length ≤ 10)))) = true := by decide +kernel
  have := List.all_eq_true.mp k _ h
  simpa using this
section
variable {P : Program} {w : World} {K : PySem.W.Frag} {mg : Str → Option Value} {base : Heap}
def spLaw (K : PySem.W.Frag) (T1 T2 : Addr) : Sp := fun vs H Q _ => ∃ (a : Addr) (ns : List Int), vs = [.ref a] ∧ SqL K H a (ns.map V.int) ∧ ns.length ≤ 63 ∧ TabG H T1 ∧ TabG H T2 ∧ T1 ≠ T2 ∧ ∀ H', Q (.bl true) H'
theorem ok_LAW {T1 T2 PU PE f fS fT fLP fLR fLT fLX fPD fSH fPP fLA fRA fBE : Addr} {fdS fdT fdLP fdLR fdLT fdLX fdPD fdSH fdPP fdLA fdRA fdBE : FuncData} {oc kV doc pm cdv ct : Value} {od an : Option Addr} {osl : Array (Option Value)} (lk : K.lookup f = some ⟨oc, od, .func (PySem.W.fnOf "law" "law" (defArgs sLaw) (defBody sLaw) (defScope sLaw) .none kV doc pm an cdv ct), osl⟩)
    (hcd : PySem.W.codeIn K cdv "law" = true) (hPU : ∀ H, SqT K H PU [.str "label", .int 0, .ref PE]) (hPE : ∀ H, SqT K H PE [])
    (GS : FnOk P w K mg base CX0 1 fS fdS ["script"] (spState K)) (bS : Binds K fdS ["script"] []) (gS : mg "_law_state" = some (.ref fS)) (kS : PySem.W.keepIn K (.ref fS) = true)
    (GLR : FnOk P w K mg base CX0 3 fLR fdLR ["state", "count"] spLR) (bLR : Binds K fdLR ["state", "count"] []) (gLR : mg "_law_rules" = some (.ref fLR)) (kLR : PySem.W.keepIn K (.ref fLR) = true)
    (GLP : FnOk P w K mg base CX0 2 fLP fdLP ["state"] spLP) (bLP : Binds K fdLP ["state"] []) (gLP : mg "_law_path" = some (.ref fLP)) (kLP : PySem.W.keepIn K (.ref fLP) = true)
    (GSH : FnOk P w K mg base CX0 1 fSH fdSH ["path"] spSH) (bSH : Binds K fdSH ["path"] []) (gSH : mg "show_path" = some (.ref fSH)) (kSH : PySem.W.keepIn K (.ref fSH) = true)
    (GPP : FnOk P w K mg base CX0 5 fPP fdPP ["text"] (spPP T1 T2)) (bPP : Binds K fdPP ["text"] []) (gPP : mg "parse_path" = some (.ref fPP)) (kPP : PySem.W.keepIn K (.ref fPP) = true)
    (GLA : FnOk P w K mg base CX0 3 fLA fdLA ["rules", "path"] (spLA PU)) (bLA : Binds K fdLA ["rules", "path"] []) (gLA : mg "label_of" = some (.ref fLA)) (kLA : PySem.W.keepIn K (.ref fLA) = true)
    (GLT : FnOk P w K mg base CX0 1 fLT fdLT ["rules", "path"] spLT) (bLT : Binds K fdLT ["rules", "path"] []) (gLT : mg "_law_label_at" = some (.ref fLT)) (kLT : PySem.W.keepIn K (.ref fLT) = true)
    (GRA : FnOk P w K mg base CX0 2 fRA fdRA ["rules", "path"] spRA) (bRA : Binds K fdRA ["rules", "path"] []) (gRA : mg "rule_at" = some (.ref fRA)) (kRA : PySem.W.keepIn K (.ref fRA) = true)
    (GT : FnOk P w K mg base CX0 1 fT fdT ["state", "most"] spTake) (bT : Binds K fdT ["state", "most"] []) (gT : mg "_law_take" = some (.ref fT)) (kT : PySem.W.keepIn K (.ref fT) = true)
    (GBE : FnOk P w K mg base CX0 1 fBE fdBE ["prefix", "path"] spBE) (bBE : Binds K fdBE ["prefix", "path"] []) (gBE : mg "begins" = some (.ref fBE)) (kBE : PySem.W.keepIn K (.ref fBE) = true)
    (GLX : FnOk P w K mg base CX0 2 fLX fdLX ["state"] spLX) (bLX : Binds K fdLX ["state"] []) (gLX : mg "_law_text" = some (.ref fLX)) (kLX : PySem.W.keepIn K (.ref fLX) = true)
    (GPD : FnOk P w K mg base CX0 1 fPD fdPD ["text"] spPD) (bPD : Binds K fdPD ["text"] []) (gPD : mg "_law_parsed" = some (.ref fPD)) (kPD : PySem.W.keepIn K (.ref fPD) = true)
    (m_len : mg "len" = none) (m_range : mg "range" = none) (m_repr : mg "repr" = none) :
    GX.FnC P w K mg base f (PySem.W.fnOf "law" "law" (defArgs sLaw) (defBody sLaw) (defScope sLaw) .none kV doc pm an cdv ct) ["script"] (spLaw K T1 T2) := by
  refine GX.fn_C (k := 6) ⟨rfl, by decide +kernel, by decide +kernel⟩ lk hcd scLAW (fun vs H Q E h => ?_) fun A outer s H vs Q E hg hr h => ?_
  · obtain ⟨a, ns, rfl, _⟩ := h
    rfl
  · obtain ⟨a0, ns, rfl, hS, hl, g1, g2, neT, q⟩ := h
    have hu := hr.units
    have hu1 := hu_of hr
    have hr1 : Room 1 _ := hr.mono (by decide)
    have hr2 : Room 2 _ := hr.mono (by decide)
    have hr3 : Room 3 _ := hr.mono (by decide)
    have hr4 : Room 4 _ := hr.mono (by decide)
    have hr5 : Room 5 _ := hr.mono (by decide)
    have zl := zl
    have hgd : (A.deeper (envOfC "law" (defScope sLaw) s.heap.objs.size f cdv)).guards = some [] := hg
    refine ⟨_, (pss_cons (ps_set (i := 1) scLAW.nd rfl (.inl rfl) (pe_call GS hr1 (by rfl) gS kS bS .nil pass0 (pa_cons (pv 0) pa_nil)))
      (pss_cons (ps_set (i := 2) scLAW.nd rfl (.inr rfl) (pe_call GLR hr3 (by rfl) gLR kLR bLR .nil pass0 (pa_cons (pv 1) (pa_cons (pe_int) pa_nil))))
      (pss_cons (ps_set (i := 3) scLAW.nd rfl (.inl rfl) (pe_callB (GX.cr_repr hgd hu) (by rfl) m_repr (by decide +kernel) (pa_cons (pv 2) pa_nil)))
      (pss_cons (ps_for PassesOwn.never rfl (pi_range1 (by rfl) m_range (pa_cons (pe_int) pa_nil)) (pg_name (i := 4) scLAW.nd rfl (.inl rfl))
      (pss_cons (ps_set (i := 5) scLAW.nd rfl (.inr rfl) (pe_call GLP hr2 (by rfl) gLP kLP bLP .nil pass0 (pa_cons (pv 1) pa_nil)))
      (pss_cons (ps_set (i := 6) scLAW.nd rfl (.inl rfl) (pe_join (pe_str) (pv 5)))
      (pss_cons (ps_if (PW.pt (pw_or (pt_cmpR op_ne (pe_call GSH hr1 (by rfl) gSH kSH bSH .nil pass0 (pa_cons (pv 5) pa_nil)) (pv 6) (nomark _)) (pw_or (pt_cmpR (op_neP hu) (pe_call GPP hr5 (by rfl) gPP kPP bPP .nil pass0 (pa_cons (pv 6) pa_nil)) (pv 5) (nomark _)) (pw_or1 (pt_cmpR (op_neP hu) (pe_call GLA hr3 (by rfl) gLA kLA bLA .nil pass0 (pa_cons (pv 2) (pa_cons (pv 5) pa_nil))) (pe_call GLT hr1 (by rfl) gLT kLT bLT .nil pass0 (pa_cons (pv 2) (pa_cons (pv 5) pa_nil))) (nomark _))))))
      (pss_one (ps_ret (pe_bl))) pss_nil)
      (pss_cons (ps_set (i := 7) scLAW.nd rfl (.inr rfl) (pe_call GRA hr2 (by rfl) gRA kRA bRA .nil pass0 (pa_cons (pv 2) (pa_cons (pv 5) pa_nil))))
      (pss_cons (ps_if (PW.pt (pw_and (pt_cmpR op_isN (pv 7) (pe_non) (nomark _)) (pw_and1 (pt_cmpR op_gt (pe_callB call_len_seq (by rfl) m_len PySem.boot_len (pa_cons (pe_lc (own := [("rule", 12)]) (g := gName 12) (tt := tTest (tOp (rEqP K) (tSl (rSlA K) (tVar 5) tNoPart (tPart (tCB (fun xs H Q => ∃ p ys, xs = [V.ref p] ∧ (SqL K H p ys ∨ SqT K H p ys) ∧ Q (.int ys.length) H) (tCons (tOp (rIxT K) (tVar 12) (tC (.int 0))) tNil)))) (tOp (rIxT K) (tVar 12) (tC (.int 0))))) (te := tVar 12) rfl scLAW.nd (pi_list (pv 2)) (blkOk_by (N := nLAW) (sc := defScope sLaw) (by decide +kernel)) (fun _ _ _ _ _ => by exact pg_name (i := 12) scLAW.nd rfl (.inl rfl)) (fun _ _ _ _ _ => by exact pts_one (pt_cmpR (op_eqP hu) (pe_slice sl_tupA (pv 5) (po_none) (po_some (pe_callB call_len_seq (by rfl) m_len PySem.boot_len (pa_cons (pe_ix ix_tup (pv 12) (pe_int) (fun _ _ => rfl)) pa_nil)))) (pe_ix ix_tup (pv 12) (pe_int) (fun _ _ => rfl)) (nomark _))) (fun _ _ _ _ _ => by exact pv 12)) pa_nil)) (pe_int) (nomark _)))))
      (pss_one (ps_ret (pe_bl))) pss_nil)
      (pss_cons (ps_if (pt_cmpR op_notN (pv 7) (pe_non) (nomark _))
      (pss_cons (ps_setLc (i := 8) (own := [("k", 11)]) (g := gName 11) (tt := tTest (tOp (rEqP K) (tSl (rSlA K) (tVar 5) tNoPart (tPart (tCB (fun xs H Q => ∃ p ys, xs = [V.ref p] ∧ (SqL K H p ys ∨ SqT K H p ys) ∧ Q (.int ys.length) H) (tCons (tOp (rIxT K) (tOp (rIxL K) (tVar 2) (tVar 11)) (tC (.int 0))) tNil)))) (tOp (rIxT K) (tOp (rIxL K) (tVar 2) (tVar 11)) (tC (.int 0))))) (te := tVar 11) rfl scLAW.nd rfl rfl (sw_true rfl rfl rfl (by decide +kernel)) (pi_range1 (by rfl) m_range (pa_cons (pe_callB call_len_seq (by rfl) m_len PySem.boot_len (pa_cons (pv 2) pa_nil)) pa_nil)) (blkOk_by (N := nLAW) (sc := defScope sLaw) (by decide +kernel)) (fun _ _ _ _ _ => by exact pg_name (i := 11) scLAW.nd rfl (.inl rfl)) (fun _ _ _ _ _ => by exact pts_one (pt_cmpR (op_eqP hu) (pe_slice sl_tupA (pv 5) (po_none) (po_some (pe_callB call_len_seq (by rfl) m_len PySem.boot_len (pa_cons (pe_ix ix_tup (pe_ix ix_list (pv 2) (pv 11) (fun _ _ => rfl)) (pe_int) (fun _ _ => rfl)) pa_nil)))) (pe_ix ix_tup (pe_ix ix_list (pv 2) (pv 11) (fun _ _ => rfl)) (pe_int) (fun _ _ => rfl)) (nomark _))) (fun _ _ _ _ _ => by exact pv 11))
      (pss_cons (ps_setLc (i := 8) (own := [("k", 11)]) (g := gName 11) (tt := tTest (tOp (GX.rGtP K) (tTup (tCons (tCB (fun xs H Q => ∃ p ys, xs = [V.ref p] ∧ (SqL K H p ys ∨ SqT K H p ys) ∧ Q (.int ys.length) H) (tCons (tOp (rIxT K) (tOp (rIxL K) (tVar 2) (tVar 11)) (tC (.int 0))) tNil)) (tCons (tVar 11) tNil))) (tTup (tCons (tCB (fun xs H Q => ∃ p ys, xs = [V.ref p] ∧ (SqL K H p ys ∨ SqT K H p ys) ∧ Q (.int ys.length) H) (tCons (tOp (rIxT K) (tOp (rIxL K) (tVar 2) (tVar 7)) (tC (.int 0))) tNil)) (tCons (tVar 7) tNil))))) (te := tVar 11) rfl scLAW.nd rfl rfl (sw_true rfl rfl rfl (by decide +kernel)) (pi_list (pv 8)) (blkOk_by (N := nLAW) (sc := defScope sLaw) (by decide +kernel)) (fun _ _ _ _ _ => by exact pg_name (i := 11) scLAW.nd rfl (.inl rfl)) (fun _ _ _ _ _ => by exact pts_one (pt_cmpR (GX.op_gtP hu) (pe_tup (pa_cons (pe_callB call_len_seq (by rfl) m_len PySem.boot_len (pa_cons (pe_ix ix_tup (pe_ix ix_list (pv 2) (pv 11) (fun _ _ => rfl)) (pe_int) (fun _ _ => rfl)) pa_nil)) (pa_cons (pv 11) pa_nil))) (pe_tup (pa_cons (pe_callB call_len_seq (by rfl) m_len PySem.boot_len (pa_cons (pe_ix ix_tup (pe_ix ix_list (pv 2) (pv 7) (fun _ _ => rfl)) (pe_int) (fun _ _ => rfl)) pa_nil)) (pa_cons (pv 7) pa_nil))) (nomark _))) (fun _ _ _ _ _ => by exact pv 11))
      (pss_one (ps_if (PW.pt (pw_or (pt_cmpR (op_neP hu) (pe_slice sl_tupA (pv 5) (po_none) (po_some (pe_callB call_len_seq (by rfl) m_len PySem.boot_len (pa_cons (pe_ix ix_tup (pe_ix ix_list (pv 2) (pv 7) (fun _ _ => rfl)) (pe_int) (fun _ _ => rfl)) pa_nil)))) (pe_ix ix_tup (pe_ix ix_list (pv 2) (pv 7) (fun _ _ => rfl)) (pe_int) (fun _ _ => rfl)) (nomark _)) (pw_or1 (pt_cmpR (op_neP hu) (pv 8) (pe_lst (pa_nil)) (nomark _)))))
      (pss_one (ps_ret (pe_bl))) pss_nil)))) pss_nil)
      (pss_cons (ps_set (i := 9) scLAW.nd rfl (.inl rfl) (pe_slice sl_tupA (pe_call GLP hr2 (by rfl) gLP kLP bLP .nil pass0 (pa_cons (pv 1) pa_nil)) (po_none) (po_some (pe_call GT hr1 (by rfl) gT kT bT .nil pass0 (pa_cons (pv 1) (pa_cons (pe_int) pa_nil))))))
      (pss_cons (ps_if (pt_cmpR op_ne (pe_callB GX.cr_reprB (by rfl) m_repr (by decide +kernel) (pa_cons (pe_call GBE hr1 (by rfl) gBE kBE bBE .nil pass0 (pa_cons (pv 9) (pa_cons (pv 5) pa_nil))) pa_nil)) (pe_callB GX.cr_reprB (by rfl) m_repr (by decide +kernel) (pa_cons (pe_cmpR (op_eqP hu) (pe_slice sl_tupA (pv 5) (po_none) (po_some (pe_callB call_len_seq (by rfl) m_len PySem.boot_len (pa_cons (pv 9) pa_nil)))) (pv 9) (nomark _)) pa_nil)) (nomark _))
      (pss_one (ps_ret (pe_bl))) pss_nil)
      (pss_cons (ps_set (i := 10) scLAW.nd rfl (.inl rfl) (pe_call GLX hr2 (by rfl) gLX kLX bLX .nil pass0 (pa_cons (pv 1) pa_nil)))
      (pss_one (ps_if (pt_cmpR (op_neP hu) (pe_call GPP hr5 (by rfl) gPP kPP bPP .nil pass0 (pa_cons (pv 10) pa_nil)) (pe_call GPD hr1 (by rfl) gPD kPD bPD .nil pass0 (pa_cons (pv 10) pa_nil)) (nomark _))
      (pss_one (ps_ret (pe_bl))) pss_nil))))))))))))
      (pss_one (ps_ret (pe_cmpR op_eq (pe_callB (GX.cr_repr hgd hu) (by rfl) m_repr (by decide +kernel) (pa_cons (pv 2) pa_nil)) (pv 3) (nomark _)))))))), ?_⟩
    refine ⟨_, rfl, a0, ns, rfl, hS, hl, fun H1 p c sm1 np nc st1 => ?_⟩
    refine ⟨_, rfl, p, c, 6, rfl, by decide, st1, fun H2 r R dr2 lR hR => ?_⟩
    have g11 := tab_same g1 sm1
    have g12 := tab_same g2 sm1
    have l2 : LS p c T1 T2 H1 H2 := (LS.refl st1 g11 g12).dr dr2
    have g21 := l2.g1
    have g22 := l2.g2
    have okR' : ∀ x ∈ R, okR x.2 := fun x hx => (hR.fr x hx).2
    obtain ⟨F1, F2, F3, F4⟩ := rulesD_facts okR' (by omega)
    refine ⟨_, rfl, r, rulesD R, rfl, dp_rules hR.at_, F1, F2, F3, F4, ?_⟩
    refine ⟨_, rfl, by decide, by decide, for_range (n := 4) (fun k σ H' => ∃ y4 y5 y6 y7 y8 y9 y10 : Option V, σ = [some (.ref a0), some (.ref p), some (.ref r), some (.str (rulesD R).shown), y4, y5, y6, y7, y8, y9, y10, none, none] ∧ LS p c T1 T2 H2 H') ⟨none, none, none, none, none, none, none, rfl, l2.self⟩ ?_ ?_⟩
    · rintro k σ H3 hk ⟨y4, y5, y6, y7, y8, y9, y10, rfl, l3⟩
      have hR3 := l2.rules st1 l3 hR
      -- path
      refine ⟨_, rfl, p, c, rfl, l3.st, fun H4 pa ps dr4 npa hps epa => ?_⟩
      obtain ⟨f1, f2, f3, f4⟩ := path_facts hps
      have l4 := l3.dr dr4
      have hR4 := (l2.trans l3).rules st1 (l3.self.dr dr4) hR3
      -- text
      refine ⟨⟨_, rfl⟩, _, rfl, _, pa, ps.map Sg, rfl, rfl, .inr (SqT.of (by rw [List.map_map]; exact epa)), ?_, ?_⟩
      · have := sum_sg (ps := ps) fun l hl => by have := f3 l hl; omega
        rw [List.length_map, show (Str.ofString "/").length = 1 by decide +kernel]
        omega
      rw [join_slash]
      dsimp only [tNext, tSeq, tIfS, tAsg, gName, tC]
      have tr : ∀ a b d, LS p c T1 T2 a b → LS p c T1 T2 b d → LS p c T1 T2 a d := fun _ _ _ => LS.trans
      -- the first test
      refine or_decG tr (p := False) (q := False ∨ False) (fun R' k => ⟨_, rfl, pa, ps, rfl, epa, by omega, fun l hl => by have := f3 l hl; omega, ⟨_, rfl, rfl, _, rfl, to_dec (by simp) (k _ l4.self)⟩⟩)
        (fun _ H5 l5 R' k => or_decG tr (p := False) (q := False) (fun R' k => ⟨_, rfl, Sg (slashL ps), rfl, by show (slashL ps).length ≤ 10000; omega, l5.g1, l5.g2, neT, fun H6 v t6 hv => ?_⟩)
          (fun _ H6 l6 R' k => ?_) k) fun H5 l5 => ite2 (fun h => absurd (of_decide_eq_true h) (by simp)) (fun _ => ?_)
      · have f1' : parseL (tl (Sg (slashL ps))) = some ps := f1
        rw [f1'] at hv
        obtain ⟨va, rfl, ev⟩ := hv
        have l6 := l5.tb t6
        have ep6 := l4.tup (l5.tb t6) epa
        exact ⟨_, rfl, ne_dat (dp_path (SqT.of ev)) (dp_path (SqT.of ep6)) (by decide) ⟨_, rfl, to_dec (by simp) (k _ (l5.self.tb t6))⟩⟩
      · have l46 := l5.trans l6
        have hR6 := l4.rules st1 l46 hR4
        have ep6 := l4.tup l46 epa
        refine ⟨_, rfl, _, rfl, r, pa, R, ps, rfl, hR6.at_, by omega, ep6, fun H7 s7 => ⟨_, rfl, _, rfl, r, pa, R, ps, rfl, (hR6.same s7).at_, by omega, s7 _ _ ep6, fun H8 D m s8 hD => ?_⟩⟩
        have k8 := k _ ((l6.self.same s7).same s8)
        cases hb : bst R ps R.length with
        | none =>
          exact ne_dat (a := labT 0 []) (b := labT 0 []) (dp_labS (hPU _) (hPE _)) (dp_lab hD) (by decide) ⟨_, rfl, to_dec (by simp) k8⟩
        | some b =>
          obtain ⟨b1, b2⟩ := bst_lt hb
          have gb := List.getElem?_eq_getElem b2
          generalize R[b] = y at gb
          have hy := (((hR6.same s7).same s8).at_.it y (List.mem_of_getElem? gb))
          have ev : ∀ pu, labV R pu (some b) = .ref y.1.la := fun pu => by
            show ((R[b]?).map fun x => V.ref x.1.la).getD .non = _
            rw [gb]
            rfl
          rw [ev, ev]
          exact ne_dat (dp_lab hy.l) (dp_lab hy.l) (by decide) ⟨_, rfl, to_dec (by simp) k8⟩
      have hR5 := l4.rules st1 l5 hR4
      have ep5 := l4.tup l5 epa
      have l25 := l4.trans l5
      -- index
      refine ⟨_, rfl, _, rfl, r, pa, R, ps, rfl, hR5.at_, by omega, ep5, fun H6 s6 => ?_⟩
      have hR6 := hR5.same s6
      have ep6 := s6 _ _ ep5
      have l26 := l25.same s6
      clear l5 hR5 ep5 l25 s6
      cases hb : bst R ps R.length with
      | none =>
        refine and_dec (p := True) (q := False) (fun R' k => ⟨_, rfl, rfl, _, rfl, to_dec (by simp [natO]) (k _ same_refl)⟩) (fun _ H7 s7 R' k => ?_) fun H7 s7 => ite2 (fun h => absurd (of_decide_eq_true h) (by simp)) (fun _ => ?_)
        · refine ⟨_, rfl, r, rfl, ⟨_, SqL.of (s7 _ _ hR6.at_.li)⟩, fun E nE => ?_⟩
          refine lc_list (xs := R.map fun x => V.ref x.1.t) (fun i H' => Same H7 H' ∧ H' E = some (.lst [])) ⟨same_new nE, upd_same⟩ ?_ ?_ ?_
          · rintro i H' _ ⟨s8, _⟩
            exact SqL.of (s8 _ _ (s7 _ _ hR6.at_.li))
          · rintro i v H8 hv ⟨s8, eE⟩
            obtain ⟨x, gx, rfl⟩ := map_get hv
            have hx := ((hR6.same s7).same s8).at_.it x (List.mem_of_getElem? gx)
            have ep8 := s8 _ _ (s7 _ _ ep6)
            refine ⟨rfl, ?_⟩
            refine ⟨_, rfl, _, rfl, x.1.t, _, _, _, rfl, rfl, SqT.of hx.t, atI_nat (j := 0) rfl, x.1.pa, _, rfl, .inr (SqT.of hx.p), _, rfl, ?_⟩
            rw [strV_len]
            refine cut_tup ep8 fun H9 rr s9 e9 => ?_
            have hx9 := hx.same s9
            refine ⟨_, rfl, x.1.t, _, _, _, rfl, rfl, SqT.of hx9.t, atI_nat (j := 0) rfl, eq_dat (dp_path (SqT.of e9)) (dp_path (SqT.of hx9.p)) (by decide) ⟨_, rfl, ite2 (fun h => ?_) (fun _ => ⟨same_trans s8 s9, s9 _ _ eE⟩)⟩⟩
            have nb := bst_none hb i x (List.getElem?_eq_some_iff.mp gx).1 gx
            unfold begB at nb
            have h := sg_inj.mp (of_decide_eq_true h)
            rw [decide_eq_true h] at nb
            cases nb
          · rintro H8 ⟨s8, eE⟩
            exact ⟨E, _, rfl, .inl (SqL.of eE), _, _, rfl, rfl, _, rfl, to_dec (by simp) (k _ s8)⟩
        have l27 := l26.same s7
        have hR7 := hR6.same s7
        have ep7 := s7 _ _ ep6
        refine ⟨_, rfl, rfl, _, rfl, ite2 (fun h => absurd h (by simp [natO])) (fun _ => ?_)⟩
        refine ⟨_, rfl, p, c, rfl, l27.st, fun H8 qa qs dr8 nqa hqs eqa => ?_⟩
        have k8 := l27.self.dr dr8
        have l28 := l27.trans k8
        have hR8 := l27.rules st1 k8 hR7
        have ep8 := l27.tup k8 ep7
        refine ⟨_, rfl, p, c, 3, rfl, by decide, l28.st, fun H9 m2 _ lm2 st9 d9 => ⟨_, rfl, ?_⟩⟩
        have k9 := l28.self.dr ((Dr.refl l28.st).drawn st9 d9)
        have l29 := l28.trans k9
        have hR9 := l28.rules st1 k9 hR8
        have ep9 := l28.tup k9 ep8
        have eqa9 := l28.tup k9 eqa
        refine cut_tup eqa9 fun H10 oa s10 eo => ?_
        have l30 := l29.same s10
        have hR10 := hR9.same s10
        have ep10 := s10 _ _ ep9
        refine ⟨_, rfl, _, rfl, oa, pa, qs.take m2, ps, rfl, eo, ep10, fun H11 s11 => ⟨_, rfl, _, rfl, _, rfl, oa, _, rfl, .inr (SqT.of (s11 _ _ eo)), _, rfl, ?_⟩⟩
        rw [strV_len]
        refine cut_tup (s11 _ _ ep10) fun H12 oc s12 ec => ⟨_, rfl, eq_dat (dp_path (SqT.of ec)) (dp_path (SqT.of (s12 _ _ (s11 _ _ eo)))) (by decide) ⟨_, rfl, rfl, _, rfl, ite2 (fun h => ?_) (fun _ => ?_)⟩⟩
        · have eb : decide ((⟨(ps.take (qs.take m2).length).map Sg⟩ : Tup Str) = ⟨(qs.take m2).map Sg⟩) = begB (qs.take m2) ps := decide_eq_decide.mpr sg_inj
          rw [eb] at h
          exact absurd h (by simp)
        have l32 := (l30.same s11).same s12
        refine ⟨_, rfl, p, c, rfl, l32.st, fun H13 x dr13 lx => ?_⟩
        have l33 := l32.dr dr13
        refine ⟨_, rfl, x, rfl, by omega, l33.g1, l33.g2, neT, fun H14 v t14 hv => ⟨_, rfl, x, rfl, by omega, fun H15 v' s15 hv' => ?_⟩⟩
        have l34 := l33.tb t14
        have l35 := l34.same s15
        cases hp : parseL (tl x) with
        | none =>
          rw [hp] at hv hv'
          obtain rfl : v = .non := hv
          obtain rfl : v' = .non := hv'
          refine ⟨.none, .none, .non, .non, rfl, rfl, by decide, ?_⟩
          rw [PySem.SeqAt.eqv_refl_plain .none rfl]
          exact ⟨_, rfl, ite2 (fun h => absurd h (by simp)) (fun _ => ⟨_, _, _, _, _, _, _, rfl, l35⟩)⟩
        | some pq =>
          rw [hp] at hv hv'
          obtain ⟨va, rfl, ev⟩ := hv
          obtain ⟨vb, rfl, ew⟩ := hv'
          exact ne_dat (dp_path (SqT.of (s15 _ _ ev))) (dp_path (SqT.of ew)) (by decide) ⟨_, rfl, ite2 (fun h => absurd h (by simp)) (fun _ => ⟨_, _, _, _, _, _, _, rfl, l35⟩)⟩
      | some b =>
        refine and_dec (p := False) (q := False) (fun R' k => ⟨_, rfl, rfl, _, rfl, to_dec (by simp [natO]) (k _ same_refl)⟩) (fun z => z.elim) fun H7 s7 => ite2 (fun h => absurd (of_decide_eq_true h) (by simp)) (fun _ => ?_)
        refine ⟨_, rfl, rfl, _, rfl, ite2 (fun _ => ?_) (fun h => absurd rfl h)⟩
        have hR7 := hR6.same s7
        have ep7 := s7 _ _ ep6
        obtain ⟨b1, b2⟩ := bst_lt hb
        obtain ⟨⟨y, gb, by_⟩, bs⟩ := bst_some hb
        have lb := len_at gb
        have gy : (R.map fun x => V.ref x.1.t)[b]? = some (V.ref y.1.t) := get_map _ gb
        -- longer
        refine ⟨_, rfl, r, _, rfl, .inl (SqL.of hR7.at_.li), _, rfl, by rw [List.length_map]; omega, by rw [List.length_map]; omega, fun E nE => ?_⟩
        refine lc_range (lo := 0) (n := (((R.map fun x => V.ref x.1.t).length : Nat) : Int).toNat) (fun i H' => Same H7 H' ∧ ∃ ks : List Nat, H' E = some (.lst (ks.map fun m : Nat => V.int (m : Int))) ∧ ks.length ≤ i ∧ ∀ m ∈ ks, ∃ x, R[m]? = some x ∧ begB x.2.pre ps = true) ⟨same_new nE, [], upd_same, Nat.le_refl _, fun m hm => nomatch hm⟩ ?_ ?_
        · rintro i H8 hi ⟨s8, ks, eE, lk, hk⟩
          have hi : i < R.length := by
            rw [List.length_map, Int.toNat_natCast] at hi
            exact hi
          have gx := List.getElem?_eq_getElem hi
          generalize R[i] = x at gx
          have gv : (R.map fun x => V.ref x.1.t)[i]? = some (V.ref x.1.t) := get_map _ gx
          have hR8 := hR7.same s8
          have hx := hR8.at_.it x (List.mem_of_getElem? gx)
          have ep8 := s8 _ _ ep7
          rw [show (0 : Int) + (i : Int) = ((i : Nat) : Int) from Int.zero_add _]
          refine ⟨rfl, ?_⟩
          refine ⟨_, rfl, _, rfl, _, rfl, r, _, _, _, rfl, rfl, SqL.of hR8.at_.li, atI_nat gv, x.1.t, _, _, _, rfl, rfl, SqT.of hx.t, atI_nat (j := 0) rfl, x.1.pa, _, rfl, .inr (SqT.of hx.p), _, rfl, ?_⟩
          rw [strV_len]
          refine cut_tup ep8 fun H9 rr s9 e9 => ?_
          have hx9 := hx.same s9
          have hR9 := hR8.same s9
          refine ⟨_, rfl, _, rfl, r, _, _, _, rfl, rfl, SqL.of hR9.at_.li, atI_nat gv, x.1.t, _, _, _, rfl, rfl, SqT.of hx9.t, atI_nat (j := 0) rfl, eq_dat (dp_path (SqT.of e9)) (dp_path (SqT.of hx9.p)) (by decide) ⟨_, rfl, ite2 (fun h => ?_) (fun _ => ⟨same_trans s8 s9, ks, s9 _ _ eE, by omega, hk⟩)⟩⟩
          have h := sg_inj.mp (of_decide_eq_true h)
          refine ⟨_, rfl, _, s9 _ _ eE, by rw [List.length_map]; omega, fun bb o e => ?_, ks ++ [i], ?_, by rw [List.length_append]; exact Nat.succ_le_succ lk, fun m hm => ?_⟩
          · rw [upd_ne (ne_of_none e nE)]
            exact same_trans s8 s9 _ _ e
          · rw [upd_same, List.map_append]
            rfl
          · rcases List.mem_append.mp hm with hm | hm
            · exact hk m hm
            · rw [List.mem_singleton.mp hm]
              exact ⟨x, gx, decide_eq_true h⟩
        rintro H8 ⟨s8, ks, eE, lk, hk⟩
        have hR8 := hR7.same s8
        have ep8 := s8 _ _ ep7
        have lk : ks.length ≤ 1000 := by
          rw [List.length_map, Int.toNat_natCast] at lk
          omega
        refine ⟨_, rfl, E, rfl, ⟨_, SqL.of eE⟩, fun E2 nE2 => ?_⟩
        refine lc_list (xs := ks.map fun m : Nat => V.int (m : Int)) (fun i H' => Same H8 H' ∧ H' E2 = some (.lst [])) ⟨same_new nE2, upd_same⟩ ?_ ?_ ?_
        · rintro i H' _ ⟨s9, _⟩
          exact SqL.of (s9 _ _ eE)
        · rintro i v H9 hv ⟨s9, eE2⟩
          obtain ⟨m, gm, rfl⟩ := map_get hv
          obtain ⟨x, gx, hx2⟩ := hk m (List.mem_of_getElem? gm)
          have gv : (R.map fun x => V.ref x.1.t)[m]? = some (V.ref x.1.t) := get_map _ gx
          have hR9 := hR8.same s9
          have hx := hR9.at_.it x (List.mem_of_getElem? gx)
          have less := bs m x (List.getElem?_eq_some_iff.mp gx).1 gx hx2
          refine ⟨rfl, ?_⟩
          refine ⟨_, rfl, _, rfl, r, _, _, _, rfl, rfl, SqL.of hR9.at_.li, atI_nat gv, x.1.t, _, _, _, rfl, rfl, SqT.of hx.t, atI_nat (j := 0) rfl, x.1.pa, _, rfl, .inr (SqT.of hx.p), _, rfl, by show 2 ≤ sizeLine; omega, fun t1 nt1 => ?_⟩
          rw [strV_len]
          have hR10 := hR9.same (same_new (o := .tup [.int (x.2.pre.length : Nat), .int (m : Int)]) nt1)
          have hy := hR10.at_.it y (List.mem_of_getElem? gb)
          refine ⟨_, rfl, _, rfl, r, _, _, _, rfl, rfl, SqL.of hR10.at_.li, atI_nat gy, y.1.t, _, _, _, rfl, rfl, SqT.of hy.t, atI_nat (j := 0) rfl, y.1.pa, _, rfl, .inr (SqT.of hy.p), _, rfl, by show 2 ≤ sizeLine; omega, fun t2 nt2 => ?_⟩
          rw [strV_len]
          refine ⟨Datum.toD (((x.2.pre.length : Nat) : Int), (m : Int)), Datum.toD (((y.2.pre.length : Nat) : Int), (b : Int)), .tup (SqT.of (same_new nt2 _ _ upd_same)) (.cons (.int _) (.cons (.int _) .nil)), .tup (SqT.of upd_same) (.cons (.int _) (.cons (.int _) .nil)), PySem.W.DatumOrd.alike _ _, PySem.W.DatumOrd.notNone _, Nat.le_trans (Datum.depth_le _) (by decide), ?_⟩
          rw [PySem.W.DatumOrd.lt_eq]
          refine ⟨_, rfl, ite2 (fun h => ?_) (fun _ => ⟨same_trans s9 (same_trans (same_new nt1) (same_new nt2)), same_new nt2 _ _ (same_new nt1 _ _ eE2)⟩)⟩
          exfalso
          have h2 : (if ((y.2.pre.length : Nat) : Int) = ((x.2.pre.length : Nat) : Int) then decide ((b : Int) < (m : Int)) else decide (((y.2.pre.length : Nat) : Int) < ((x.2.pre.length : Nat) : Int))) = true := h
          rw [lb] at less
          split at h2
          · have := of_decide_eq_true h2
            omega
          · have := of_decide_eq_true h2
            omega
        rintro H9 ⟨s9, eE2⟩
        have hR9 := hR8.same s9
        have ep9 := s9 _ _ ep8
        have hy := hR9.at_.it y (List.mem_of_getElem? gb)
        have tk : ps.take y.2.pre.length = y.2.pre := of_decide_eq_true by_
        -- the third test
        refine or_dec (p := False) (q := False) (fun R' k => ⟨_, rfl, _, rfl, _, rfl, r, _, _, _, rfl, rfl, SqL.of hR9.at_.li, atI_nat gy, y.1.t, _, _, _, rfl, rfl, SqT.of hy.t, atI_nat (j := 0) rfl, y.1.pa, _, rfl, .inr (SqT.of hy.p), _, rfl, ?_⟩)
          (fun _ H10 s10 R' k => ⟨_, rfl, by show 0 ≤ sizeLine; omega, fun z nz => ne_dat (a := ([] : List Int)) (b := []) (.lst (SqL.of (same_new nz _ _ (s10 _ _ eE2))) .nil) (.lst (SqL.of upd_same) .nil) (by decide) ⟨_, rfl, to_dec (by simp) (k _ (same_new nz))⟩⟩) fun H10 s10 => ite2 (fun h => absurd (of_decide_eq_true h) (by simp)) (fun _ => ?_)
        · rw [strV_len]
          refine cut_tup ep9 fun H10 rr s10 e10 => ?_
          have hR10 := hR9.same s10
          have hy10 := hy.same s10
          rw [tk] at e10
          exact ⟨_, rfl, _, rfl, r, _, _, _, rfl, rfl, SqL.of hR10.at_.li, atI_nat gy, y.1.t, _, _, _, rfl, rfl, SqT.of hy10.t, atI_nat (j := 0) rfl, ne_dat (dp_path (SqT.of e10)) (dp_path (SqT.of hy10.p)) (by decide) ⟨_, rfl, to_dec (by simp) (k _ s10)⟩⟩
        have l27 := (((l26.same s7).same s8).same s9).same s10
        have hR7 := hR9.same s10
        have ep7 := s10 _ _ ep9
        refine ⟨_, rfl, p, c, rfl, l27.st, fun H8 qa qs dr8 nqa hqs eqa => ?_⟩
        have k8 := l27.self.dr dr8
        have l28 := l27.trans k8
        have hR8 := l27.rules st1 k8 hR7
        have ep8 := l27.tup k8 ep7
        refine ⟨_, rfl, p, c, 3, rfl, by decide, l28.st, fun H9 m2 _ lm2 st9 d9 => ⟨_, rfl, ?_⟩⟩
        have k9 := l28.self.dr ((Dr.refl l28.st).drawn st9 d9)
        have l29 := l28.trans k9
        have hR9 := l28.rules st1 k9 hR8
        have ep9 := l28.tup k9 ep8
        have eqa9 := l28.tup k9 eqa
        refine cut_tup eqa9 fun H10 oa s10 eo => ?_
        have l30 := l29.same s10
        have hR10 := hR9.same s10
        have ep10 := s10 _ _ ep9
        refine ⟨_, rfl, _, rfl, oa, pa, qs.take m2, ps, rfl, eo, ep10, fun H11 s11 => ⟨_, rfl, _, rfl, _, rfl, oa, _, rfl, .inr (SqT.of (s11 _ _ eo)), _, rfl, ?_⟩⟩
        rw [strV_len]
        refine cut_tup (s11 _ _ ep10) fun H12 oc s12 ec => ⟨_, rfl, eq_dat (dp_path (SqT.of ec)) (dp_path (SqT.of (s12 _ _ (s11 _ _ eo)))) (by decide) ⟨_, rfl, rfl, _, rfl, ite2 (fun h => ?_) (fun _ => ?_)⟩⟩
        · have eb : decide ((⟨(ps.take (qs.take m2).length).map Sg⟩ : Tup Str) = ⟨(qs.take m2).map Sg⟩) = begB (qs.take m2) ps := decide_eq_decide.mpr sg_inj
          rw [eb] at h
          exact absurd h (by simp)
        have l32 := (l30.same s11).same s12
        refine ⟨_, rfl, p, c, rfl, l32.st, fun H13 x dr13 lx => ?_⟩
        have l33 := l32.dr dr13
        refine ⟨_, rfl, x, rfl, by omega, l33.g1, l33.g2, neT, fun H14 v t14 hv => ⟨_, rfl, x, rfl, by omega, fun H15 v' s15 hv' => ?_⟩⟩
        have l34 := l33.tb t14
        have l35 := l34.same s15
        cases hp : parseL (tl x) with
        | none =>
          rw [hp] at hv hv'
          obtain rfl : v = .non := hv
          obtain rfl : v' = .non := hv'
          refine ⟨.none, .none, .non, .non, rfl, rfl, by decide, ?_⟩
          rw [PySem.SeqAt.eqv_refl_plain .none rfl]
          exact ⟨_, rfl, ite2 (fun h => absurd h (by simp)) (fun _ => ⟨_, _, _, _, _, _, _, rfl, l35⟩)⟩
        | some pq =>
          rw [hp] at hv hv'
          obtain ⟨va, rfl, ev⟩ := hv
          obtain ⟨vb, rfl, ew⟩ := hv'
          exact ne_dat (dp_path (SqT.of (s15 _ _ ev))) (dp_path (SqT.of ew)) (by decide) ⟨_, rfl, ite2 (fun h => absurd h (by simp)) (fun _ => ⟨_, _, _, _, _, _, _, rfl, l35⟩)⟩
    · rintro σ H3 ⟨y4, y5, y6, y7, y8, y9, y10, rfl, l3⟩
      have hR3 := l2.rules st1 l3 hR
      refine ⟨_, rfl, r, rulesD R, rfl, dp_rules hR3.at_, F1, F2, F3, F4, ⟨_, rfl, rfl, ?_⟩⟩
      rw [decide_eq_true rfl]
      exact q _
end
end K51
namespace K51
open PySem PySem.Spec PyProof.Rows L2 TR QR
theorem all_mk {l : PySem.W.OpenLaw} {q : Program} {w : World} {K : PySem.W.Frag} {h : Heap} {mg : Str → Option Value} {fa : Addr} (X : K.In h) (G : h.Ns mainGlobals mg) (hfa : mg "law" = some (.ref fa)) (tabs : GX.AllTabs q K mg h) (hrecT1 : ((recsOf q).any fun e => e.name == ("is_word" : Str)) = true) (hrecT2 : ((recsOf q).any fun e => e.name == ("is_path" : Str)) = true)
    {fS fT fLL fLR fLP fBE fRA fLX fIW fIP fPP fPD fSH fLA fLT fLAW : Addr} {odS anS odT anT odLL anLL odLR anLR odLP anLP odBE anBE odRA anRA odLX anLX odIW anIW odIP anIP odPP anPP odPD anPD odSH anSH odLA anLA odLT anLT odLAW anLAW : Option Addr} {slS slT slLL slLR slLP slBE slRA slLX slIW slIP slPP slPD slSH slLA slLT slLAW : Array (Option Value)}
    {ocS kVS dcS pmS ctS cdS ocT kVT dcT pmT ctT cdT ocLL kVLL dcLL pmLL ctLL cdLL ocLR kVLR dcLR pmLR ctLR cdLR ocLP kVLP dcLP pmLP ctLP cdLP ocBE kVBE dcBE pmBE ctBE cdBE ocRA kVRA dcRA pmRA ctRA cdRA ocLX kVLX dcLX pmLX ctLX cdLX ocIW kVIW dcIW pmIW ctIW ocIP kVIP dcIP pmIP ctIP ocPP kVPP dcPP pmPP ctPP cdPP ocPD kVPD dcPD pmPD ctPD cdPD ocSH kVSH dcSH pmSH ctSH cdSH ocLA kVLA dcLA pmLA ctLA cdLA ocLT kVLT dcLT pmLT ctLT cdLT ocLAW kVLAW dcLAW pmLAW ctLAW cdLAW : Value}
    {cIW T1 cIP T2 : Addr} {eIW eIP : Value} {ddIW ddIP : Option Addr} {vsIW vsIP : Array Value} {ssIW ssIP : Array (Option Value)}
    {kLE kDI : Tok}
    (aS : PySem.W.nsIn K mainGlobals "_law_state" = some (some (.ref fS)))
    (lS : K.lookup fS = some ⟨ocS, odS, .func (PySem.W.fnOf "_law_state" "_law_state" (defArgs sState) (defBody sState) (defScope sState) .none kVS dcS pmS anS cdS ctS), slS⟩)
    (cS1 : PySem.W.codeIn K cdS "_law_state" = true) (kS1 : PySem.W.keepIn K (.ref fS) = true)
    (aT : PySem.W.nsIn K mainGlobals "_law_take" = some (some (.ref fT)))
    (lT : K.lookup fT = some ⟨ocT, odT, .func (PySem.W.fnOf "_law_take" "_law_take" (defArgs sT) (defBody sT) (defScope sT) .none kVT dcT pmT anT cdT ctT), slT⟩)
    (cT1 : PySem.W.codeIn K cdT "_law_take" = true) (kT1 : PySem.W.keepIn K (.ref fT) = true)
    (aLL : PySem.W.nsIn K mainGlobals "_law_label" = some (some (.ref fLL)))
    (lLL : K.lookup fLL = some ⟨ocLL, odLL, .func (PySem.W.fnOf "_law_label" "_law_label" (defArgs sLL) (defBody sLL) (defScope sLL) .none kVLL dcLL pmLL anLL cdLL ctLL), slLL⟩)
    (cLL1 : PySem.W.codeIn K cdLL "_law_label" = true) (kLL1 : PySem.W.keepIn K (.ref fLL) = true)
    (aLR : PySem.W.nsIn K mainGlobals "_law_rules" = some (some (.ref fLR)))
    (lLR : K.lookup fLR = some ⟨ocLR, odLR, .func (PySem.W.fnOf "_law_rules" "_law_rules" (defArgs sLR) (defBody sLR) (defScope sLR) .none kVLR dcLR pmLR anLR cdLR ctLR), slLR⟩)
    (cLR1 : PySem.W.codeIn K cdLR "_law_rules" = true) (kLR1 : PySem.W.keepIn K (.ref fLR) = true)
    (aLP : PySem.W.nsIn K mainGlobals "_law_path" = some (some (.ref fLP)))
    (lLP : K.lookup fLP = some ⟨ocLP, odLP, .func (PySem.W.fnOf "_law_path" "_law_path" (defArgs sLP) (defBody sLP) (defScope sLP) .none kVLP dcLP pmLP anLP cdLP ctLP), slLP⟩)
    (cLP1 : PySem.W.codeIn K cdLP "_law_path" = true) (kLP1 : PySem.W.keepIn K (.ref fLP) = true)
    (aBE : PySem.W.nsIn K mainGlobals "begins" = some (some (.ref fBE)))
    (lBE : K.lookup fBE = some ⟨ocBE, odBE, .func (PySem.W.fnOf "begins" "begins" (defArgs sBE) (defBody sBE) (defScope sBE) .none kVBE dcBE pmBE anBE cdBE ctBE), slBE⟩)
    (cBE1 : PySem.W.codeIn K cdBE "begins" = true) (kBE1 : PySem.W.keepIn K (.ref fBE) = true)
    (aRA : PySem.W.nsIn K mainGlobals "rule_at" = some (some (.ref fRA)))
    (lRA : K.lookup fRA = some ⟨ocRA, odRA, .func (PySem.W.fnOf "rule_at" "rule_at" (defArgs sRA) (defBody sRA) (defScope sRA) .none kVRA dcRA pmRA anRA cdRA ctRA), slRA⟩)
    (cRA1 : PySem.W.codeIn K cdRA "rule_at" = true) (kRA1 : PySem.W.keepIn K (.ref fRA) = true)
    (aLX : PySem.W.nsIn K mainGlobals "_law_text" = some (some (.ref fLX)))
    (lLX : K.lookup fLX = some ⟨ocLX, odLX, .func (PySem.W.fnOf "_law_text" "_law_text" (defArgs sLX) (defBody sLX) (defScope sLX) .none kVLX dcLX pmLX anLX cdLX ctLX), slLX⟩)
    (cLX1 : PySem.W.codeIn K cdLX "_law_text" = true) (kLX1 : PySem.W.keepIn K (.ref fLX) = true)
    (aIW : PySem.W.nsIn K mainGlobals "is_word" = some (some (.ref fIW)))
    (lIW : K.lookup fIW = some ⟨ocIW, odIW, .func (PySem.W.fnOf "is_word" "is_word" (defArgs sIW) (defBody sIW) (defScope sIW) .none kVIW dcIW pmIW anIW (.ref cIW) ctIW), slIW⟩)
    (cIW1 : PySem.W.codeIn K (.ref cIW) "is_word" = true) (kIW1 : PySem.W.keepIn K (.ref fIW) = true)
    (aIP : PySem.W.nsIn K mainGlobals "is_path" = some (some (.ref fIP)))
    (lIP : K.lookup fIP = some ⟨ocIP, odIP, .func (PySem.W.fnOf "is_path" "is_path" (defArgs sIP) (defBody sIP) (defScope sIP) .none kVIP dcIP pmIP anIP (.ref cIP) ctIP), slIP⟩)
    (cIP1 : PySem.W.codeIn K (.ref cIP) "is_path" = true) (kIP1 : PySem.W.keepIn K (.ref fIP) = true)
    (aPP : PySem.W.nsIn K mainGlobals "parse_path" = some (some (.ref fPP)))
    (lPP : K.lookup fPP = some ⟨ocPP, odPP, .func (PySem.W.fnOf "parse_path" "parse_path" (defArgs sPP) (defBody sPP) (defScope sPP) .none kVPP dcPP pmPP anPP cdPP ctPP), slPP⟩)
    (cPP1 : PySem.W.codeIn K cdPP "parse_path" = true) (kPP1 : PySem.W.keepIn K (.ref fPP) = true)
    (aPD : PySem.W.nsIn K mainGlobals "_law_parsed" = some (some (.ref fPD)))
    (lPD : K.lookup fPD = some ⟨ocPD, odPD, .func (PySem.W.fnOf "_law_parsed" "_law_parsed" (defArgs sPD) (defBody sPD) (defScope sPD) .none kVPD dcPD pmPD anPD cdPD ctPD), slPD⟩)
    (cPD1 : PySem.W.codeIn K cdPD "_law_parsed" = true) (kPD1 : PySem.W.keepIn K (.ref fPD) = true)
    (aSH : PySem.W.nsIn K mainGlobals "show_path" = some (some (.ref fSH)))
    (lSH : K.lookup fSH = some ⟨ocSH, odSH, .func (PySem.W.fnOf "show_path" "show_path" (defArgs sSH) (defBody sSH) (defScope sSH) .none kVSH dcSH pmSH anSH cdSH ctSH), slSH⟩)
    (cSH1 : PySem.W.codeIn K cdSH "show_path" = true) (kSH1 : PySem.W.keepIn K (.ref fSH) = true)
    (aLA : PySem.W.nsIn K mainGlobals "label_of" = some (some (.ref fLA)))
    (lLA : K.lookup fLA = some ⟨ocLA, odLA, .func (PySem.W.fnOf "label_of" "label_of" (defArgs sLA) (defBody sLA) (defScope sLA) .none kVLA dcLA pmLA anLA cdLA ctLA), slLA⟩)
    (cLA1 : PySem.W.codeIn K cdLA "label_of" = true) (kLA1 : PySem.W.keepIn K (.ref fLA) = true)
    (aLT : PySem.W.nsIn K mainGlobals "_law_label_at" = some (some (.ref fLT)))
    (lLT : K.lookup fLT = some ⟨ocLT, odLT, .func (PySem.W.fnOf "_law_label_at" "_law_label_at" (defArgs sLT) (defBody sLT) (defScope sLT) .none kVLT dcLT pmLT anLT cdLT ctLT), slLT⟩)
    (cLT1 : PySem.W.codeIn K cdLT "_law_label_at" = true) (kLT1 : PySem.W.keepIn K (.ref fLT) = true)
    (aLAW : PySem.W.nsIn K mainGlobals "law" = some (some (.ref fLAW)))
    (lLAW : K.lookup fLAW = some ⟨ocLAW, odLAW, .func (PySem.W.fnOf "law" "law" (defArgs sLaw) (defBody sLaw) (defScope sLaw) .none kVLAW dcLAW pmLAW anLAW cdLAW ctLAW), slLAW⟩)
    (cLAW1 : PySem.W.codeIn K cdLAW "law" = true) (kLAW1 : PySem.W.keepIn K (.ref fLAW) = true)
    (tIWc : K.lookup cIW = some ⟨eIW, ddIW, .fields vsIW, ssIW⟩) (tIWv : vsIW[11]? = some (.ref T1)) (tIWh : PySem.W.codeHdIn K cIW T1 = true) (tIWn : K.lookup T1 = none)
    (tIPc : K.lookup cIP = some ⟨eIP, ddIP, .fields vsIP, ssIP⟩) (tIPv : vsIP[11]? = some (.ref T2)) (tIPh : PySem.W.codeHdIn K cIP T2 = true) (tIPn : K.lookup T2 = none)
    (neT1T2 : T1 ≠ T2)
    (gLE0 : PySem.W.nsIn K mainGlobals "LETTERS" = some (some (.str "abcdefghijklmnopqrstuvwxyz" kLE)))
    (gDI0 : PySem.W.nsIn K mainGlobals "DIGITS" = some (some (.str "0123456789" kDI)))
    {PU PE : Addr} {dPU dPE : Option Addr} {nPU nPE : Nat} {sPU sPE : Array (Option Value)} {kP1 kP2 : Tok} (gPU0 : PySem.W.nsIn K mainGlobals "PUBLIC" = some (some (.ref PU))) (lPU : K.lookup PU = some ⟨.type "tuple", dPU, .seq #[.str "label" kP1, .int 0 kP2, .ref PE] nPU, sPU⟩) (lPE : K.lookup PE = some ⟨.type "tuple", dPE, .seq #[] nPE, sPE⟩)
    (z_len : PySem.W.nsIn K mainGlobals "len" = some none)
    (z_range : PySem.W.nsIn K mainGlobals "range" = some none)
    (z_int : PySem.W.nsIn K mainGlobals "int" = some none)
    (z_abs : PySem.W.nsIn K mainGlobals "abs" = some none)
    (z_isinstance : PySem.W.nsIn K mainGlobals "isinstance" = some none)
    (z_tuple : PySem.W.nsIn K mainGlobals "tuple" = some none)
    (z_str : PySem.W.nsIn K mainGlobals "str" = some none)
    (z_enumerate : PySem.W.nsIn K mainGlobals "enumerate" = some none)
    (z_all : PySem.W.nsIn K mainGlobals "all" = some none)
    (z_repr : PySem.W.nsIn K mainGlobals "repr" = some none)
    : GX.LawC l w K 63 "script" mg fa h := by
  have e := hfa.symm.trans (PySem.W.mg_of X G aLAW)
  cases e
  have FS := fun_mk (st := sState) lS cS1 kS1
  have bS := FS.binds (ps := ["script"]) fun _ _ _ _ _ _ us hl => match us, hl with | [_], _ => rfl
  have gS := PySem.W.mg_of X G aS
  have FT := fun_mk (st := sT) lT cT1 kT1
  have bT := FT.binds (ps := ["state", "most"]) fun _ _ _ _ _ _ us hl => match us, hl with | [_, _], _ => rfl
  have gT := PySem.W.mg_of X G aT
  have FLL := fun_mk (st := sLL) lLL cLL1 kLL1
  have bLL := FLL.binds (ps := ["state"]) fun _ _ _ _ _ _ us hl => match us, hl with | [_], _ => rfl
  have gLL := PySem.W.mg_of X G aLL
  have FLR := fun_mk (st := sLR) lLR cLR1 kLR1
  have bLR := FLR.binds (ps := ["state", "count"]) fun _ _ _ _ _ _ us hl => match us, hl with | [_, _], _ => rfl
  have gLR := PySem.W.mg_of X G aLR
  have FLP := fun_mk (st := sLP) lLP cLP1 kLP1
  have bLP := FLP.binds (ps := ["state"]) fun _ _ _ _ _ _ us hl => match us, hl with | [_], _ => rfl
  have gLP := PySem.W.mg_of X G aLP
  have FBE := fun_mk (st := sBE) lBE cBE1 kBE1
  have bBE := FBE.binds (ps := ["prefix", "path"]) fun _ _ _ _ _ _ us hl => match us, hl with | [_, _], _ => rfl
  have gBE := PySem.W.mg_of X G aBE
  have FRA := fun_mk (st := sRA) lRA cRA1 kRA1
  have bRA := FRA.binds (ps := ["rules", "path"]) fun _ _ _ _ _ _ us hl => match us, hl with | [_, _], _ => rfl
  have gRA := PySem.W.mg_of X G aRA
  have FLX := fun_mk (st := sLX) lLX cLX1 kLX1
  have bLX := FLX.binds (ps := ["state"]) fun _ _ _ _ _ _ us hl => match us, hl with | [_], _ => rfl
  have gLX := PySem.W.mg_of X G aLX
  have bIW : Binds K (PySem.W.fnOf "is_word" "is_word" (defArgs sIW) (defBody sIW) (defScope sIW) .none kVIW dcIW pmIW anIW (.ref cIW) ctIW) ["text", "signs", "most"] [] := .all fun us hl => match us, hl with | [_, _, _], _ => rfl
  have gIW := PySem.W.mg_of X G aIW
  have bIP : Binds K (PySem.W.fnOf "is_path" "is_path" (defArgs sIP) (defBody sIP) (defScope sIP) .none kVIP dcIP pmIP anIP (.ref cIP) ctIP) ["path"] [] := .all fun us hl => match us, hl with | [_], _ => rfl
  have gIP := PySem.W.mg_of X G aIP
  have FPP := fun_mk (st := sPP) lPP cPP1 kPP1
  have bPP := FPP.binds (ps := ["text"]) fun _ _ _ _ _ _ us hl => match us, hl with | [_], _ => rfl
  have gPP := PySem.W.mg_of X G aPP
  have FPD := fun_mk (st := sPD) lPD cPD1 kPD1
  have bPD := FPD.binds (ps := ["text"]) fun _ _ _ _ _ _ us hl => match us, hl with | [_], _ => rfl
  have gPD := PySem.W.mg_of X G aPD
  have FSH := fun_mk (st := sSH) lSH cSH1 kSH1
  have bSH := FSH.binds (ps := ["path"]) fun _ _ _ _ _ _ us hl => match us, hl with | [_], _ => rfl
  have gSH := PySem.W.mg_of X G aSH
  have FLA := fun_mk (st := sLA) lLA cLA1 kLA1
  have bLA := FLA.binds (ps := ["rules", "path"]) fun _ _ _ _ _ _ us hl => match us, hl with | [_, _], _ => rfl
  have gLA := PySem.W.mg_of X G aLA
  have FLT := fun_mk (st := sLT) lLT cLT1 kLT1
  have bLT := FLT.binds (ps := ["rules", "path"]) fun _ _ _ _ _ _ us hl => match us, hl with | [_, _], _ => rfl
  have gLT := PySem.W.mg_of X G aLT
  have gLAW := PySem.W.mg_of X G aLAW
  have gLE := PySem.W.mg_of X G gLE0
  have gDI := PySem.W.mg_of X G gDI0
  have gPU := PySem.W.mg_of X G gPU0
  have m_len := PySem.W.mg_none_of X G z_len
  have m_range := PySem.W.mg_none_of X G z_range
  have m_int := PySem.W.mg_none_of X G z_int
  have m_abs := PySem.W.mg_none_of X G z_abs
  have m_isinstance := PySem.W.mg_none_of X G z_isinstance
  have m_tuple := PySem.W.mg_none_of X G z_tuple
  have m_str := PySem.W.mg_none_of X G z_str
  have m_enumerate := PySem.W.mg_none_of X G z_enumerate
  have m_all := PySem.W.mg_none_of X G z_all
  have m_repr := PySem.W.mg_none_of X G z_repr
  have emIW : h.get? T1 = some { cls := .none, data := .fields #[] } := tabs "is_word" fIW hrecT1 gIW cIW T1 _ _ _ _ _ _ lIW rfl rfl tIWc tIWv
  have emIP : h.get? T2 = some { cls := .none, data := .fields #[] } := tabs "is_path" fIP hrecT2 gIP cIP T2 _ _ _ _ _ _ lIP rfl rfl tIPc tIPv
  have all_ : ∀ {P : Addr × Addr → Prop}, P (cIW, T1) → P (cIP, T2) →  (∀ p ∈ ([(cIW, T1), (cIP, T2)] : List (Addr × Addr)), P p) := fun xIW xIP p hp => by
    simp only [List.mem_cons, List.not_mem_nil, or_false] at hp
    rcases hp with rfl | rfl
    · exact xIW
    · exact xIP
  refine ⟨PySem.W.fnOf "law" "law" (defArgs sLaw) (defBody sLaw) (defScope sLaw) .none kVLAW dcLAW pmLAW anLAW cdLAW ctLAW, [(cIW, T1), (cIP, T2)], spLaw K T1 T2, all_ emIW emIP, all_ tIWn tIPn, all_ (PySem.W.codeHd_of_K X tIWh) (PySem.W.codeHd_of_K X tIPh), fun s v => .of_eq rfl, ?_, ?_⟩
  · intro H a ns hl hbits hH hS
    have qIW := hH (cIW, T1) (by simp)
    have qIP := hH (cIP, T2) (by simp)
    exact ⟨a, ns, rfl, hS, hl, ⟨#[], qIW, trivial⟩, ⟨#[], qIP, trivial⟩, neT1T2, fun _ => rfl⟩
  · intro base _ _ hT
    have TBIW := hT (cIW, T1) (by simp)
    have TBIP := hT (cIP, T2) (by simp)
    have GS := ok_state (P := l.prog) (w := w) (mg := mg) (base := base) FS m_len m_abs
    have GT := ok_T (P := l.prog) (w := w) (mg := mg) (base := base) FT m_len m_int
    have GLL := ok_LL (P := l.prog) (w := w) (mg := mg) (base := base) FLL GT bT gT kT1
    have GLR := ok_LR (P := l.prog) (w := w) (mg := mg) (base := base) FLR GLL bLL gLL kLL1 GT bT gT kT1 m_range
    have GLP := ok_LP (P := l.prog) (w := w) (mg := mg) (base := base) FLP GT bT gT kT1
    have GBE := ok_BE (P := l.prog) (w := w) (mg := mg) (base := base) FBE m_len
    have GRA := ok_RA (P := l.prog) (w := w) (mg := mg) (base := base) FRA GBE bBE gBE kBE1 m_len m_enumerate
    have GLX := ok_LX (P := l.prog) (w := w) (mg := mg) (base := base) FLX GT bT gT kT1 m_range
    have GIW := ok_IW (P := l.prog) (w := w) (mg := mg) (base := base) lIW cIW1 TBIW m_len m_all
    have GIP := ok_IP (P := l.prog) (w := w) (mg := mg) (base := base) (T1 := T1) lIP cIP1 TBIP GIW bIW gIW kIW1 gLE gDI m_isinstance m_tuple m_len m_all m_str
    have GPP := ok_PP (P := l.prog) (w := w) (mg := mg) (base := base) (T1 := T1) (T2 := T2) FPP GIP bIP gIP kIP1 m_tuple
    have GPD := ok_PD (P := l.prog) (w := w) (mg := mg) (base := base) FPD m_len m_tuple
    have GSH := ok_SH (P := l.prog) (w := w) (mg := mg) (base := base) FSH
    have GLA := ok_LA (P := l.prog) (w := w) (mg := mg) (base := base) (PU := PU) FLA GRA bRA gRA kRA1 gPU
    have GLT := ok_LT (P := l.prog) (w := w) (mg := mg) (base := base) FLT m_len
    exact ok_LAW (PU := PU) (PE := PE) lLAW cLAW1 (hPU_ lPU) (hPE_ lPE) GS bS gS kS1 GLR bLR gLR kLR1 GLP bLP gLP kLP1 GSH bSH gSH kSH1 GPP bPP gPP kPP1 GLA bLA gLA kLA1 GLT bLT gLT kLT1 GRA bRA gRA kRA1 GT bT gT kT1 GBE bBE gBE kBE1 GLX bLX gLX kLX1 GPD bPD gPD kPD1 m_len m_range m_repr
end K51
open PySem PySem.W PyProof.Rows
set_option maxRecDepth 100000 in
set_option maxHeartbeats 0 in
theorem PySem.Challenge.cw_quiltward_k51_paths_and_rules_holds : PySem.Challenge.rw_quiltward_k51_paths_and_rules.Holds := by
  w_on; o_law; k_head; (case hw => w_witness2)
  k_fill
  refine GX.walk_tabsC (l := PySem.Challenge.rw_quiltward_k51_paths_and_rules) (n := 63) (x := "script") rfl (by decide) rfl (fun w h Y => PySem.W.kIn_of Y) ?F
  case F =>
    intro w mg fa h Y KX G hmg tabs
    refine' K51.all_mk KX G hmg tabs ?hrecT1 ?hrecT2 ?aS ?lS ?cS1 ?kS1 ?aT ?lT ?cT1 ?kT1 ?aLL ?lLL ?cLL1 ?kLL1 ?aLR ?lLR ?cLR1 ?kLR1 ?aLP ?lLP ?cLP1 ?kLP1 ?aBE ?lBE ?cBE1 ?kBE1 ?aRA ?lRA ?cRA1 ?kRA1 ?aLX ?lLX ?cLX1 ?kLX1 ?aIW ?lIW ?cIW1 ?kIW1 ?aIP ?lIP ?cIP1 ?kIP1 ?aPP ?lPP ?cPP1 ?kPP1 ?aPD ?lPD ?cPD1 ?kPD1 ?aSH ?lSH ?cSH1 ?kSH1 ?aLA ?lLA ?cLA1 ?kLA1 ?aLT ?lLT ?cLT1 ?kLT1 ?aLAW ?lLAW ?cLAW1 ?kLAW1 ?tIWc ?tIWv ?tIWh ?tIWn ?tIPc ?tIPv ?tIPh ?tIPn ?neT1T2 ?gLE0 ?gDI0 ?gPU0 ?lPU ?lPE ?z_len ?z_range ?z_int ?z_abs ?z_isinstance ?z_tuple ?z_str ?z_enumerate ?z_all ?z_repr
    (case hrecT1 => decide +kernel)
    (case hrecT2 => decide +kernel)
    (case aS => k_is)
    (case lS => k_is)
    (case cS1 => k_is)
    (case kS1 => k_is)
    (case aT => k_is)
    (case lT => k_is)
    (case cT1 => k_is)
    (case kT1 => k_is)
    (case aLL => k_is)
    (case lLL => k_is)
    (case cLL1 => k_is)
    (case kLL1 => k_is)
    (case aLR => k_is)
    (case lLR => k_is)
    (case cLR1 => k_is)
    (case kLR1 => k_is)
    (case aLP => k_is)
    (case lLP => k_is)
    (case cLP1 => k_is)
    (case kLP1 => k_is)
    (case aBE => k_is)
    (case lBE => k_is)
    (case cBE1 => k_is)
    (case kBE1 => k_is)
    (case aRA => k_is)
    (case lRA => k_is)
    (case cRA1 => k_is)
    (case kRA1 => k_is)
    (case aLX => k_is)
    (case lLX => k_is)
    (case cLX1 => k_is)
    (case kLX1 => k_is)
    (case aIW => k_is)
    (case lIW => k_is)
    (case cIW1 => k_is)
    (case kIW1 => k_is)
    (case aIP => k_is)
    (case lIP => k_is)
    (case cIP1 => k_is)
    (case kIP1 => k_is)
    (case aPP => k_is)
    (case lPP => k_is)
    (case cPP1 => k_is)
    (case kPP1 => k_is)
    (case aPD => k_is)
    (case lPD => k_is)
    (case cPD1 => k_is)
    (case kPD1 => k_is)
    (case aSH => k_is)
    (case lSH => k_is)
    (case cSH1 => k_is)
    (case kSH1 => k_is)
    (case aLA => k_is)
    (case lLA => k_is)
    (case cLA1 => k_is)
    (case kLA1 => k_is)
    (case aLT => k_is)
    (case lLT => k_is)
    (case cLT1 => k_is)
    (case kLT1 => k_is)
    (case aLAW => k_is)
    (case lLAW => k_is)
    (case cLAW1 => k_is)
    (case kLAW1 => k_is)
    (case tIWc => k_is)
    (case tIWv => rfl)
    (case tIWh => first | rfl | kernel_rfl)
    (case tIWn => first | rfl | kernel_rfl)
    (case tIPc => k_is)
    (case tIPv => rfl)
    (case tIPh => first | rfl | kernel_rfl)
    (case tIPn => first | rfl | kernel_rfl)
    (case neT1T2 => first | decide | (intro z; cases z))
    (case gLE0 => k_is)
    (case gDI0 => k_is)
    (case gPU0 => k_is)
    (case lPU => k_is)
    (case lPE => k_is)
    (case z_len => k_is)
    (case z_range => k_is)
    (case z_int => k_is)
    (case z_abs => k_is)
    (case z_isinstance => k_is)
    (case z_tuple => k_is)
    (case z_str => k_is)
    (case z_enumerate => k_is)
    (case z_all => k_is)
    (case z_repr => k_is)
