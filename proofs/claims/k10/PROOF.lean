import PyProof.Rows.All
import Wide.All
import OpenK.AllK
import Wide.FinOn
import PySem.Challenge.RW_quiltward_k10_texts_and_lines
import HandS.ForSpec
import HandS.ForMost
import HandS.RevRange
import HandS.Style
import HandS.More
import HandS.TupLe
import HandS.StrMore
import HandS.IsInst
import HandS.Wide
import HandS.TupMul
import KE.DataEq
import KE.Datum
import KE.GoesEnum
import PyProof.Draws
import PyProof.EnumMake
import PyProof.StrOps2
import PyProof.StrLawsChain
import PyProof.StrLawsTight
import HandS.Walk
import PyProof.EqAt
import PyProof.EqKinds
import PyProof.TupleCall
import Open.SpecLaws
import KE.OsGo
import HandS.ExcIs
import KE.KExcIs
set_option Elab.async false
set_option linter.all false
set_option maxRecDepth 100000
set_option maxHeartbeats 4000000
/-! rules of my own over the hand layer: text * int, enumerate(text) -/
namespace TR
open PySem PySem.Spec PyProof.Rows L2
abbrev Sg (l : List Nat) : Str := ⟨l.toArray⟩
abbrev tl (s : Str) : List Nat := s.cps.toList
theorem sg_tl (s : Str) : Sg (tl s) = s := rfl
theorem ext_tl {a b : Str} (h : tl a = tl b) : a = b := by
  cases a
  cases b
  exact congrArg Str.mk (Array.toList_inj.mp h)
theorem len_tl (s : Str) : s.length = (tl s).length := rfl
/-! ### text * int -/
def repL (l : List Nat) (k : Int) : List Nat := (List.replicate k.toNat l).flatten
def rRepS : R2 := fun x y H Q => ∃ (s : Str) (k : Int), x = .str s ∧ y = .int k ∧ k ≤ 1000 ∧ -1000 ≤ k ∧ s.length ≤ 1000 ∧ Q (.str (Sg (repL (tl s) k))) H
theorem fold_cps (x : Array Nat) : ∀ (m : Nat) (b : Array Nat), ((List.replicate m x).foldl (· ++ ·) b).toList = b.toList ++ (List.replicate m x.toList).flatten
  | 0, b => by simp
  | m + 1, b => by
    rw [List.replicate_succ, List.foldl_cons, fold_cps x m, List.replicate_succ, List.flatten_cons, Array.toList_append, List.append_assoc]
theorem op_repS {X : Cx} : OpR X (binaryOp .Mult) rRepS := by
  intro pins s σ H x y v u Q I rx ry h
  obtain ⟨i, k, rfl, rfl, h1, h2, hz, q⟩ := h
  obtain ⟨t, rfl⟩ := rx
  obtain ⟨t', rfl⟩ := ry
  have hm : (i.length : Int) * k ≤ 1000000 := by
    by_cases kz : 0 ≤ k
    · have a1 : (i.length : Int) * k ≤ 1000 * k := Int.mul_le_mul_of_nonneg_right (by omega) kz
      omega
    · have a1 := Int.mul_nonneg (show (0 : Int) ≤ i.length by omega) (show (0 : Int) ≤ -k by omega)
      rw [Int.mul_neg] at a1
      omega
  refine P.mul_str (by
    rw [decide_eq_false (by omega : ¬ k < -(2 ^ 63 : Int)), decide_eq_false (by omega : ¬ k ≥ 2 ^ 63)]
    rfl) (fun hk _ => ?_) (fun hk _ => ?_) ?_
  · have := (Int.le_ediv_iff_mul_le (show 0 < k by omega)).mpr (show (i.length : Int) * k ≤ 2 ^ 63 - 1 by omega)
    omega
  · have e : i.length * k.toNat ≤ 1000000 := by
      have : ((i.length * k.toNat : Nat) : Int) = (i.length : Int) * k := by
        rw [Int.natCast_mul, Int.toNat_of_nonneg (by omega)]
      omega
    show decide (i.length * k.toNat > sizeLine) = false
    refine decide_eq_false ?_
    rw [sizeLine_eq]
    omega
  · have end_ : ∀ (z : Str), tl z = repL (tl i) k → V.str z = V.str (Sg (repL (tl i) k)) := fun z e => by rw [← e]
    by_cases h1 : k < 1
    · rw [if_pos h1]
      refine ⟨Nat.zero_le _, .str (Sg (repL (tl i) k)), H, I.tok _, ⟨s.toks, ?_⟩, q⟩
      have e : repL (tl i) k = [] := by
        unfold repL
        rw [show k.toNat = 0 by omega]
        rfl
      rw [e]
      rfl
    · rw [if_neg h1]
      cases hc : (k == 1 || i.length == 0)
      · rw [if_neg Bool.false_ne_true]
        have e := fold_cps i.cps k.toNat #[]
        rw [Array.toList_empty, List.nil_append] at e
        have e2 : (⟨(List.replicate k.toNat i.cps).foldl (· ++ ·) #[]⟩ : Str) = Sg (repL (tl i) k) := ext_tl e
        have lz : (repL (tl i) k).length ≤ sizeLine := by
          unfold repL
          rw [PyProof.Rows.lm_len_rep_flat, sizeLine_eq]
          have : ((k.toNat * (tl i).length : Nat) : Int) = (i.length : Int) * k := by
            rw [Int.natCast_mul, Int.toNat_of_nonneg (by omega), Int.mul_comm]
            rfl
          omega
        show (Made.str ⟨(List.replicate k.toNat i.cps).foldl (· ++ ·) #[]⟩).post _ _
        rw [e2]
        exact ⟨lz, .str (Sg (repL (tl i) k)), H, I.tok _, ⟨s.toks, rfl⟩, q⟩
      · rw [if_pos rfl]
        refine ⟨.str (Sg (repL (tl i) k)), H, I, ⟨t, ?_⟩, q⟩
        refine congrArg (Value.str · t) (ext_tl ?_)
        show tl i = repL (tl i) k
        unfold repL
        rcases Bool.or_eq_true_iff.mp hc with z | z
        · rw [beq_iff_eq.mp z]
          show tl i = [tl i].flatten
          simp
        · have z : (tl i) = [] := List.eq_nil_of_length_eq_zero (beq_iff_eq.mp z)
          rw [z]
          simp
/-! ### enumerate(text) -/
def Ites (x : Str) : It := ⟨fun i _ => i < x.cps.size, fun i H v H' => ∃ T c, v = .ref T ∧ H T = none ∧ H' = upd H T (.tup [.int (i : Nat), .str ⟨#[c]⟩]) ∧ x.cps[i]? = some c, fun i _ => i = x.cps.size⟩
theorem turn_enumS {P : Program} {w : World} {K : PySem.W.Frag} {elts : List Expr} {kk : Nat} {tpos : Pos} (x : Str) (t : Tok) (ty : String) (hty : ty = "str_ascii_iterator" ∨ ty = "str_iterator") (e it : Addr) :
    Turn P w K (.Tuple elts kk tpos) (Ites x) [e, it] e (fun i h => (∃ old, IsEnum h e it ((i : Nat) : Int) old) ∧ h.IsStrIter it ty x t i ∧ e ≠ it) where
  mem := by simp
  obj := fun i h st b hb => by
    obtain ⟨⟨old, he⟩, ⟨o, ho, hc, hd⟩, _⟩ := st
    have e' : b = e ∨ b = it := by simpa using hb
    rcases e' with z | z
    · rw [z]; exact ⟨_, he, fun v q => nomatch q⟩
    · rw [z]; exact ⟨o, ho, fun v q => by rw [hd] at q; cases q⟩
  keep := fun i h h' st k => let ⟨⟨old, he⟩, ⟨o, ho, r⟩, hne⟩ := st; ⟨⟨old, k e (by simp) _ he⟩, ⟨o, k it (by simp) o ho, r⟩, hne⟩
  item := by
    intro X hP hw hK hc i pins s σ H E I hf st hg
    subst hP hw hK
    obtain ⟨⟨old, he⟩, hit, hne⟩ := st
    have hel : e < s.heap.objs.size := Heap.lt_size he
    have hil : it < s.heap.objs.size := by obtain ⟨_, q, _⟩ := hit; exact Heap.lt_size q
    have D : Draws X.prog X.w X.A.in1 it [it] x.cps.size (fun i v => ∃ c u, x.cps[i]? = some c ∧ v = .str ⟨#[c]⟩ u) (fun i h => h.IsStrIter it ty x t i) := by
      rcases hty with z | z
      · rw [z]; exact Draws.strAscii (A := X.A.in1) (I.ok.hd hc) it x t
      · rw [z]; exact Draws.strWide (A := X.A.in1) (I.ok.hd hc) it x t
    refine wpAny_pyNext_enum_itemC D he hit hg hne (by simpa using hne) fun y h' tk hy ho hit' hT hsz hk => ?_
    obtain ⟨c, u, hcx, rfl⟩ := hy
    refine ⟨_, rfl, wpAny_letOwnedTupleGo_enum (s := { s with heap := h', toks := tk + 1 }) ho fun h'' he' sb => ?_⟩
    have hT2 : h''.get? s.heap.objs.size = some { cls := .type "tuple", data := .seq #[.int i tk, .str ⟨#[c]⟩ u] } := (sb.2 _ (Nat.ne_of_gt hel)).trans hT
    have new : ObjOk X.prog X.w (upd H s.heap.objs.size (.tup [.int (i : Nat), .str ⟨#[c]⟩])) h'' s.heap.objs.size (.tup [.int (i : Nat), .str ⟨#[c]⟩]) :=
      ⟨by show 2 ≤ sizeLine; decide, [.int i tk, .str ⟨#[c]⟩ u], .cons ⟨_, rfl⟩ (.cons ⟨_, rfl⟩ .nil), ⟨_, hT2, rfl, _, rfl⟩⟩
    have I1 : Inv X pins σ (upd H s.heap.objs.size (.tup [.int (i : Nat), .str ⟨#[c]⟩])) { s with heap := h'', toks := tk + 1 } :=
      I.turnedNew (ch := [e, it]) (fun b ob hb q => (sb.2 b (fun z => hb (by simp [z]))).trans (hk b ob (fun z => hb (by simp [z])) (fun z => hb (by simp [z])) q)) hf (Nat.le_refl _) new
    refine ⟨.ref s.heap.objs.size, _, I1, rfl, ⟨_, c, rfl, I.hok.fresh (Nat.le_refl _), rfl, hcx⟩, ⟨⟨.str ⟨#[c]⟩ u, ?_⟩, ?_, hne⟩, fun b hb => ?_⟩
    · have e1 : ((i + 1 : Nat) : Int) = (i : Int) + 1 := by omega
      rw [e1]; exact he'
    · obtain ⟨o, ho2, r⟩ := hit'
      exact ⟨o, (sb.2 it (Ne.symm hne)).trans ho2, r⟩
    · have hb' : b < s.heap.objs.size := by
        have e' : b = e ∨ b = it := by simpa using hb
        rcases e' with z | z
        · rw [z]; exact hel
        · rw [z]; exact hil
      rw [upd_ne (Nat.ne_of_lt hb')]
      exact (hf b hb).1
  done := by
    intro X hP hw hK hc i pins s σ H E I hf st hg
    subst hP hw hK
    obtain ⟨⟨old, he⟩, hit, hne⟩ := st
    obtain ⟨f0, f1, f2, f3, f4, f5⟩ := hf it (by simp)
    have D : Draws X.prog X.w X.A.in1 it [it] x.cps.size (fun i v => ∃ c u, x.cps[i]? = some c ∧ v = .str ⟨#[c]⟩ u) (fun i h => h.IsStrIter it ty x t i) := by
      rcases hty with z | z
      · rw [z]; exact Draws.strAscii (A := X.A.in1) (I.ok.hd hc) it x t
      · rw [z]; exact Draws.strWide (A := X.A.in1) (I.ok.hd hc) it x t
    have hg' : i = x.cps.size := hg
    subst hg'
    exact wpAny_pyNext_enum_endD D he hit fun h' eb => ⟨rfl, I.turned (t' := s.toks) (fun b o hb q => eb b o hb q) f0 f1 f3 f4 f5⟩
  self := fun A i s Q E st h => let ⟨⟨_, he⟩, _⟩ := st; wpAny_pyIter_enum he h
def iEnumS (ta : TA) : TI := fun σ H R => ta σ H fun vs H1 => ∃ x, vs = [.str x] ∧ R (Ites x) H1
theorem pi_enumS {X : Cx} {e : Expr} {ta : TA} {p pos tpos : Pos} {elts : List Expr} {kk : Nat} (hg : Gl X "enumerate") (hm : X.mg "enumerate" = none) (ha : PA X [e] ta) (hs : starEach [e] X.env = [(false, eval e X.env)] := by rfl) :
    PI X (.Tuple elts kk tpos) (.Call (.Name "enumerate" p) [e] [] pos) (iEnumS ta) := by
  refine ⟨fun pins s σ H R I h => ?_⟩
  refine Call_ (ld_blt I hg hm boot_enumerate (PyProof.Rows.callWith_type1 (thn (ha.run pos pins s σ H _ I h) fun us s1 ⟨vs, H1, I1, r1, q1⟩ => ?_) hs rfl))
  obtain ⟨x, ex, q⟩ := q1
  subst ex
  cases r1 with
  | cons r rr =>
    cases rr
    obtain ⟨t, rfl⟩ := r
    refine call_enumerate_str fun h' he hit hsz hk => wpAny_pyIter_enum he ?_
    have I2 : Inv X pins σ H1 { s1 with heap := h' } := I1.kept (t' := s1.toks) hk
    refine ⟨s1.heap.objs.size + 1, [s1.heap.objs.size + 1, s1.heap.objs.size], _, _, H1, rfl, I2, turn_enumS x t (strIterType x) (by unfold strIterType; split <;> simp) (s1.heap.objs.size + 1) s1.heap.objs.size, ⟨⟨.none, he⟩, hit, Nat.succ_ne_self _⟩, fun b hb => ?_, q⟩
    have e' : b = s1.heap.objs.size + 1 ∨ b = s1.heap.objs.size := by simpa using hb
    have hle : s1.heap.objs.size ≤ b := by
      rcases e' with z | z
      · rw [z]; exact Nat.le_add_right _ _
      · rw [z]; exact Nat.le_refl _
    exact I1.fpOk hle (I1.hok.fresh hle)
theorem walk_enumS (x : Str) : Walk (Ites x) x.cps.size (fun _ => True) (fun i H v H' => ∃ T c, v = .ref T ∧ H T = none ∧ H' = upd H T (.tup [.int (i : Nat), .str ⟨#[c]⟩]) ∧ x.cps[i]? = some c) where
  goes := fun i H h _ => h
  stops := fun H _ => rfl
  yields := fun i H v H' h _ y => y
theorem for_enumS {x : Str} {g : TG} {tb : TS} {D : Ends} {σ : L2.St} {H : Hp} (Pv : Nat → L2.St → Hp → Prop) (h0 : Pv 0 σ H)
    (hs : ∀ i c T σ H, (tl x)[i]? = some c → Pv i σ H → H T = none → g (.ref T) σ (upd H T (.tup [.int (i : Nat), .str ⟨#[c]⟩])) fun σ2 H2 => tb { D with nx := Pv (i + 1), ct := Pv (i + 1), bk := D.nx } σ2 H2) (hd : ∀ σ H, Pv (tl x).length σ H → D.nx σ H) :
    ∃ W : Nat → Nat → L2.St → Hp → Prop, (∃ m, W 0 m σ H) ∧ ∀ i m σ H, W i m σ H →
      ((Ites x).stop i H ∧ D.nx σ H) ∨ ((Ites x).go i H ∧ ∃ N : L2.St → Hp → Prop, (∀ σ' H', N σ' H' → ∃ m', m' < m ∧ W (i + 1) m' σ' H') ∧ ∀ v H', (Ites x).yld i H v H' → g v σ H' fun σ2 H2 => tb { D with nx := N, ct := N, bk := D.nx } σ2 H2) :=
  for_it (walk_enumS x) Pv h0 (fun _ _ _ _ _ => trivial) (fun i v σ H H' hi hp ⟨T, c, e1, e2, e3, e4⟩ => by
    subst e1
    subst e3
    exact hs i c T σ H (by rw [Array.getElem?_toList]; exact e4) hp e2) (fun σ H hp => hd σ H hp)
end TR
namespace QR
open PySem PySem.Spec PyProof.Rows L2
section
variable {X : Cx}
def rEqP (K : PySem.W.Frag) : R2 := fun x y H Q => ∃ d e, Dp K H x d ∧ Dp K H y e ∧ d.plain = true ∧ e.plain = true ∧ d.depth ≤ 60 ∧ Q (.bl (PyData.eqv d e)) H
def rNeP (K : PySem.W.Frag) : R2 := fun x y H Q => ∃ d e, Dp K H x d ∧ Dp K H y e ∧ d.plain = true ∧ e.plain = true ∧ d.depth ≤ 60 ∧ Q (.bl (!PyData.eqv d e)) H
theorem op_eqP (hu : X.A.units + 64 < cLine) : OpR X (compareOp .Eq) (rEqP X.K) := fun pins s σ H x y v u Q I rx ry ⟨d, e, hd, he, pd, pe, dd, q⟩ => by
  obtain ⟨as, r1⟩ := Dp.reads I d x v hd rx
  obtain ⟨bs, r2⟩ := Dp.reads I e y u he ry
  exact PySem.SeqAt.eq_plain r1 r2 pd pe (by omega) ⟨.bl _, H, I, rfl, q⟩
theorem op_neP (hu : X.A.units + 64 < cLine) : OpR X (compareOp .NotEq) (rNeP X.K) := fun pins s σ H x y v u Q I rx ry ⟨d, e, hd, he, pd, pe, dd, q⟩ => by
  obtain ⟨as, r1⟩ := Dp.reads I d x v hd rx
  obtain ⟨bs, r2⟩ := Dp.reads I e y u he ry
  exact PySem.SeqAt.ne_plain r1 r2 pd pe (by omega) ⟨.bl _, H, I, rfl, q⟩
end
/-! ### == and != of values with a Lean type -/
section
variable {α : Type} [DecidableEq α] [PySem.W.Datum α] {K : PySem.W.Frag} {H : Hp} {x y : V} {a b : α} {Q : VK}
theorem eq_dat (hx : Dp K H x (PySem.W.Datum.toD a)) (hy : Dp K H y (PySem.W.Datum.toD b)) (hd : PySem.W.Datum.depth α ≤ 60) (q : Q (.bl (decide (a = b))) H) : rEqP K x y H Q :=
  ⟨_, _, hx, hy, PySem.W.Datum.plain a, PySem.W.Datum.plain b, Nat.le_trans (PySem.W.Datum.depth_le a) hd, by rw [PySem.W.Datum.eqv]; exact q⟩
theorem ne_dat (hx : Dp K H x (PySem.W.Datum.toD a)) (hy : Dp K H y (PySem.W.Datum.toD b)) (hd : PySem.W.Datum.depth α ≤ 60) (q : Q (.bl (!decide (a = b))) H) : rNeP K x y H Q :=
  ⟨_, _, hx, hy, PySem.W.Datum.plain a, PySem.W.Datum.plain b, Nat.le_trans (PySem.W.Datum.depth_le a) hd, by rw [PySem.W.Datum.eqv]; exact q⟩
end
end QR
/-! mathematics of texts and their lines -/
namespace TR
open PySem PySem.Spec PyProof.Rows L2
/-- the parts of l between the c's -/
def cutAt (c : Nat) : List Nat → List (List Nat)
  | [] => [[]]
  | x :: l => if x = c then [] :: cutAt c l else match cutAt c l with
    | [] => [[x]]
    | p :: r => (x :: p) :: r
def joinL (c : Nat) : List (List Nat) → List Nat
  | [] => []
  | [p] => p
  | p :: q :: r => p ++ c :: joinL c (q :: r)
theorem cut_free {c : Nat} : ∀ {p : List Nat}, c ∉ p → cutAt c p = [p]
  | [], _ => rfl
  | x :: p, h => by
    have h1 : x ≠ c := fun e => h (e ▸ List.mem_cons_self)
    have h2 : c ∉ p := fun e => h (List.mem_cons_of_mem _ e)
    unfold cutAt
    rw [if_neg h1, cut_free h2]
theorem cut_app {c : Nat} {l : List Nat} : ∀ {p : List Nat}, c ∉ p → cutAt c (p ++ c :: l) = p :: cutAt c l
  | [], _ => by
    show cutAt c (c :: l) = _
    rw [cutAt, if_pos rfl]
  | x :: p, h => by
    have h1 : x ≠ c := fun e => h (e ▸ List.mem_cons_self)
    have h2 : c ∉ p := fun e => h (List.mem_cons_of_mem _ e)
    show cutAt c (x :: (p ++ c :: l)) = _
    rw [cutAt, if_neg h1, cut_app h2]
theorem cut_join {c : Nat} : ∀ {P : List (List Nat)}, P ≠ [] → (∀ p ∈ P, c ∉ p) → cutAt c (joinL c P) = P
  | [], h, _ => absurd rfl h
  | [p], _, h => cut_free (h p List.mem_cons_self)
  | p :: q :: r, _, h => by
    rw [joinL, cut_app (h p List.mem_cons_self), cut_join (List.cons_ne_nil _ _) fun x hx => h x (List.mem_cons_of_mem _ hx)]
theorem cut_ne (c : Nat) : ∀ l, cutAt c l ≠ []
  | [] => List.cons_ne_nil _ _
  | x :: l => by
    unfold cutAt
    split
    · exact List.cons_ne_nil _ _
    · split <;> exact List.cons_ne_nil _ _
theorem tl_app (a b : Str) : tl (a ++ b) = tl a ++ tl b := by
  show (a.cps ++ b.cps).toList = _
  rw [Array.toList_append]
theorem tl_join (c : Nat) : ∀ P : List Str, tl (Str.join ⟨#[c]⟩ P) = joinL c (P.map tl)
  | [] => rfl
  | [p] => rfl
  | p :: q :: r => by
    show tl (p ++ ⟨#[c]⟩ ++ Str.join ⟨#[c]⟩ (q :: r)) = _
    rw [tl_app, tl_app, tl_join c (q :: r), List.append_assoc]
    rfl
theorem split_ne (x y : Str) : Txt.split x y ≠ [] := by
  unfold Txt.split
  split
  · exact List.cons_ne_nil _ _
  · split
    · exact List.cons_ne_nil _ _
    · unfold Builtin.Str.partsBetween
      generalize Builtin.Str.occurrences x y 0 x.length (x.length + 1) = cs
      cases cs <;> exact List.cons_ne_nil _ _
theorem split_cut (x : Str) (c : Nat) : Txt.split x ⟨#[c]⟩ = (cutAt c (tl x)).map Sg := by
  have h1 : (Txt.split x ⟨#[c]⟩).map tl = cutAt c (tl x) := by
    have e := StrLaws.join_split x ⟨#[c]⟩
    have e2 := tl_join c (Txt.split x ⟨#[c]⟩)
    rw [e] at e2
    rw [e2, cut_join (by
      intro z
      exact split_ne x ⟨#[c]⟩ (List.map_eq_nil_iff.mp z))]
    intro p hp
    obtain ⟨q, hq, rfl⟩ := List.mem_map.mp hp
    exact StrLaws.split_free x c q hq
  rw [← h1, List.map_map]
  conv => lhs; rw [← List.map_id (Txt.split x ⟨#[c]⟩)]
  rfl
theorem tl_join0 : ∀ P : List Str, tl (Str.join Str.empty P) = (P.map tl).flatten
  | [] => rfl
  | [p] => by simp [Str.join]
  | p :: q :: r => by
    show tl (p ++ Str.empty ++ Str.join Str.empty (q :: r)) = _
    rw [tl_app, tl_app, tl_join0 (q :: r), List.map_cons, List.flatten_cons]
    show tl p ++ [] ++ _ = _
    rw [List.append_nil]
    simp
theorem txt_join0 (P : List Str) : Txt.join Str.empty P = Sg ((P.map tl).flatten) := by
  show Builtin.Str.glued _ _ = _
  rw [StrLaws.glued_eq_join]
  exact ext_tl (tl_join0 P)
/-- the text of lines -/
def flatN : List (List Nat) → List Nat
  | [] => []
  | p :: r => p ++ 10 :: flatN r
theorem cut_flat {z : List Nat} (hz : 10 ∉ z) : ∀ {P : List (List Nat)}, (∀ p ∈ P, 10 ∉ p) → cutAt 10 (flatN P ++ z) = P ++ [z]
  | [], _ => cut_free hz
  | p :: r, h => by
    show cutAt 10 ((p ++ 10 :: flatN r) ++ z) = _
    rw [List.append_assoc, List.cons_append, cut_app (h p List.mem_cons_self), cut_flat hz fun x hx => h x (List.mem_cons_of_mem _ hx)]
    rfl
theorem flat_flatten : ∀ P : List (List Nat), (P.map fun p => p ++ [10]).flatten = flatN P
  | [] => rfl
  | p :: r => by
    rw [List.map_cons, List.flatten_cons, flat_flatten r, List.append_assoc]
    rfl
/-- the first place where a text fails -/
def fault : List Nat → Nat → Nat → Nat → Option Nat
  | [], at_, _, size => if size = 0 then none else some at_
  | c :: l, at_, many, size => if many = 200 then some at_ else if c = 10 then fault l (at_ + 1) (many + 1) 0 else if size = 40 then some at_ else fault l (at_ + 1) many (size + 1)
theorem fault_end : ∀ {l : List Nat} {a m s : Nat}, fault l a m s = none → (l = [] ∧ s = 0) ∨ ∃ l', l = l' ++ [10]
  | [], a, m, s, h => by
    unfold fault at h
    split at h
    · rename_i e
      exact .inl ⟨rfl, e⟩
    · cases h
  | c :: l, a, m, s, h => by
    unfold fault at h
    split at h
    · cases h
    · split at h
      · rename_i e
        rcases fault_end h with ⟨e2, _⟩ | ⟨l', e2⟩
        · exact .inr ⟨[], by rw [e2, e]; rfl⟩
        · exact .inr ⟨c :: l', by rw [e2]; rfl⟩
      · split at h
        · cases h
        · rcases fault_end h with ⟨_, e2⟩ | ⟨l', e2⟩
          · cases e2
          · exact .inr ⟨c :: l', by rw [e2]; rfl⟩
theorem fault_nil {l z : List Nat} {a m s : Nat} (h : fault (l ++ z) a m s = none) (hz : 10 ∉ z) : z = [] := by
  rcases List.eq_nil_or_concat z with e | ⟨w, x, e⟩
  · exact e
  · exfalso
    rcases fault_end h with ⟨e2, _⟩ | ⟨l', e2⟩
    · rw [e] at e2
      simp at e2
    · rw [e, List.concat_eq_append, ← List.append_assoc] at e2
      have := List.append_inj_right' e2 rfl
      have e3 : x = 10 := by simpa using this
      exact hz (by rw [e, e3]; simp)
def okT (l : List Nat) : Prop := ∀ c ∈ l, c = 10 ∨ (32 ≤ c ∧ c ≤ 126)
def okL (l : List Nat) : Prop := (∀ c ∈ l, 32 ≤ c ∧ c ≤ 126) ∧ l.length ≤ 50
theorem okL.free {l : List Nat} (h : okL l) : 10 ∉ l := fun z => by
  have := h.1 10 z
  omega
theorem okT_app {a b : List Nat} (ha : okT a) (hb : okT b) : okT (a ++ b) := fun c hc => by
  rcases List.mem_append.mp hc with h | h
  · exact ha c h
  · exact hb c h
theorem okL.t {l : List Nat} (h : okL l) : okT l := fun c hc => .inr (h.1 c hc)
theorem okT_flat : ∀ {P : List (List Nat)}, (∀ p ∈ P, okL p) → okT (flatN P)
  | [], _ => fun c hc => nomatch hc
  | p :: r, h => by
    refine okT_app (h p List.mem_cons_self).t fun c hc => ?_
    rcases List.mem_cons.mp hc with e | hc
    · exact .inl e
    · exact okT_flat (fun x hx => h x (List.mem_cons_of_mem _ hx)) c hc
theorem flat_len : ∀ {P : List (List Nat)}, (∀ p ∈ P, okL p) → (flatN P).length ≤ 51 * P.length
  | [], _ => Nat.le_refl _
  | p :: r, h => by
    have a := (h p List.mem_cons_self).2
    have b := flat_len (P := r) fun x hx => h x (List.mem_cons_of_mem _ hx)
    show (p ++ 10 :: flatN r).length ≤ 51 * (r.length + 1)
    rw [List.length_append, List.length_cons]
    omega
theorem okL_rep {l : List Nat} {k : Int} (h1 : l.length = 1) (hl : ∀ c ∈ l, 32 ≤ c ∧ c ≤ 126) (hk : k ≤ 50) : okL (repL l k) := by
  refine ⟨fun c hc => ?_, ?_⟩
  · obtain ⟨x, hx, hc⟩ := List.mem_flatten.mp hc
    rw [List.eq_of_mem_replicate hx] at hc
    exact hl c hc
  · unfold repL
    rw [PyProof.Rows.lm_len_rep_flat, h1]
    omega
end TR
namespace PySem
namespace TextX
open PySem.W PySem.Calls PyProof.Rows PySem.HandSPX
/-! ### the text of __init__ -/
def iA (p1 p2 : Pos) : Arguments := { posonlyargs := [], args := [{ arg := "self", annotation := none, pos := p1 }, { arg := "at", annotation := none, pos := p2 }], vararg := none, kwonlyargs := [], kw_defaults := [], kwarg := none, defaults := [] }
def iB (q1 q2 q3 q4 : Pos) : List Stmt := [.Assign [.Attribute (.Name "self" q1) "at" q2] (.Name "at" q3) q4]
def iS : Scope := { kind := .function, names := [(PySem.Str.ofString "self", .local), (PySem.Str.ofString "at", .local)], isGenerator := false, isCoroutine := false, more := [] }
/-- what the written part says of Low, at C, and of its __init__, at fI -/
structure TextTxt (K : Frag) (mg : Str → Option Value) (C fI : Addr) : Prop where
  gC : mg "TextError" = some (.ref C)
  cls : ∃ nm q N bs bm sn sub ab col dd k0 k1 k2 k3 k5, K.lookup C = some (excClassObj nm q C N bs bm true sn sub ab col dd k0 k1 k2 k3 k5 "ValueError.__new__") ∧ refsVE bm = true
  sa : findIn K (.ref C) "__setattr__" = some (some (.builtin "object.__setattr__"))
  ga : findIn K (.ref C) "__getattribute__" = some (some (.builtin "BaseException.__getattribute__"))
  gg : findIn K (.ref C) "__getattr__" = some none
  noN : findIn K (.ref C) "at" = some none
  iC : findIn K (.ref C) "__init__" = some (some (.ref fI))
  tC : typeIn K (.ref fI) = some (.type "function")
  kC : keepIn K (.ref C) = true
  exC : subIn K (.ref C) (.type "BaseException") = some true
  tyC : typeIn K (.ref C) = some (.type "type")
  hdC : hasDictIn K C = true
  te : exmOne K (.ref C) (.ref C) = some true
  fn : ∃ (oc : Value) (od : Option Addr) (doc pm : Value) (an : Option Addr) (cdv ct : Value) (osl : Array (Option Value)) (p1 p2 q1 q2 q3 q4 : Pos),
    K.lookup fI = some ⟨oc, od, .func (fnOf "__init__" "TextError.__init__" (iA p1 p2) (iB q1 q2 q3 q4) iS .none .none doc pm an cdv ct), osl⟩ ∧ codeIn K cdv "TextError.__init__" = true
theorem one_size (v : Value) : [v].length ≤ sizeLine := by
  rw [sizeLine_eq]
  exact (by decide : 1 ≤ 16777216)
theorem kept_but {K : Frag} {h h' : Heap} {x : Addr} (X : K.In h) (hx : K.lookup x = none) (k : ∀ b o, b ≠ x → h.get? b = some o → h'.get? b = some o) : K.In h' := fun a o e =>
  k a o (fun z => by rw [z, hx] at e; cases e) (X a o e)
theorem ldC {M : Model} {s : Shared} {name : Str} {scope : Scope} {L a : Addr} {cd : Value} {m : Str → Option Value} {x : Str} {pos : Pos} {v : Value} {Q : Value → Shared → Prop} {A : Around} {E : Value → Shared → Prop} (hn : s.heap.Ns L m) (hv : m x = some v) (h : Q v s)
    (hk : scope.kind = .function := by rfl) (hl : (envOfC name scope L a cd).kindOf x = some .local := by rfl) (hd : (x == ("__debug__" : Str)) = false := by decide) :
    wpAny M A (eval (.Name x pos) (envOfC name scope L a cd)) Q E s := wpAny_Name (wpAny_loadName_local hk hl hn hv h) hd
/-- what __init__ leaves of a fresh exception at x -/
structure InitEnd (h h' : Heap) (x C dx t1 : Addr) (v : Value) : Prop where
  keep : ∀ b o, b ≠ x → h.get? b = some o → h'.get? b = some o
  obj : h'.get? x = some { cls := .ref C, dict := some dx, data := .fields #[.ref t1, .none, .none, .none, .bool false, .none] }
  dbig : h.objs.size ≤ dx
  dne : dx ≠ x
  ns : h'.Ns1 dx (fun y => if y = "at" then some v else none)
/-- a made Low -/
structure OwnMade (h h' : Heap) (e C d : Addr) (v : Value) : Prop where
  keep : ∀ b o, h.get? b = some o → h'.get? b = some o
  new : h.objs.size ≤ e
  obj : ∃ oe vs, h'.get? e = some oe ∧ oe.cls = .ref C ∧ oe.dict = some d ∧ oe.data = .fields vs ∧ vs[1]? = some .none
  dbig : h.objs.size ≤ d
  dne : d ≠ e
  ns : h'.Ns1 d (fun y => if y = "at" then some v else none)
section
variable {prog : Program} {w : World} {A : Around} {E : Value → Shared → Prop} {R : Result → Shared → Prop} {s : Shared} {K : Frag} {mg : Str → Option Value} {C fI : Addr}
theorem step_init (T : TextTxt K mg C fI) {x t0 : Addr} {v : Value} (X : K.In s.heap) (hlim : s.heap.NoLimit) (hx : s.heap.get? x = some (excO C t0)) (hnx : K.lookup x = none) (hroom : A.depth < recursionLimit)
    (hq : ∀ h' tk dx, InitEnd s.heap h' x C dx t0 v → R (.ok (.ret .none)) { s with heap := h', toks := tk }) :
    codeAny (model prog w) A (.call (.ref fI) ⟨[.ref x, v], []⟩) R s := by
  obtain ⟨oc, od, doc, pm, an, cdv, ct, osl, p1, p2, q1, q2, q3, q4, ho, hcd⟩ := T.fn
  obtain ⟨nm, q, N, bs, bm, sn, sub, ab, col, dd, k0, k1, k2, k3, k5, hC, hbm⟩ := T.cls
  have hcl : clsIn K C = some { name := nm, bases := bs, mro := .ref C :: bm, ns := N, qualname := q, hasDict := true, slotNames := sn, subclasses := sub, abstract := ab, collection := col, hasDel := false } := by unfold clsIn; rw [hC] <;> rfl
  refine Att.call_fn (binds := [("self", .ref x), ("at", v)]) X hlim ho hcd hroom (BindsTo.of_eq (by first | rfl | with_unfolding_all rfl)) (by first | rfl | decide | with_unfolding_all rfl) (fun s₁ IC => ?_) rfl rfl rfl
  obtain ⟨h₁, tk₁, rfl⟩ := IC.toInCall.same
  have k : ∀ b o, s.heap.get? b = some o → h₁.get? b = some o := IC.toInCall.keep
  have hn := IC.toInCall.ns
  have hxL : s.heap.objs.size ≠ x := Nat.ne_of_gt (Heap.lt_size hx)
  have X₁ : K.In h₁ := X.keeps k
  have hx₁ := k _ _ hx
  -- self.by = by
  show wpAny _ _ (execs _ _) _ _ _
  refine wpAny_execs_cons (plainObj_wpAny_Assign_Attribute ?_)
  refine ldC (v := v) hn (by first | rfl | with_unfolding_all rfl | kernel_rfl) (ldC (v := .ref x) hn (by first | rfl | with_unfolding_all rfl | kernel_rfl) ?_)
  refine set_plain X₁ (ox := excO C t0) (od := none) ⟨hx₁, rfl, rfl, trivial⟩ T.sa ?_
  refine exc_osa X₁ hx₁ hcl (show refsVE (.ref C :: bm) = true from hbm) rfl T.noN (fun h₃ tk₃ dx k₃ dn dne hx₃ hn₃ => ?_)
  show wpAny _ _ (execs _ _) _ _ _
  have z : s.heap.objs.size < h₁.objs.size := hn.lt
  exact wpAny_execs_nil (hq h₃ tk₃ dx ⟨fun b o hb e => k₃ b o hb (k b o e), hx₃, Nat.le_of_lt (Nat.lt_of_lt_of_le z dn), dne, hn₃⟩)
theorem step_made (T : TextTxt K mg C fI) {v : Value} (X : K.In s.heap) (hlim : s.heap.NoLimit) (hroom : A.depth + 1 < recursionLimit)
    (hq : ∀ h' tk e d, OwnMade s.heap h' e C d v → R (.ok (.ret (.ref e))) { s with heap := h', toks := tk }) :
    codeAny (model prog w) A (.call (.ref C) ⟨[v], []⟩) R s := by
  obtain ⟨nm, q, N, bs, bm, sn, sub, ab, col, dd, k0, k1, k2, k3, k5, hC, hbm⟩ := T.cls
  obtain ⟨hp, g, dr, tk, os⟩ := s
  have k : ∀ b o, hp.get? b = some o → ((hp.push (kdv_tup [v])).push (excO C hp.objs.size)).get? b = some o := fun b o e => Heap.get?_push_of_some _ (Heap.get?_push_of_some _ e)
  have hget : ((hp.push (kdv_tup [v])).push (excO C hp.objs.size)).get? (hp.objs.size + 1) = some (excO C hp.objs.size) := by heap_get
  have hnx : K.lookup (hp.objs.size + 1) = none := by
    cases e : K.lookup (hp.objs.size + 1) with
    | none => rfl
    | some o =>
      have z : hp.get? (hp.objs.size + 1) = some o := X _ _ e
      exact absurd (Nat.lt_of_succ_lt (Heap.lt_size z)) (Nat.lt_irrefl _)
  refine call_own F.excBase_ValueError (fun X => refsVE_contains X bm hbm) (X _ _ hC) (looks_findIn X T.iC) (fun self => bind_fn X self T.tC) (one_size v) ?_
  refine step_init (s := ⟨(hp.push (kdv_tup [v])).push (excO C hp.objs.size), g, dr, tk, os⟩) T (X.keeps k) (hlim.keeps k) hget hnx ?_ fun h' tk' dx ⟨k', hx, dn, dne, hns⟩ => ?_
  · show A.depth + 1 < recursionLimit
    exact hroom
  · have old : ∀ b o, hp.get? b = some o → h'.get? b = some o := fun b o e => k' b o (Nat.ne_of_lt (Nat.lt_succ_of_lt (Heap.lt_size e))) (k b o e)
    have z : hp.objs.size + 1 + 1 ≤ dx := by
      first
        | (simpa only [Heap.size_push] using dn)
        | exact dn
        | (have q := dn; rw [Heap.size_push, Heap.size_push] at q; exact q)
    exact ⟨rfl, hq h' tk' (hp.objs.size + 1) dx ⟨old, Nat.le_succ _, ⟨_, _, hx, rfl, rfl, rfl, rfl⟩, Nat.le_trans (Nat.le_trans (Nat.le_succ _) (Nat.le_succ _)) z, dne, hns⟩⟩
end
end TextX
end PySem
namespace L2
open PySem PySem.Spec PyProof.Rows
theorem relO_step {v : V} {v' : Value} (r : RelV v v') (f : Str) : RelO (List.lookup f [(("at" : Str), v)]) (if f = "at" then some v' else none) := by
  by_cases hw : f = "at"
  · subst hw
    rw [if_pos rfl]
    have q : List.lookup ("at" : Str) [(("at" : Str), v)] = some v := by simp [List.lookup]
    rw [q]
    exact r
  · rw [if_neg hw]
    have qw : (f == ("at" : Str)) = false := by simpa using hw
    have q2 : List.lookup f [(("at" : Str), v)] = none := by simp [List.lookup, qw]
    rw [q2]
    trivial
section
variable {X : Cx} {C fI : Addr}
/-- Low(e) -/
def tMkStep (C : Addr) (ta : TA) : St → Hp → XK → Prop := fun σ H Q => ta σ H fun vs H1 => ∃ v, vs = [v] ∧ ∀ d, H1 d = none → Q (.ref C) (some d) (upd H1 d (.xd [(("at" : Str), v)]))
theorem pmk_step {a : Expr} {ta : TA} {p pos : Pos} {k : Nat} (T : PySem.TextX.TextTxt X.K X.mg C fI) (hr : Room k X.A) (ha : PA X [a] ta) (hg : Gl X "TextError" := by rfl)
    (he : starEach (a :: []) X.env = (false, eval a X.env) :: starEach [] X.env := by rfl) (hpl : (backTo pos (starEach [] X.env)).any (·.1) = false := by rfl) :
    PMk X (.Call (.Name "TextError" p) [a] [] pos) (tMkStep C ta) := by
  intro pins s σ H Q I h
  refine wpAny_Call_Name_kw (ld_glob I hg T.gC ?_)
  refine PySem.W.callWith_K (h₀ := X.base) I.ok.mod.kin T.kC (thn (ha.run pos pins s σ H _ I h) fun us s1 hh => ?_) he hpl
  obtain ⟨vs, H1, I1, r1, v, ev, q1⟩ := hh
  subst ev
  refine ⟨I1.kIn, ?_⟩
  cases r1 with
  | cons rv rn =>
    rename_i v' us'
    cases rn
    show wpAny _ _ (call (.ref C) [v']) _ _ _
    have hlim := I1.nolimit
    obtain ⟨hp, g, dr, tk, os⟩ := s1
    refine wpAny_call (PySem.TextX.step_made T I1.kIn hlim (by have := hr.dp; omega) fun h' tk' e d M => ?_)
    show MkP X pins σ Q (.ref e) ⟨h', g, dr, tk', os⟩
    obtain ⟨oe, fv, hoe, hc, hd, hdat, h1⟩ := M.obj
    have hns := M.ns
    obtain ⟨G', g1, g2⟩ := restrict h' fun b => decide (b ≠ e)
    have gk : ∀ b, b ≠ e → G'.get? b = h'.get? b := fun b hb => g1 b (decide_eq_true hb)
    have ge : G'.get? e = none := g2 e (by simp)
    have old : ∀ b o, hp.get? b = some o → G'.get? b = some o := fun b o q => (gk b (Nat.ne_of_lt (Nat.lt_of_lt_of_le (Heap.lt_size q) M.new))).trans (M.keep b o q)
    have ob : ObjOk X.prog X.w (upd H1 d (.xd [(("at" : Str), v)])) G' d (.xd [(("at" : Str), v)]) :=
      ⟨_, hns.at (fun o q => (gk d M.dne).trans q), fun f => relO_step rv f⟩
    have J : Inv X pins σ (upd H1 d (.xd [(("at" : Str), v)])) ⟨G', g, dr, tk', os⟩ := I1.laid (t' := tk') old M.dbig ob
    refine ⟨e, oe, fv, ⟨G', g, dr, tk', os⟩, _, .ref C, some d, rfl, J, fun b o q => ?_, ge, hoe, ⟨hc, hd⟩, hdat, h1, ?_, rfl, I1.bare, raises_own T.exC T.tyC, q1 d (I1.hok.fresh M.dbig)⟩
    · by_cases hb : b = e
      · have q' : G'.get? b = some o := q
        rw [hb, ge] at q'; cases q'
      · exact (gk b hb).symm.trans q
    · rw [upd_ne (Ne.symm M.dne)]
      exact I1.hok.fresh M.new
/-- raise Low(e) -/
def tRaiseStep (C : Addr) (W : WX) (ta : TA) : TS := fun _ σ H => tMkStep C ta σ H fun cls d H' => W cls d σ H'
theorem ps_raiseText {a : Expr} {ta : TA} {W : WX} {p pos pos2 : Pos} {k : Nat} (hc : X.calm = true) (T : PySem.TextX.TextTxt X.K X.mg C fI) (hr : Room k X.A) (tk : Takes X W) (ha : PA X [a] ta) (hg : Gl X "TextError" := by rfl)
    (he : starEach (a :: []) X.env = (false, eval a X.env) :: starEach [] X.env := by rfl) (hpl : (backTo pos (starEach [] X.env)).any (·.1) = false := by rfl) :
    PS X (.Raise (some (.Call (.Name "TextError" p) [a] [] pos)) none pos2) (tRaiseStep C W ta) := ps_raise hc tk (pmk_step T hr ha hg he hpl)
/-- low.by, low the exception that the suite holds (at a; its class cls, its dict d) -/
def tStepOf (C : Addr) (a : Addr) (cls : Value) (d : Option Addr) (te : TE) : TE := fun σ H Q => te σ H fun x H1 => x = .ref a ∧ cls = .ref C ∧ ∃ (dd : Addr) (v : V), d = some dd ∧ H1 dd = some (.xd [(("at" : Str), v)]) ∧ Q v H1
theorem pe_atOf {a : Addr} {oe : Obj} {cls : Value} {d : Option Addr} {pn : List (Addr × Obj)} {e : Expr} {te : TE} {pos : Pos} (T : PySem.TextX.TextTxt X.K X.mg C fI) (hz : Zc cls d oe) (hf : ∃ vs, oe.data = .fields vs) (he : PE (X.suite a ((a, oe) :: pn)) e te)
    (hb : attributeBase e "at" X.env (eval e X.env) = eval e X.env := by rfl) :
    PE (X.suite a ((a, oe) :: pn)) (.Attribute e "at" pos) (tStepOf C a cls d te) := by
  refine ⟨fun pins s σ H Q I h => ?_⟩
  refine attr_of hb (thn (he.run pins s σ H _ I h) fun u s1 hh => ?_)
  obtain ⟨x, H1, I1, rx, ex, ec, dd, v, ed, ea, q⟩ := hh
  subst ex
  obtain rfl : u = Value.ref a := rx
  subst ec
  subst ed
  obtain ⟨ha, _⟩ := I1.pin (a, oe) (List.mem_append_left _ List.mem_cons_self)
  obtain ⟨vs, hd⟩ := hf
  have hx : ObjOk X.prog X.w H1 s1.heap dd (.xd [(("at" : Str), v)]) := I1.hok dd _ ea
  obtain ⟨mA, hns, hr⟩ := hx
  obtain ⟨od, ho, hl⟩ := lookIn_ns hns
  have l : List.lookup ("at" : Str) [(("at" : Str), v)] = some v := by simp [List.lookup]
  obtain ⟨u, hu, ru⟩ := RelO.some_of (v := v) (o := mA "at") (by rw [← l]; exact hr "at")
  have J : PySem.W.InstAt s1.heap a oe C (some od) := ⟨ha, hz.1, by unfold PySem.W.notCls; rw [hd] <;> rfl, by rw [hz.2]; exact ho⟩
  exact HandSPX.exc_get I1.kIn J T.ga T.gg T.exC (PySem.W.findObj_own T.hdC T.noN rfl (by rw [hl, hu])) (handed_of ru) ⟨v, H1, I1.tok _, ru, q⟩
end
end L2
namespace K71E
open PySem PySem.Spec PyProof.Rows L2
def rIsD (K : PySem.W.Frag) (D a : Addr) (cls : Value) (d : Option Addr) : List V → Hp → VK → Prop := fun xs H Q => ∃ (c : V) (cv : Value) (b : Bool) (dd : Addr) (fs : List (Str × V)), xs = [.ref a, c] ∧ cls = .ref D ∧ d = some dd ∧
  (∀ u, RelV c u → u = cv) ∧ PySem.W.kitOne K (.ref D) cv = some b ∧ H dd = some (.xd fs) ∧ Q (.bl b) H
theorem call_isD {X : Cx} {a D : Addr} {oe : Obj} {cls : Value} {d : Option Addr} {pn : List (Addr × Obj)} (C : ExcC X.K D) (hz : Zc cls d oe) (hf : ∃ vs, oe.data = .fields vs) : CallR (X.suite a ((a, oe) :: pn)) (.builtin "isinstance") (rIsD X.K D a cls d) := by
  rintro pins s σ H xs us Q I r ⟨c, cv, b, dd, fs, rfl, rfl, rfl, hcv, e, hx, q⟩
  cases r with
  | cons rx rr =>
    cases rr with
    | cons rt rr =>
      cases rr
      cases rx
      obtain rfl := hcv _ rt
      have hget := (I.pin (a, oe) (List.mem_append_left _ List.mem_cons_self)).1
      obtain ⟨vs, hv⟩ := hf
      have hD : ObjOk X.prog X.w H s.heap dd (.xd fs) := I.hok dd _ hx
      obtain ⟨mA, hns, _⟩ := hD
      obtain ⟨od, ho, _⟩ := lookIn_ns hns
      have J : PySem.W.InstAt s.heap a oe D (some od) := ⟨hget, hz.1, by unfold PySem.W.notCls; rw [hv] <;> rfl, by rw [hz.2]; exact ho⟩
      have cl : (PySem.W.clsIn X.K D).isSome = true := by
        have h := C.hd
        unfold PySem.W.hasDictIn at h
        cases hc : PySem.W.clsIn X.K D with
        | none =>
          rw [hc] at h
          cases h
        | some cd => rfl
      refine PySem.W.kia_one (PySem.W.kitx_exc (od := some od) cl C.hg C.hk C.hs C.ha C.hn C.ht C.hm) I.kIn J e (fun z => nomatch z) fun tk => ?_
      exact ⟨.bl b, H, I.kept (t' := tk) fun _ _ z => z, rfl, q⟩
def tMethE (C : Addr) (m : Str) (sp : Sp) (E : L2.St → XK) (ta : TE) (t : TA) : TE := fun σ H Q => ta σ H fun x H1 => ∃ a dx fs, x = .ref a ∧ H1 a = some (.ins C dx fs) ∧ fs.lookup m = none ∧ t σ H1 fun vs H2 => sp (x :: vs) H2 Q (E σ)
section
variable {X : Cx} {CX : CXT} {k : Nat} {f C : Addr} {fd : FuncData} {ps : List Str} {sp : Sp} {E : L2.St → XK} {m : Str} {pos apos : Pos} {e o : Expr} {es : List Expr} {ta : TE} {t : TA}
theorem pe_methE {pl : Sem Bool} (he : PE X o ta) (c : Cls X.K C) (hm : Meth X.K C m f) (G : FnOk X.prog X.w X.K X.mg X.base CX k f fd ps sp) (hr : Room k X.A) (hb : Binds X.K fd ps []) (hx : ∀ σ, PassesAt CX X σ (E σ)) (ha : PA X (e :: es) t)
    (hst : starEach (e :: es) X.env = (false, eval e X.env) :: starEach es X.env := by rfl) (hpl : (backTo pos (starEach es X.env)).any (·.1) = false := by rfl)
    (ht : eval (.Call (.Attribute o m apos) (e :: es) [] pos) X.env = (do
      let ov ← eval o X.env; standAt apos.atName; let (f, first) ← holding [ov] (getMethod ov m pl); callWith pos f first (backTo pos (starEach (e :: es) X.env)) (backToKw pos (keywordEach [] X.env))) := by rfl) :
    PE X (.Call (.Attribute o m apos) (e :: es) [] pos) (tMethE C m sp E ta t) := by
  constructor
  intro pins s σ H Q I h
  refine PySem.W.methodCall_KW (pl := pl) (thn (he.run pins s σ H _ I h) ?_) ht
  rintro u s1 ⟨x, H1, I1, rx, a, dx, fs, rfl, ea, l, q⟩
  obtain rfl : u = Value.ref a := rx
  refine getmeth_ok I1 ea c hm l (PySem.W.callWith_K (first := [.ref a]) (h₀ := X.base) I.ok.mod.kin hm.kp (thn (ha.run pos pins s1 σ H1 _ I1 q) ?_) hst hpl)
  rintro us s2 ⟨vs, H2, I2, r, q2⟩
  exact ⟨I2.kIn, run_fnS (us := .ref a :: us) (vs := .ref a :: vs) G hr hb (hx σ) I2 (.cons rfl r) q2⟩
theorem pe_methE0 {pl : Sem Bool} (he : PE X o ta) (c : Cls X.K C) (hm : Meth X.K C m f) (G : FnOk X.prog X.w X.K X.mg X.base CX k f fd ps sp) (hr : Room k X.A) (hb : Binds X.K fd ps []) (hx : ∀ σ, PassesAt CX X σ (E σ))
    (ht : eval (.Call (.Attribute o m apos) [] [] pos) X.env = (do
      let ov ← eval o X.env; standAt apos.atName; let (f, first) ← holding [ov] (getMethod ov m pl); callWith pos f first (backTo pos (starEach [] X.env)) (backToKw pos (keywordEach [] X.env))) := by rfl) :
    PE X (.Call (.Attribute o m apos) [] [] pos) (tMethE C m sp E ta tNil) := by
  constructor
  intro pins s σ H Q I h
  refine PySem.W.methodCall_KW (pl := pl) (thn (he.run pins s σ H _ I h) ?_) ht
  rintro u s1 ⟨x, H1, I1, rx, a, dx, fs, rfl, ea, l, q⟩
  obtain rfl : u = Value.ref a := rx
  exact getmeth_ok I1 ea c hm l (PySem.W.callWith_K0 (first := [.ref a]) I1.kIn hm.kp (run_fnS (us := [.ref a]) (vs := [.ref a]) G hr hb (hx σ) I1 (.cons rfl .nil) q))
end
end K71E
namespace K10
open PySem PySem.Spec PyProof.Rows L2
def topS (i : Nat) : Stmt := PySem.Challenge.pw_quiltward_k10_texts_and_lines.main.body.getD i (.Pass ⟨0, 0, 0, 0⟩)
abbrev sState : Stmt := topS 10
abbrev sDraw : Stmt := topS 11
abbrev sPick : Stmt := topS 12
theorem scState : FnScope ["script", "seed", "cell"] ["script"] (defScope sState) := ⟨rfl, rfl, rfl, by decide +kernel, rfl, by decide +kernel, by decide +kernel⟩
theorem scDraw : FnScope ["state", "many", "cells", "value", "mixed"] ["state", "many"] (defScope sDraw) := ⟨rfl, rfl, rfl, by decide +kernel, rfl, by decide +kernel, by decide +kernel⟩
theorem scPick : FnScope ["state", "row"] ["state", "row"] (defScope sPick) := ⟨rfl, rfl, rfl, by decide +kernel, rfl, by decide +kernel, by decide +kernel⟩
/-! ### the state of the draws: a list of a list and a number -/
structure StateAt (H : Hp) (p c : Addr) : Prop where
  ex : ∃ (seed : Int) (ms : List Int), H p = some (.lst [.ref c, .int seed]) ∧ H c = some (.lst (ms.map V.int)) ∧ ms.length ≤ 63 ∧ (∀ m ∈ ms, 0 ≤ m) ∧ 0 ≤ seed ∧ seed < 4294967296
  ne : p ≠ c
/-- only the state has changed -/
def Drawn (p c : Addr) (H H' : Hp) : Prop := ∀ b, b ≠ p → b ≠ c → H' b = H b
theorem drawn_refl {p c : Addr} {H : Hp} : Drawn p c H H := fun _ _ _ => rfl
theorem drawn_trans {p c : Addr} {H H1 H2 : Hp} (a : Drawn p c H H1) (b : Drawn p c H1 H2) : Drawn p c H H2 := fun x h1 h2 => (b x h1 h2).trans (a x h1 h2)
theorem StateAt.mono {H H' : Hp} {p c : Addr} (s : StateAt H p c) (hp : ∀ o, H p = some o → H' p = some o) (hc : ∀ o, H c = some o → H' c = some o) : StateAt H' p c := by
  obtain ⟨⟨seed, ms, h1, h2, h3⟩, ne⟩ := s
  exact ⟨⟨seed, ms, hp _ h1, hc _ h2, h3⟩, ne⟩
section
variable {P : Program} {w : World} {K : PySem.W.Frag} {mg : Str → Option Value} {base : Heap}
/-! ### _law_state -/
def spState (K : PySem.W.Frag) : Sp := fun vs H Q _ => ∃ (a : Addr) (ns : List Int), vs = [.ref a] ∧ SqL K H a (ns.map V.int) ∧ ns.length ≤ 63 ∧
  ∀ H' p c, Same H H' → H p = none → H c = none → StateAt H' p c → Q (.ref p) H'
theorem abs_nn (z : Int) : 0 ≤ (if z < 0 then -z else z) := by
  split <;> omega
theorem ok_state {f : Addr} {fd : FuncData} (F : Fun K "_law_state" "_law_state" sState f fd) (ma : mg "abs" = none) (mi : mg "int" = none) : FnOk P w K mg base CX0 1 f fd ["script"] (spState K) := by
  refine F.ok scState (fun vs H Q E h => ?_) (fun cdv A outer s H vs Q E hr h => ?_)
  · obtain ⟨a, ns, rfl, _⟩ := h
    rfl
  · obtain ⟨a, ns, rfl, hS, hl, q⟩ := h
    refine ⟨_, pss_cons (ps_set (i := 1) scState.nd rfl (.inl rfl) pe_int)
      (pss_cons (ps_for PassesOwn.never rfl (pi_list (pv 0)) (pg_name (i := 2) scState.nd rfl (.inl rfl))
        (pss_one (ps_set (i := 1) scState.nd rfl (.inl rfl) (pe_op op_mod (pe_callTy call_int1 (by rfl) mi (by decide +kernel) (pa_cons (pe_op op_add (pe_op op_mul (pv 1) pe_int) (pv 2)) pa_nil)) pe_int))))
      (pss_one (ps_ret (pe_lst (pa_cons (pe_lc (own := [("cell", 2)]) (g := gName 2) (tt := tYes) rfl scState.nd (pi_list (pv 0)) (blkOk_by (N := ["script", "seed", "cell"]) (sc := defScope sState) (by decide +kernel))
          (fun _ _ _ _ _ => pg_name (i := 2) scState.nd rfl (Or.inl rfl)) (fun _ _ _ _ _ => pts_nil) (fun _ _ _ _ _ => pe_callB call_abs (by rfl) ma (by decide +kernel) (pa_cons (pv 2) pa_nil)))
        (pa_cons (pe_op op_add (pv 1) pe_int) pa_nil)))))), ?_⟩
    refine ⟨.ref a, rfl, a, rfl, ⟨_, hS⟩, for_list (xs := ns.map V.int) (fun i σ H' => ∃ (z : Int) (y : Option V), σ = [some (.ref a), some (.int z), y] ∧ 0 ≤ z ∧ z < 1000003 ∧ H' = H) ⟨7, none, rfl, by omega, by omega, rfl⟩ ?_ ?_ ?_⟩
    · rintro i σ H' _ ⟨z, y, _, _, _, rfl⟩
      exact hS
    · rintro i x σ H' hx ⟨z, y, rfl, h0, h1, rfl⟩
      obtain ⟨n, _, rfl⟩ := List.mem_map.mp (List.mem_of_getElem? hx)
      refine ⟨_, rfl, _, _, rfl, rfl, .inl ⟨by omega, by omega⟩, _, rfl, _, _, rfl, rfl, .inl ⟨_, rfl, _, _, rfl, rfl, by show (0 : Int) < 1000003; decide, ?_⟩⟩
      exact ⟨_, _, rfl, Int.emod_nonneg _ (by decide), Int.emod_lt_of_pos _ (by decide), rfl⟩
    · rintro σ H' ⟨z, y, rfl, h0, h1, rfl⟩
      refine ⟨.ref a, rfl, a, rfl, ⟨_, hS⟩, fun D nD => ?_⟩
      refine lc_list (xs := ns.map V.int) (fun i H2 => H2 = upd H' D (.lst (((ns.take i).map fun n => if n < 0 then -n else n).map V.int))) rfl ?_ ?_ ?_
      · rintro i H2 _ rfl
        exact Same.seq (fun b o e => by rw [upd_ne (ne_of_none e nD)]; exact e) hS
      · rintro i x H2 hx rfl
        have hx2 : (ns.map V.int)[i]? = some x := hx
        rw [List.getElem?_map] at hx2
        obtain ⟨n, hn, rfl⟩ := Option.map_eq_some_iff.mp hx2
        refine ⟨rfl, ?_⟩
        refine ⟨_, rfl, n, rfl, _, upd_same, ?_, ?_⟩
        · rw [List.length_map, List.length_map, List.length_take, sizeLine_eq]
          omega
        · rw [upd_upd, List.take_add_one, hn, List.map_append, List.map_append]
          rfl
      · rintro H2 rfl
        refine ⟨_, rfl, _, _, rfl, rfl, by show 2 ≤ sizeLine; rw [sizeLine_eq]; decide, fun p np => ?_⟩
        have eD : (upd H' D (.lst (((ns.take (ns.map V.int).length).map fun n => if n < 0 then -n else n).map V.int))) D = _ := upd_same
        have nDp : D ≠ p := ne_of_none eD np
        have np0 : H' p = none := by
          rw [← np, upd_ne (Ne.symm nDp)]
        refine q _ p D (fun b o e => ?_) np0 nD ⟨⟨z + 1, (ns.take (ns.map V.int).length).map fun n => if n < 0 then -n else n, upd_same, ?_, ?_, ?_, by omega, by omega⟩, Ne.symm nDp⟩
        · rw [upd_ne (ne_of_none e np0), upd_ne (ne_of_none e nD)]
          exact e
        · rw [upd_ne nDp]
          exact upd_same
        · rw [List.length_map, List.length_take]
          omega
        · intro m hm
          obtain ⟨n, _, rfl⟩ := List.mem_map.mp hm
          exact abs_nn n
end
end K10
namespace K10
open PySem PySem.Spec PyProof.Rows L2
theorem seq0 {n : Nat} (h : 0 < n) : seqIndex? 0 n = some 0 := by
  unfold seqIndex?
  simp [h]
theorem ix0 {n : Nat} (h : 0 < n) : ixN n 0 = some 0 := by
  unfold ixN
  simp [h]
section
variable {P : Program} {w : World} {K : PySem.W.Frag} {mg : Str → Option Value} {base : Heap}
/-! ### _law_draw -/
def spDraw : Sp := fun vs H Q _ => ∃ (p c : Addr) (m : Nat), vs = [.ref p, .int (m : Int)] ∧ m < 1000000000 ∧ StateAt H p c ∧
  ∀ H' (r : Nat), (m = 0 → r = 0) → (0 < m → r < m) → StateAt H' p c → Drawn p c H H' → Q (.int (r : Int)) H'
theorem ok_draw {f : Addr} {fd : FuncData} (F : Fun K "_law_draw" "_law_draw" sDraw f fd) (ml : mg "len" = none) (mi : mg "int" = none) : FnOk P w K mg base CX0 1 f fd ["state", "many"] spDraw := by
  refine F.ok scDraw (fun vs H Q E h => ?_) (fun cdv A outer s H vs Q E hr h => ?_)
  · obtain ⟨p, c, m, rfl, _⟩ := h
    rfl
  · obtain ⟨p, c, m, rfl, hm, ⟨⟨seed, ms, hp, hc, hl, h0, s0, s1⟩, npc⟩, q⟩ := h
    refine ⟨_, (pss_cons (ps_if (pt_cmpR op_lt (pv 1) pe_int (nomark _)) (pss_one (ps_ret pe_int)) pss_nil)
      (pss_cons (ps_set (i := 2) scDraw.nd rfl (.inl rfl) (pe_ix ix_list (pv 0) pe_int (fun _ _ => rfl)))
      (pss_cons (ps_while PassesOwn.never (PW.pt (pw_and (pt_cmpR op_gt (pe_callB call_len_seq (by rfl) ml PySem.boot_len (pa_cons (pv 2) pa_nil)) pe_int (nomark _)) (pw_and1 (pt_cmpR op_eq (pe_ix ix_list (pv 2) pe_int (fun _ _ => rfl)) pe_int (nomark _)))))
        (pss_one (ps_expr (pe_bm PySem.F.plainAttrs_list PySem.F.slot_list_pop PySem.F.type_list_pop mt_popAt (pv 2) (pa_cons pe_int pa_nil)))))
      (pss_cons (ps_if (pt_cmpR op_gt (pe_callB call_len_seq (by rfl) ml PySem.boot_len (pa_cons (pv 2) pa_nil)) pe_int (nomark _))
        (pss_cons (ps_set (i := 3) scDraw.nd rfl (.inl rfl) (pe_ix ix_list (pv 2) pe_int (fun _ _ => rfl)))
      (pss_cons (ps_asg (pe_op op_fdiv (pv 3) (pv 1)) (pg_sub (pv 2) pe_int set_list))
      (pss_one (ps_ret (pe_op op_mod (pe_callTy call_int1 (by rfl) mi (by decide +kernel) (pa_cons (pv 3) pa_nil)) (pv 1)))))) pss_nil)
      (pss_cons (ps_set (i := 4) scDraw.nd rfl (.inl rfl) (pe_op op_mod (pe_callTy call_int1 (by rfl) mi (by decide +kernel) (pa_cons (pe_op op_add (pe_op op_mul (pe_ix ix_list (pv 0) pe_int (fun _ _ => rfl)) pe_int) pe_int) pa_nil)) pe_int))
      (pss_cons (ps_asg (pv 4) (pg_sub (pv 0) pe_int set_list))
      (pss_one (ps_ret (pe_op op_mod (pe_callTy call_int1 (by rfl) mi (by decide +kernel) (pa_cons (pe_op op_fdiv (pv 4) pe_int) pa_nil)) (pv 1)))))))))), ?_⟩
    refine ⟨_, rfl, _, _, rfl, rfl, _, rfl, ite2 (fun h1 => ?_) (fun h1 => ?_)⟩
    · have m0 : m = 0 := by
        have := of_decide_eq_true h1
        omega
      exact q H 0 (fun _ => rfl) (fun z => by omega) ⟨⟨seed, ms, hp, hc, hl, h0, s0, s1⟩, npc⟩ drawn_refl
    have mp : 0 < m := by
      have : ¬ ((m : Nat) : Int) < 1 := fun z => h1 (decide_eq_true z)
      omega
    refine ⟨_, rfl, p, _, 0, _, rfl, rfl, SqL.of hp, atI_nat (j := 0) rfl, ?_⟩
    -- while
    refine ⟨fun n σ H' => ∃ ks : List Int, σ = [some (.ref p), some (.int (m : Int)), some (.ref c), none, none] ∧ n = ks.length ∧ Drawn p c H H' ∧ H' p = some (.lst [.ref c, .int seed]) ∧ H' c = some (.lst (ks.map V.int)) ∧ ks.length ≤ 63 ∧ (∀ k ∈ ks, 0 ≤ k),
      ⟨ms.length, ms, rfl, rfl, drawn_refl, hp, hc, hl, h0⟩, ?_⟩
    rintro n σ H' ⟨ks, rfl, rfl, dr, hp', hc', hl', h0'⟩
    refine ⟨_, rfl, c, _, rfl, .inl (SqL.of hc'), _, _, rfl, rfl, _, rfl, ite2 (fun h2 => ?_) (fun h2 => ?_)⟩
    · obtain ⟨k, r, rfl⟩ : ∃ k r, ks = k :: r := by
        cases ks with
        | nil =>
          have := of_decide_eq_true h2
          exact absurd this (by decide)
        | cons k r => exact ⟨k, r, rfl⟩
      refine ⟨_, rfl, c, _, 0, .int k, rfl, rfl, SqL.of hc', atI_nat (j := 0) rfl, rfl, _, rfl, ite2 (fun h3 => ?_) (fun h3 => ?_)⟩
      · refine ⟨fun σ' H2 => ∃ n', n' < (k :: r).length ∧ ∃ ks : List Int, σ' = [some (.ref p), some (.int (m : Int)), some (.ref c), none, none] ∧ n' = ks.length ∧ Drawn p c H H2 ∧ H2 p = some (.lst [.ref c, .int seed]) ∧ H2 c = some (.lst (ks.map V.int)) ∧ ks.length ≤ 63 ∧ (∀ k ∈ ks, 0 ≤ k), fun _ _ z => z, ?_⟩
        refine ⟨_, rfl, .inl ⟨rfl, _, SqL.of hc'⟩, c, _, 0, 0, .int k, rfl, rfl, hc', by decide, by decide, ?_, rfl, ?_⟩
        · show seqIndex? 0 ((k :: r).map V.int).length = some 0
          show seqIndex? 0 (((k :: r).map V.int).length) = some 0
          exact seq0 (by rw [List.length_map, List.length_cons]; omega)
        · refine ⟨r.length, by show r.length < r.length + 1; omega, r, rfl, rfl, ?_, ?_, ?_, ?_, ?_⟩
          · intro b h1 h2
            rw [upd_ne h2]
            exact dr b h1 h2
          · rw [upd_ne npc]
            exact hp'
          · exact upd_same
          · have : r.length + 1 ≤ 63 := hl'
            omega
          · exact fun x hx => h0' x (List.mem_cons_of_mem _ hx)
      · have kne : k ≠ 0 := fun z => h3 (by rw [z]; rfl)
        have k1 := h0' k List.mem_cons_self
        refine ⟨_, rfl, c, _, rfl, .inl (SqL.of hc'), _, _, rfl, rfl, _, rfl, ite2 (fun _ => ?_) (fun z => absurd h2 z)⟩
        refine ⟨_, rfl, c, _, 0, .int k, rfl, rfl, SqL.of hc', atI_nat (j := 0) rfl, ?_⟩
        refine ⟨_, rfl, _, rfl, k, (m : Int), rfl, rfl, ⟨by omega, by omega⟩, _, rfl, c, _, 0, 0, rfl, rfl, hc', ix0 (by rw [List.length_map, List.length_cons]; omega), ?_⟩
        refine ⟨_, rfl, .inl ⟨_, rfl, _, rfl, _, _, rfl, rfl, by show (0 : Int) < (m : Int); omega, ?_⟩⟩
        have e1 : k % (m : Int) = (((k % (m : Int)).toNat : Nat) : Int) := (Int.toNat_of_nonneg (Int.emod_nonneg _ (by omega))).symm
        have e2 := Int.emod_lt_of_pos k (show (0 : Int) < (m : Int) by omega)
        show Q (V.int (k % (m : Int))) _
        rw [e1]
        refine q _ _ (fun z => by omega) (fun _ => by omega) ⟨⟨seed, (k / (m : Int)) :: r, ?_, ?_, hl', ?_, s0, s1⟩, npc⟩ ?_
        · rw [upd_ne npc]
          exact hp'
        · exact upd_same
        · intro x hx
          rcases List.mem_cons.mp hx with rfl | hx
          · exact Int.ediv_nonneg k1 (by omega)
          · exact h0' x (List.mem_cons_of_mem _ hx)
        · intro b z1 z2
          rw [upd_ne z2]
          exact dr b z1 z2
    · have e0 : ks = [] := by
        cases ks with
        | nil => rfl
        | cons k r => exact absurd (decide_eq_true (show (0 : Int) < (((k :: r).map V.int).length : Int) by rw [List.length_map, List.length_cons]; omega)) h2
      subst e0
      refine ⟨_, rfl, c, _, rfl, .inl (SqL.of hc'), _, _, rfl, rfl, _, rfl, ite2 (fun z => absurd z h2) (fun _ => ?_)⟩
      refine ⟨_, rfl, p, _, 1, _, rfl, rfl, SqL.of hp', atI_nat (j := 1) rfl, _, _, rfl, rfl, .inl ⟨by omega, by omega⟩, _, _, rfl, rfl, .inl ⟨_, rfl, _, _, rfl, rfl, by show (0 : Int) < 2147483647; decide, ?_⟩⟩
      have b0 := Int.emod_nonneg (seed * 48271 + 12345) (show (2147483647 : Int) ≠ 0 by decide)
      have b1 := Int.emod_lt_of_pos (seed * 48271 + 12345) (show (0 : Int) < 2147483647 by decide)
      refine ⟨_, rfl, _, rfl, p, _, 1, 1, rfl, rfl, hp', rfl, ?_⟩
      refine ⟨_, rfl, _, _, rfl, rfl, ⟨by show (0 : Int) < 64; decide, by show (64 : Int) < 1073741824; decide⟩, .inl ⟨_, rfl, _, rfl, _, _, rfl, rfl, by show (0 : Int) < (m : Int); omega, ?_⟩⟩
      have e1 : (seed * 48271 + 12345) % 2147483647 / 64 % (m : Int) = ((((seed * 48271 + 12345) % 2147483647 / 64 % (m : Int)).toNat : Nat) : Int) := (Int.toNat_of_nonneg (Int.emod_nonneg _ (by omega))).symm
      have e2 := Int.emod_lt_of_pos ((seed * 48271 + 12345) % 2147483647 / 64) (show (0 : Int) < (m : Int) by omega)
      show Q (V.int ((seed * 48271 + 12345) % 2147483647 / 64 % (m : Int))) _
      rw [e1]
      refine q _ _ (fun z => by omega) (fun _ => by omega) ⟨⟨(seed * 48271 + 12345) % 2147483647, [], upd_same, ?_, by decide, (fun x hx => nomatch hx), b0, by omega⟩, npc⟩ ?_
      · rw [upd_ne (Ne.symm npc)]
        exact hc'
      · intro b z1 z2
        rw [upd_ne z1]
        exact dr b z1 z2
/-! ### _law_pick -/
def spPick : Sp := fun vs H Q _ => ∃ (p c a : Addr) (xs : List V), vs = [.ref p, .ref a] ∧ H a = some (.lst xs) ∧ a ≠ p ∧ a ≠ c ∧ 0 < xs.length ∧ xs.length < 1000 ∧ StateAt H p c ∧
  ∀ H' v, v ∈ xs → StateAt H' p c → Drawn p c H H' → Q v H'
theorem ok_pick {f fD : Addr} {fd fdD : FuncData} (F : Fun K "_law_pick" "_law_pick" sPick f fd) (GD : FnOk P w K mg base CX0 1 fD fdD ["state", "many"] spDraw) (bD : Binds K fdD ["state", "many"] []) (gD : mg "_law_draw" = some (.ref fD)) (kD : PySem.W.keepIn K (.ref fD) = true) (ml : mg "len" = none) :
    FnOk P w K mg base CX0 2 f fd ["state", "row"] spPick := by
  refine F.ok scPick (fun vs H Q E h => ?_) (fun cdv A outer s H vs Q E hr h => ?_)
  · obtain ⟨p, c, a, xs, rfl, _⟩ := h
    rfl
  · obtain ⟨p, c, a, xs, rfl, ha, np, nc, l0, l1, st, q⟩ := h
    refine ⟨_, (pss_one (ps_ret (pe_ix ix_list (pv 1) (pe_call GD hr (by rfl) gD kD bD .nil pass0 (pa_cons (pv 0) (pa_cons (pe_callB call_len_seq (by rfl) ml PySem.boot_len (pa_cons (pv 1) pa_nil)) pa_nil))) (fun _ _ => rfl)))), ?_⟩
    refine ⟨_, rfl, _, rfl, _, rfl, a, _, rfl, .inl (SqL.of ha), p, c, xs.length, rfl, by omega, st, fun H' r _ hr2 st' dr => ?_⟩
    have lt := hr2 l0
    have ha' : H' a = some (.lst xs) := (dr a np nc).trans ha
    refine ⟨a, _, _, xs[r], rfl, rfl, SqL.of ha', atI_nat (List.getElem?_eq_getElem lt), ?_⟩
    exact q H' _ (List.getElem_mem lt) st' dr
end
end K10
namespace K10
open PySem PySem.Spec PyProof.Rows L2
theorem zl : 2000000 ≤ sizeLine := by
  rw [sizeLine_eq]
  decide
theorem same_new {a : Addr} {H : Hp} {o : HO} (e : H a = none) : Same H (upd H a o) := fun b o' e' => by
  rw [upd_ne (ne_of_none e' e)]
  exact e'
theorem same_upd {a : Addr} {H H1 : Hp} {o : HO} (e : H a = none) (s : Same H H1) : Same H (upd H1 a o) := fun b o' e' => by
  rw [upd_ne (ne_of_none e' e)]
  exact s b o' e'
theorem same_trans {H H1 H2 : Hp} (a : Same H H1) (b : Same H1 H2) : Same H H2 := fun x o e => b x o (a x o e)
theorem same_none {H H' : Hp} {a : Addr} (s : Same H H') (n : H' a = none) : H a = none := by
  cases e : H a with
  | none => rfl
  | some o =>
    rw [s a o e] at n
    cases n
theorem same_refl {H : Hp} : Same H H := fun _ _ e => e
theorem ixN_nat {n j : Nat} (h : j < n) : ixN n (j : Int) = some j := by
  unfold ixN
  rw [if_pos (by omega), if_pos (by omega), Int.toNat_natCast]
theorem atI_s {α : Type} {xs : List α} {j : Nat} {v : α} (h : xs[j + 1]? = some v) : atI xs ((j : Int) + 1) = some v := by
  have := atI_nat h
  rw [Int.natCast_add] at this
  exact this
theorem atI_end {α : Type} {xs : List α} {v : α} (h : xs[xs.length - 1]? = some v) : atI xs (-1) = some v := by
  have l := (List.getElem?_eq_some_iff.mp h).1
  have e : ixN xs.length (-1) = some (xs.length - 1) := by
    unfold ixN
    rw [if_neg (by decide), if_pos (by omega)]
    congr 1
    omega
  unfold atI
  rw [e]
  exact h
def lnV : Option Str → V
  | none => .non
  | some s => .str s
theorem scal_ln (x : Option Str) (y : Str) : scal (lnV x) (.str y) = true := by
  cases x <;> rfl
theorem dec_ln (x : Option Str) (y : Str) : decide (lnV x = V.str y) = decide (x = some y) := by
  cases x with
  | none => rfl
  | some s =>
    rw [Bool.eq_iff_iff]
    simp [lnV]
theorem get_map {α β : Type} {l : List α} {i : Nat} {x : α} (f : α → β) (h : l[i]? = some x) : (l.map f)[i]? = some (f x) := by
  rw [List.getElem?_map, h]
  rfl
theorem map_get {α β : Type} {l : List α} {i : Nat} {y : β} {f : α → β} (h : (l.map f)[i]? = some y) : ∃ x, l[i]? = some x ∧ f x = y := by
  rw [List.getElem?_map] at h
  exact Option.map_eq_some_iff.mp h
theorem flat_rep {α : Type} (n : Nat) (v : α) : (List.replicate n [v]).flatten = (List.range n).map fun _ => v := by
  induction n with
  | zero => rfl
  | succ n ih =>
    rw [List.replicate_succ', List.flatten_append, ih, List.range_succ, List.map_append]
    rfl
theorem upd_self {H : Hp} {a : Addr} {o : HO} (h : H a = some o) : upd H a o = H := by
  funext b
  by_cases e : b = a
  · rw [e, upd_same, h]
  · rw [upd_ne e]
theorem to_dec {R : Bool → Hp → Prop} {H : Hp} {x y : Bool} (e : x = y) (h : R y H) : R x H := e ▸ h
/-- a test of two parts; the parts may lay new objects -/
theorem and_dec {tA tB : TT} {σ : L2.St} {H : Hp} {Q : Bool → Hp → Prop} {p q : Prop} [Decidable p] [Decidable q] (hA : ∀ R : Bool → Hp → Prop, (∀ H1, Same H H1 → R (decide p) H1) → tA σ H R)
    (hB : p → ∀ H1, Same H H1 → ∀ R : Bool → Hp → Prop, (∀ H2, Same H1 H2 → R (decide q) H2) → tB σ H1 R) (h : ∀ H2, Same H H2 → Q (decide (p ∧ q)) H2) : tAnd tA tB σ H Q := by
  refine hA _ fun H1 s1 => ?_
  by_cases hp : p
  · show if decide p = true then tB σ H1 Q else Q false H1
    rw [decide_eq_true hp]
    refine hB hp H1 s1 Q fun H2 s2 => ?_
    have := h H2 (same_trans s1 s2)
    rw [show decide (p ∧ q) = decide q from decide_eq_decide.mpr ⟨fun z => z.2, fun z => ⟨hp, z⟩⟩] at this
    exact this
  · show if decide p = true then tB σ H1 Q else Q false H1
    rw [decide_eq_false hp]
    have := h H1 s1
    rw [decide_eq_false (fun z => hp z.1)] at this
    exact this
theorem or_dec {tA tB : TT} {σ : L2.St} {H : Hp} {Q : Bool → Hp → Prop} {p q : Prop} [Decidable p] [Decidable q] (hA : ∀ R : Bool → Hp → Prop, (∀ H1, Same H H1 → R (decide p) H1) → tA σ H R)
    (hB : ¬ p → ∀ H1, Same H H1 → ∀ R : Bool → Hp → Prop, (∀ H2, Same H1 H2 → R (decide q) H2) → tB σ H1 R) (h : ∀ H2, Same H H2 → Q (decide (p ∨ q)) H2) : tOr tA tB σ H Q := by
  refine hA _ fun H1 s1 => ?_
  by_cases hp : p
  · show if decide p = true then Q true H1 else tB σ H1 Q
    rw [decide_eq_true hp]
    have := h H1 s1
    rw [decide_eq_true (Or.inl hp)] at this
    exact this
  · show if decide p = true then Q true H1 else tB σ H1 Q
    rw [decide_eq_false hp]
    refine hB hp H1 s1 Q fun H2 s2 => ?_
    have := h H2 (same_trans s1 s2)
    rw [show decide (p ∨ q) = decide q from decide_eq_decide.mpr ⟨fun z => z.resolve_left hp, fun z => .inr z⟩] at this
    exact this
theorem dec_lt {α : Type} {i : Nat} {l : List α} {f : α → V} : decide ((i : Int) < ((l.map f).length : Int)) = decide (i < l.length) := by
  rw [List.length_map]
  exact decide_eq_decide.mpr Int.ofNat_lt
theorem dec_nat {i j : Nat} : decide ((V.int (i : Int)) = V.int (j : Int)) = decide (i = j) := by
  refine decide_eq_decide.mpr ⟨fun z => ?_, fun z => by rw [z]⟩
  have := V.int.inj z
  omega
end K10
namespace K10
open PySem PySem.Spec PyProof.Rows L2 TR
abbrev sCT : Stmt := topS 6
abbrev nCT : List Str := ["text", "many", "size", "at", "sign"]
theorem scCT : FnScope nCT ["text"] (defScope sCT) := ⟨rfl, rfl, rfl, by decide +kernel, rfl, by decide +kernel, by decide +kernel⟩
/-- the way out by the error of a text -/
def Out (C : Addr) (E : XK) (n : Nat) (H : Hp) : Prop := ∀ e, H e = none → E (.ref C) (some e) (upd H e (.xd [("at", .int (n : Int))]))
def spCT (C : Addr) : Sp := fun vs H Q E => ∃ (x : Str), vs = [.str x] ∧ okT (tl x) ∧ x.length ≤ 100000 ∧
  (fault (tl x) 0 0 0 = none → ∀ H', Same H H' → Q .non H') ∧ ∀ n, fault (tl x) 0 0 0 = some n → ∀ H', Same H H' → Out C E n H'
theorem fault_step {l : List Nat} {i m s c : Nat} (h : l[i]? = some c) : fault (l.drop i) i m s = if m = 200 then some i else if c = 10 then fault (l.drop (i + 1)) (i + 1) (m + 1) 0 else if s = 40 then some i else fault (l.drop (i + 1)) (i + 1) m (s + 1) := by
  have e : l.drop i = c :: l.drop (i + 1) := by
    obtain ⟨hi, e⟩ := List.getElem?_eq_some_iff.mp h
    rw [List.drop_eq_getElem_cons hi, e]
  rw [e]
  rfl
theorem chr_lt (a b : Nat) : decide ((#[a] : Array Nat).toList < (#[b] : Array Nat).toList) = decide (a < b) := by
  refine decide_eq_decide.mpr ?_
  show [a] < [b] ↔ a < b
  constructor
  · intro h
    cases h with
    | rel h => exact h
    | cons h => cases h
  · exact fun h => List.Lex.rel h
theorem nl_str : Str.ofString "\n" = ⟨#[10]⟩ := by decide +kernel
theorem chr_nl {c : Nat} : V.str ⟨#[c]⟩ = V.str (Str.ofString "\n") ↔ c = 10 := by
  rw [nl_str]
  constructor
  · intro h
    injection h with h
    injection h with h
    simpa using h
  · intro h
    rw [h]
theorem int_k {m k : Nat} (h : decide (V.int (m : Int) = V.int (k : Int)) = true) : m = k := by
  have := V.int.inj (of_decide_eq_true h)
  omega
theorem int_nk {m k : Nat} (h : ¬ decide (V.int (m : Int) = V.int (k : Int)) = true) : ¬ m = k := fun z => h (by rw [z]; exact decide_eq_true rfl)
theorem sp_le {c : Nat} : (!decide ((⟨#[c]⟩ : Str).cps.toList < (Str.ofString " ").cps.toList)) = decide (32 ≤ c) := by
  rw [show Str.ofString " " = ⟨#[32]⟩ by decide +kernel]
  show (!decide ((#[c] : Array Nat).toList < (#[32] : Array Nat).toList)) = _
  rw [chr_lt, ← decide_not]
  exact decide_eq_decide.mpr Nat.not_lt
theorem le_ti {c : Nat} : (!decide ((Str.ofString "~").cps.toList < (⟨#[c]⟩ : Str).cps.toList)) = decide (c ≤ 126) := by
  rw [show Str.ofString "~" = ⟨#[126]⟩ by decide +kernel]
  show (!decide ((#[126] : Array Nat).toList < (#[c] : Array Nat).toList)) = _
  rw [chr_lt, ← decide_not]
  exact decide_eq_decide.mpr Nat.not_lt
section
variable {P : Program} {w : World} {K : PySem.W.Frag} {mg : Str → Option Value} {base : Heap} {C fI : Addr} {tML tMS : Tok}
theorem ok_CT {f : Addr} {fd : FuncData} (F : Fun K "check_text" "check_text" sCT f fd) (L : PySem.TextX.TextTxt K mg C fI) (gML : mg "MOST_LINES" = some (.int 200 tML)) (gMS : mg "MOST_SIGNS" = some (.int 40 tMS))
    (m_enumerate : mg "enumerate" = none) (m_len : mg "len" = none) : FnOk P w K mg base (L2.CX P w) 3 f fd ["text"] (spCT C) := by
  refine F.okX scCT (fun vs H Q E h => ?_) (fun cdv A outer s H vs Q E hr h => ?_)
  · obtain ⟨x, rfl, _⟩ := h
    rfl
  · obtain ⟨x, rfl, ok, hx, q1, q2⟩ := h
    refine ⟨_, (pss_cons (ps_asg (pe_tup (pa_cons (pe_int) (pa_cons (pe_int) pa_nil))) (pg_tup (by rfl) (pgs_cons (pg_name (i := 1) scCT.nd rfl (.inl rfl)) (pgs_cons (pg_name (i := 2) scCT.nd rfl (.inl rfl)) pgs_nil))))
      (pss_cons (ps_for (passes_of rfl) rfl (TR.pi_enumS (by rfl) m_enumerate (pa_cons (pv 0) pa_nil)) (pg_tup (by rfl) (pgs_cons (pg_name (i := 3) scCT.nd rfl (.inl rfl)) (pgs_cons (pg_name (i := 4) scCT.nd rfl (.inl rfl)) pgs_nil)))
      (pss_cons (ps_if (pt_cmpR op_eq (pv 1) (pe_glob (v := V.int 200) (by rfl) gML ⟨_, rfl⟩) (nomark _))
      (pss_one (ps_raiseText rfl L hr (takes_of rfl rfl rfl rfl) (by exact (pa_cons (pv 3) pa_nil)))) pss_nil)
      (pss_one (ps_if (pt_cmpR op_eq (pv 4) (pe_str) (nomark _))
      (pss_one (ps_par (i := 1) (j := 2) (by rfl) scCT.nd rfl rfl (by decide) rfl rfl (pa_cons (pe_op op_add (pv 1) (pe_int)) (pa_cons (pe_int) pa_nil)) (by rfl))) (pss_one (ps_if (PW.pt (pw_or (pt_cmpR op_eq (pv 2) (pe_glob (v := V.int 40) (by rfl) gMS ⟨_, rfl⟩) (nomark _)) (pw_or1 (pt_not (pt_chain op_le_str op_le_str (pe_str) (pv 4) (pe_str))))))
      (pss_one (ps_raiseText rfl L hr (takes_of rfl rfl rfl rfl) (by exact (pa_cons (pv 3) pa_nil)))) (pss_one (ps_aug (i := 2) scCT.nd rfl (.inl rfl) (pe_int) ip_add))))))))
      (pss_one (ps_if (pt_cmpR op_gt (pv 2) (pe_int) (nomark _))
      (pss_one (ps_raiseText rfl L hr (takes_of rfl rfl rfl rfl) (by exact (pa_cons (pe_callB call_len_str (by rfl) m_len PySem.boot_len (pa_cons (pv 0) pa_nil)) pa_nil)))) pss_nil)))), ?_⟩
    refine ⟨by show 2 ≤ sizeLine; decide, fun t nt => ⟨t, _, rfl, SqT.of upd_same, rfl, _, _, rfl, _, _, rfl, rfl, ?_⟩⟩
    refine ⟨_, rfl, x, rfl, for_enumS (x := x) (fun i σ H' => ∃ (m s : Nat) (y3 y4 : Option V), σ = [some (.str x), some (.int (m : Int)), some (.int (s : Int)), y3, y4] ∧ fault ((tl x).drop i) i m s = fault (tl x) 0 0 0 ∧ Same H H') ⟨0, 0, none, none, rfl, rfl, same_new nt⟩ ?_ ?_⟩
    · rintro i c T σ H' hc ⟨m, s, y3, y4, rfl, e, sm⟩ nT
      rw [fault_step hc] at e
      have sm2 : Same H (upd H' T (.tup [.int (i : Nat), .str ⟨#[c]⟩])) := same_trans sm (same_new nT)
      have okc := ok c (List.mem_of_getElem? hc)
      refine ⟨T, _, rfl, SqT.of upd_same, rfl, _, _, rfl, _, _, rfl, rfl, ?_⟩
      refine ⟨_, rfl, rfl, _, rfl, ite2 (fun h1 => ?_) (fun h1 => ?_)⟩
      · have h1 : m = 200 := int_k (k := 200) h1
        rw [if_pos h1] at e
        exact ⟨_, rfl, _, rfl, q2 i e.symm _ sm2⟩
      · have h1 : ¬ m = 200 := int_nk (k := 200) h1
        rw [if_neg h1] at e
        refine ⟨_, rfl, rfl, _, rfl, ite2 (fun h2 => ?_) (fun h2 => ?_)⟩
        · have h2 : c = 10 := chr_nl.mp (of_decide_eq_true h2)
          rw [if_pos h2] at e
          exact ⟨_, rfl, _, _, rfl, rfl, _, _, rfl, m + 1, 0, _, _, rfl, e, sm2⟩
        · have h2 : ¬ c = 10 := fun z => h2 (decide_eq_true (chr_nl.mpr z))
          rw [if_neg h2] at e
          have okc := okc.resolve_left h2
          dsimp only [tNext, tSeq, tIfS, tAsg, gName, tC]
          refine or_dec (p := s = 40) (q := False) (fun R k => ⟨_, rfl, rfl, _, rfl, ?_⟩) (fun _ H2 s2 R k => ⟨_, rfl, _, _, rfl, rfl, true, ?_, _, _, rfl, rfl, true, ?_, k _ same_refl⟩) fun H2 s2 => ite2 (fun h3 => ?_) (fun h3 => ?_)
          · refine to_dec ?_ (k _ same_refl)
            exact decide_eq_decide.mpr ⟨fun z => by have := V.int.inj z; omega, fun z => by rw [z]; rfl⟩
          · rw [sp_le, decide_eq_true okc.1]
          · rw [le_ti, decide_eq_true okc.2]
          · have h3 := of_decide_eq_true h3
            have h4 : s = 40 := h3.resolve_right id
            rw [if_pos h4] at e
            exact ⟨_, rfl, _, rfl, q2 i e.symm _ (same_trans sm2 s2)⟩
          · have h4 : ¬ s = 40 := fun z => h3 (decide_eq_true (.inl z))
            rw [if_neg h4] at e
            exact ⟨_, rfl, _, _, rfl, rfl, m, s + 1, _, _, rfl, e, same_trans sm2 s2⟩
    · rintro σ H' ⟨m, s, y3, y4, rfl, e, sm⟩
      rw [List.drop_eq_nil_of_le (Nat.le_refl _)] at e
      have e0 : ∀ a, fault [] a m s = if s = 0 then none else some a := fun _ => rfl
      rw [e0] at e
      dsimp only [tNext, tSeq, tIfS, tAsg, gName, tC]
      refine ⟨_, rfl, _, _, rfl, rfl, _, rfl, ite2 (fun h1 => ?_) (fun h1 => ?_)⟩
      · have h1 := of_decide_eq_true h1
        rw [if_neg (by omega)] at e
        exact ⟨_, rfl, x, rfl, (by have := zl; omega), _, rfl, q2 _ e.symm _ sm⟩
      · have h1 : ¬ (0 : Int) < s := fun z => h1 (decide_eq_true z)
        rw [if_pos (by omega)] at e
        exact q1 e.symm _ sm
end
end K10
namespace K10
open PySem PySem.Spec PyProof.Rows L2 TR
abbrev sLO : Stmt := topS 7
abbrev nLO : List Str := ["text"]
theorem scLO : FnScope nLO ["text"] (defScope sLO) := ⟨rfl, rfl, rfl, by decide +kernel, rfl, by decide +kernel, by decide +kernel⟩
abbrev sJO : Stmt := topS 8
abbrev nJO : List Str := ["lines", "line"]
theorem scJO : FnScope nJO ["lines"] (defScope sJO) := ⟨rfl, rfl, rfl, by decide +kernel, rfl, by decide +kernel, by decide +kernel⟩
abbrev strV (P : List (List Nat)) : List V := P.map fun p => V.str (Sg p)
def spLO (C : Addr) : Sp := fun vs H Q E => ∃ (x : Str), vs = [.str x] ∧ okT (tl x) ∧ x.length ≤ 100000 ∧
  (fault (tl x) 0 0 0 = none → ∀ H' r, Same H H' → H' r = none → Q (.ref r) (upd H' r (.lst (strV (cutAt 10 (tl x)).dropLast)))) ∧ ∀ n, fault (tl x) 0 0 0 = some n → ∀ H', Same H H' → Out C E n H'
def spJO : Sp := fun vs H Q _ => ∃ (a : Addr) (P : List (List Nat)), vs = [.ref a] ∧ H a = some (.lst (strV P)) ∧ (∀ p ∈ P, okL p) ∧ P.length ≤ 1000 ∧ ∀ H', Same H H' → Q (.str (Sg (flatN P))) H'
theorem cutV_last (xs : List V) : cutV xs none (some (-1)) = xs.dropLast := by
  unfold cutV
  have e1 : HT.sIx xs.length 0 none = 0 := by
    unfold HT.sIx
    simp
  have e2 : HT.sIx xs.length xs.length (some (-1)) = xs.length - 1 := by
    unfold HT.sIx
    simp
    omega
  rw [e1, e2, List.drop_zero, Nat.sub_zero, ← List.dropLast_eq_take]
theorem sum_len : ∀ {P : List (List Nat)}, (∀ p ∈ P, okL p) → ((P.map fun p => Sg (p ++ [10])).map (·.length)).sum ≤ 51 * P.length
  | [], _ => Nat.le_refl _
  | p :: r, h => by
    have a := (h p List.mem_cons_self).2
    have b := sum_len (P := r) fun x hx => h x (List.mem_cons_of_mem _ hx)
    rw [List.map_cons, List.map_cons, List.sum_cons, List.length_cons]
    have e : (Sg (p ++ [10])).length = p.length + 1 := by rw [len_tl]; show (p ++ [10]).length = _; rw [List.length_append]; rfl
    rw [e]
    omega
section
variable {P : Program} {w : World} {K : PySem.W.Frag} {mg : Str → Option Value} {base : Heap} {C fI : Addr} {tML tMS : Tok}
theorem ok_LO {f fCT : Addr} {fd fdCT : FuncData} (F : Fun K "lines_of" "lines_of" sLO f fd)
    (GCT : FnOk P w K mg base (L2.CX P w) 3 fCT fdCT ["text"] (spCT C)) (bCT : Binds K fdCT ["text"] []) (gCT : mg "check_text" = some (.ref fCT)) (kCT : PySem.W.keepIn K (.ref fCT) = true) :
    FnOk P w K mg base (L2.CX P w) 4 f fd ["text"] (spLO C) := by
  refine F.okX scLO (fun vs H Q E h => ?_) (fun cdv A outer s H vs Q E hr h => ?_)
  · obtain ⟨x, rfl, _⟩ := h
    rfl
  · obtain ⟨x, rfl, ok, hx, q1, q2⟩ := h
    refine ⟨_, (pss_cons (ps_expr (pe_call GCT hr (by rfl) gCT kCT bCT .nil (passes_call (takes_of rfl rfl rfl rfl) (fun _ _ _ _ h => h)) (pa_cons (pv 0) pa_nil)))
      (pss_one (ps_ret (pe_slice sl_list (pe_split (pv 0) (pe_str)) (po_none) (po_some (pe_un un_neg (pe_int))))))), ?_⟩
    refine ⟨_, rfl, x, rfl, ok, hx, fun e H1 s1 => ?_, fun n e H1 s1 => ?_⟩
    · refine ⟨_, rfl, ⟨_, rfl⟩, x, _, rfl, rfl, by decide +kernel, by have := zl; omega, fun p np => ?_⟩
      refine ⟨_, rfl, _, rfl, p, _, rfl, SqL.of upd_same, fun r nr => ?_⟩
      rw [nl_str, split_cut, List.map_map] at nr
      rw [nl_str, split_cut, cutV_last, List.map_map, ← List.map_dropLast]
      exact q1 e _ _ (same_trans s1 (same_new np)) nr
    · exact q2 n e H1 s1
theorem ok_JO {f : Addr} {fd : FuncData} (F : Fun K "joined" "joined" sJO f fd) : FnOk P w K mg base CX0 1 f fd ["lines"] spJO := by
  refine F.ok scJO (fun vs H Q E h => ?_) (fun cdv A outer s H vs Q E hr h => ?_)
  · obtain ⟨a, ls, rfl, _⟩ := h
    rfl
  · obtain ⟨a, ls, rfl, ha, ok, hl, q⟩ := h
    have hu := hr.units
    have hu1 := hu_of hr
    have zl := zl
    refine ⟨_, (pss_one (ps_ret (pe_join (pe_str) (pe_lc (own := [("line", 1)]) (g := gName 1) (tt := tYes) (te := _) rfl scJO.nd (pi_list (pv 0)) (blkOk_by (N := nJO) (sc := defScope sJO) (by decide +kernel)) (fun _ _ _ _ _ => by exact pg_name (i := 1) scJO.nd rfl (.inl rfl)) (fun _ _ _ _ _ => pts_nil) (fun _ _ _ _ _ => by exact pe_op op_add_str (pv 1) (pe_str)))))), ?_⟩
    have z2 := zl
    refine ⟨⟨_, rfl⟩, _, rfl, a, rfl, ⟨_, SqL.of ha⟩, fun D nD => ?_⟩
    refine lc_list (xs := strV ls) (fun k H2 => H2 = upd H D (.lst ((ls.take k).map fun p => V.str (Sg (p ++ [10]))))) rfl ?_ ?_ ?_
    · rintro k H2 _ rfl
      exact SqL.of (same_new nD _ _ ha)
    · rintro k y H2 hy rfl
      obtain ⟨p, hp, rfl⟩ := map_get hy
      have okp := ok p (List.mem_of_getElem? hp)
      refine ⟨rfl, ?_⟩
      refine ⟨_, rfl, _, _, rfl, rfl, ?_, _, upd_same, ?_, ?_⟩
      · rw [nl_str, len_tl, len_tl]
        have := okp.2
        show p.length + 1 ≤ sizeLine
        omega
      · rw [List.length_map, List.length_take]
        omega
      · rw [upd_upd, List.take_add_one, hp, List.map_append, nl_str, show Sg p ++ ⟨#[10]⟩ = Sg (p ++ [10]) from ext_tl (tl_app _ _)]
        rfl
    · rintro H2 rfl
      rw [List.length_map, List.take_length]
      refine ⟨_, D, ls.map fun p => Sg (p ++ [10]), rfl, rfl, .inl (SqL.of (by rw [List.map_map]; exact upd_same)), ?_, ?_⟩
      · have := sum_len ok
        rw [show (Str.ofString "").length = 0 by decide +kernel]
        omega
      · have e : Txt.join (Str.ofString "") (ls.map fun p => Sg (p ++ [10])) = Sg (flatN ls) := by
          rw [show Str.ofString "" = Str.empty by decide +kernel, txt_join0, List.map_map, ← flat_flatten]
          rfl
        rw [e]
        exact q _ (same_new nD)
end
end K10
namespace K10
open PySem PySem.Spec PyProof.Rows L2 TR
abbrev sLI : Stmt := topS 13
abbrev nLI : List Str := ["state", "size", "letter"]
theorem scLI : FnScope nLI ["state"] (defScope sLI) := ⟨rfl, rfl, rfl, by decide +kernel, rfl, by decide +kernel, by decide +kernel⟩
abbrev sLF : Stmt := topS 14
abbrev nLF : List Str := ["text", "start", "count", "at"]
theorem scLF : FnScope nLF ["text"] (defScope sLF) := ⟨rfl, rfl, rfl, by decide +kernel, rfl, by decide +kernel, by decide +kernel⟩
/-- draws were made, objects laid: the state stands, the others stand as before -/
structure Dr (p c : Addr) (H H' : Hp) : Prop where
  st : StateAt H' p c
  ou : ∀ b o, b ≠ p → b ≠ c → H b = some o → H' b = some o
theorem StateAt.some {H : Hp} {p c : Addr} (s : StateAt H p c) : (∃ o, H p = Option.some (.lst o)) ∧ ∃ o, H c = Option.some (.lst o) := by
  obtain ⟨⟨seed, ms, h1, h2, _⟩, _⟩ := s
  exact ⟨⟨_, h1⟩, ⟨_, h2⟩⟩
theorem StateAt.same {H H' : Hp} {p c : Addr} (s : StateAt H p c) (k : Same H H') : StateAt H' p c := s.mono (fun o e => k _ _ e) (fun o e => k _ _ e)
theorem Dr.refl {p c : Addr} {H : Hp} (s : StateAt H p c) : Dr p c H H := ⟨s, fun _ _ _ _ e => e⟩
theorem Dr.trans {p c : Addr} {H H1 H2 : Hp} (a : Dr p c H H1) (b : Dr p c H1 H2) : Dr p c H H2 := ⟨b.st, fun x o n1 n2 e => b.ou x o n1 n2 (a.ou x o n1 n2 e)⟩
theorem Dr.same {p c : Addr} {H H1 H2 : Hp} (a : Dr p c H H1) (b : Same H1 H2) : Dr p c H H2 := ⟨a.st.same b, fun x o n1 n2 e => b _ _ (a.ou x o n1 n2 e)⟩
theorem Dr.drawn {p c : Addr} {H H1 H2 : Hp} (a : Dr p c H H1) (s : StateAt H2 p c) (b : Drawn p c H1 H2) : Dr p c H H2 := ⟨s, fun x o n1 n2 e => (b x n1 n2).trans (a.ou x o n1 n2 e)⟩
theorem Dr.none {p c : Addr} {H H1 : Hp} {x : Addr} (a : Dr p c H H1) (n : H1 x = none) : H x = none := by
  obtain ⟨⟨_, e1⟩, ⟨_, e2⟩⟩ := a.st.some
  cases e : H x with
  | none => rfl
  | some o =>
    have n1 : x ≠ p := fun z => by rw [z, e1] at n; cases n
    have n2 : x ≠ c := fun z => by rw [z, e2] at n; cases n
    rw [a.ou x o n1 n2 e] at n
    cases n
theorem StateAt.new {H : Hp} {p c x : Addr} (s : StateAt H p c) (n : H x = none) : x ≠ p ∧ x ≠ c := by
  obtain ⟨⟨_, e1⟩, ⟨_, e2⟩⟩ := s.some
  exact ⟨fun z => (by rw [z, e1] at n; cases n), fun z => (by rw [z, e2] at n; cases n)⟩
theorem StateAt.upd {H : Hp} {p c x : Addr} {o : HO} (s : StateAt H p c) (n : x ≠ p ∧ x ≠ c) : StateAt (L2.upd H x o) p c :=
  s.mono (fun q e => by rw [upd_ne (Ne.symm n.1)]; exact e) (fun q e => by rw [upd_ne (Ne.symm n.2)]; exact e)
def spLI : Sp := fun vs H Q _ => ∃ (p c : Addr), vs = [.ref p] ∧ StateAt H p c ∧ ∀ (H' : Hp) (l : List Nat), okL l → Dr p c H H' → Q (.str (Sg l)) H'
def natO : Option Nat → V
  | none => .non
  | some n => .int (n : Int)
def spLF : Sp := fun vs H Q _ => ∃ (x : Str), vs = [.str x] ∧ x.length ≤ 100000 ∧ ∀ H', Same H H' → Q (natO (fault (tl x) 0 0 0)) H'
theorem letter {v : V} (hv : v ∈ ([.str (Str.ofString "a"), .str (Str.ofString " "), .str (Str.ofString "~"), .str (Str.ofString "|"), .str (Str.ofString "0")] : List V)) : ∃ d, v = .str ⟨#[d]⟩ ∧ 32 ≤ d ∧ d ≤ 126 := by
  simp only [List.mem_cons, List.not_mem_nil, or_false] at hv
  rcases hv with rfl | rfl | rfl | rfl | rfl
  · exact ⟨97, by decide +kernel, by decide, by decide⟩
  · exact ⟨32, by decide +kernel, by decide, by decide⟩
  · exact ⟨126, by decide +kernel, by decide, by decide⟩
  · exact ⟨124, by decide +kernel, by decide, by decide⟩
  · exact ⟨48, by decide +kernel, by decide, by decide⟩
section
variable {P : Program} {w : World} {K : PySem.W.Frag} {mg : Str → Option Value} {base : Heap}
theorem ok_LI {f fD fP : Addr} {fd fdD fdP : FuncData} (F : Fun K "_law_line" "_law_line" sLI f fd)
    (GD : FnOk P w K mg base CX0 1 fD fdD ["state", "many"] spDraw) (bD : Binds K fdD ["state", "many"] []) (gD : mg "_law_draw" = some (.ref fD)) (kD : PySem.W.keepIn K (.ref fD) = true)
    (GP : FnOk P w K mg base CX0 2 fP fdP ["state", "row"] spPick) (bP : Binds K fdP ["state", "row"] []) (gP : mg "_law_pick" = some (.ref fP)) (kP : PySem.W.keepIn K (.ref fP) = true) : FnOk P w K mg base CX0 3 f fd ["state"] spLI := by
  refine F.ok scLI (fun vs H Q E h => ?_) (fun cdv A outer s H vs Q E hr h => ?_)
  · obtain ⟨p, c, rfl, _⟩ := h
    rfl
  · obtain ⟨p, c, rfl, st, q⟩ := h
    have hu := hr.units
    have hu1 := hu_of hr
    have hr1 : Room 1 _ := hr.mono (by decide)
    have hr2 : Room 2 _ := hr.mono (by decide)
    have zl := zl
    refine ⟨_, (pss_cons (ps_set (i := 1) scLI.nd rfl (.inl rfl) (pe_call GD hr1 (by rfl) gD kD bD .nil pass0 (pa_cons (pv 0) (pa_cons (pe_int) pa_nil))))
      (pss_cons (ps_if (pt_cmpR op_eq (pe_call GD hr1 (by rfl) gD kD bD .nil pass0 (pa_cons (pv 0) (pa_cons (pe_int) pa_nil))) (pe_int) (nomark _))
      (pss_one (ps_set (i := 1) scLI.nd rfl (.inl rfl) (pe_op op_add (pe_int) (pe_call GD hr1 (by rfl) gD kD bD .nil pass0 (pa_cons (pv 0) (pa_cons (pe_int) pa_nil)))))) pss_nil)
      (pss_cons (ps_set (i := 2) scLI.nd rfl (.inl rfl) (pe_call GP hr2 (by rfl) gP kP bP .nil pass0 (pa_cons (pv 0) (pa_cons (pe_lst (pa_cons (pe_str) (pa_cons (pe_str) (pa_cons (pe_str) (pa_cons (pe_str) (pa_cons (pe_str) pa_nil)))))) pa_nil))))
      (pss_one (ps_ret (pe_op TR.op_repS (pv 2) (pv 1))))))), ?_⟩
    have rest : ∀ (H1 : Hp) (k : Int), Dr p c H H1 → 0 ≤ k → k ≤ 50 → ∀ a, H1 a = none → ∀ (H2 : Hp) (v : V), v ∈ ([.str (Str.ofString "a"), .str (Str.ofString " "), .str (Str.ofString "~"), .str (Str.ofString "|"), .str (Str.ofString "0")] : List V) → StateAt H2 p c →
        Drawn p c (upd H1 a (.lst [.str (Str.ofString "a"), .str (Str.ofString " "), .str (Str.ofString "~"), .str (Str.ofString "|"), .str (Str.ofString "0")])) H2 → rRepS v (.int k) H2 Q := by
      intro H1 k dr h0 h1 a na H2 v hv st2 d2
      obtain ⟨d, rfl, d1, d3⟩ := letter hv
      refine ⟨_, _, rfl, rfl, by omega, by omega, by show 1 ≤ 1000; decide, q _ _ (okL_rep rfl (fun c hc => ?_) h1) ((dr.same (same_new na)).drawn st2 d2)⟩
      have e : c = d := by simpa using hc
      rw [e]
      exact ⟨d1, d3⟩
    have zl2 := zl
    refine ⟨_, rfl, p, c, 5, rfl, by decide, st, fun H1 k1 _ lk1 st1 d1 => ?_⟩
    have dr1 : Dr p c H H1 := (Dr.refl st).drawn st1 d1
    have lk1 := lk1 (by decide)
    dsimp only [tNext, tSeq, tIfS, tAsg, gName, tC]
    refine ⟨_, rfl, p, c, 8, rfl, by decide, st1, fun H2 k2 _ lk2 st2 d2 => ⟨rfl, _, rfl, ite2 (fun h1 => ?_) (fun h1 => ?_)⟩⟩
    · refine ⟨_, rfl, p, c, 7, rfl, by decide, st2, fun H3 k3 _ lk3 st3 d3 => ⟨_, _, rfl, rfl, ?_⟩⟩
      have lk3 := lk3 (by decide)
      have dr3 := (dr1.drawn st2 d2).drawn st3 d3
      refine ⟨_, rfl, by show 5 ≤ sizeLine; omega, fun a na => ⟨p, c, a, _, rfl, upd_same, (st3.new na).1, (st3.new na).2, by show 0 < 5; decide, by show 5 < 1000; decide, st3.upd (st3.new na), fun H4 v hv st4 d4 => ?_⟩⟩
      exact ⟨_, rfl, _, rfl, rest H3 _ dr3 (by omega) (by omega) a na H4 v hv st4 d4⟩
    · have dr2 := dr1.drawn st2 d2
      refine ⟨_, rfl, by show 5 ≤ sizeLine; omega, fun a na => ⟨p, c, a, _, rfl, upd_same, (st2.new na).1, (st2.new na).2, by show 0 < 5; decide, by show 5 < 1000; decide, st2.upd (st2.new na), fun H4 v hv st4 d4 => ?_⟩⟩
      exact ⟨_, rfl, _, rfl, rest H2 _ dr2 (by omega) (by omega) a na H4 v hv st4 d4⟩
theorem ok_LF {f : Addr} {fd : FuncData} (F : Fun K "_law_fault" "_law_fault" sLF f fd)
    (m_len : mg "len" = none) (m_range : mg "range" = none) : FnOk P w K mg base CX0 1 f fd ["text"] spLF := by
  refine F.ok scLF (fun vs H Q E h => ?_) (fun cdv A outer s H vs Q E hr h => ?_)
  · obtain ⟨x, rfl, _⟩ := h
    rfl
  · obtain ⟨x, rfl, hx, q⟩ := h
    have hu := hr.units
    have hu1 := hu_of hr
    have zl := zl
    refine ⟨_, (pss_cons (ps_set (i := 1) scLF.nd rfl (.inl rfl) (pe_int))
      (pss_cons (ps_set (i := 2) scLF.nd rfl (.inl rfl) (pe_int))
      (pss_cons (ps_for PassesOwn.never rfl (pi_range1 (by rfl) m_range (pa_cons (pe_callB call_len_str (by rfl) m_len PySem.boot_len (pa_cons (pv 0) pa_nil)) pa_nil)) (pg_name (i := 3) scLF.nd rfl (.inl rfl))
      (pss_cons (ps_if (pt_cmpR op_eq (pv 2) (pe_int) (nomark _))
      (pss_one (ps_ret (pv 3))) pss_nil)
      (pss_one (ps_if (pt_cmpR op_eq (pe_ix ix_str (pv 0) (pv 3) (fun _ _ => rfl)) (pe_str) (nomark _))
      (pss_cons (ps_set (i := 2) scLF.nd rfl (.inl rfl) (pe_op op_add (pv 2) (pe_int)))
      (pss_one (ps_set (i := 1) scLF.nd rfl (.inl rfl) (pe_op op_add (pv 3) (pe_int))))) (pss_one (ps_if (pt_cmpR op_eq (pv 3) (pe_op op_add (pv 1) (pe_int)) (nomark _))
      (pss_one (ps_ret (pv 3))) pss_nil))))))
      (pss_one (ps_ret (pe_ifExp (pt_cmpR op_eq (pv 1) (pe_callB call_len_str (by rfl) m_len PySem.boot_len (pa_cons (pv 0) pa_nil)) (nomark _)) (pe_non) (pe_callB call_len_str (by rfl) m_len PySem.boot_len (pa_cons (pv 0) pa_nil)))))))), ?_⟩
    have zl2 := zl
    refine ⟨_, rfl, x, rfl, by omega, _, rfl, by have := hx; omega, by have := hx; omega, for_range (lo := 0) (fun i σ H' => ∃ (m s a : Nat) (y3 : Option V), σ = [some (.str x), some (.int (a : Int)), some (.int (m : Int)), y3] ∧ a + s = i ∧ fault ((tl x).drop i) i m s = fault (tl x) 0 0 0 ∧ H' = H) ⟨0, 0, 0, none, rfl, rfl, rfl, rfl⟩ ?_ ?_⟩
    · rintro i σ H' hi ⟨m, s, a, y3, rfl, ha, e, rfl⟩
      have hi : i < (tl x).length := by
        have := len_tl x
        omega
      have hc := List.getElem?_eq_getElem hi
      generalize (tl x)[i] = c at hc
      rw [fault_step hc] at e
      have qi : ∀ n, fault (tl x) 0 0 0 = some n → Q (.int (n : Int)) H' := fun n e2 => by
        have := q H' same_refl
        rw [e2] at this
        exact this
      rw [show (0 : Int) + (i : Int) = ((i : Nat) : Int) from Int.zero_add _]
      dsimp only [tNext, tSeq, tIfS, tAsg, gName, tC]
      refine ⟨_, rfl, rfl, _, rfl, ite2 (fun h1 => ?_) (fun h1 => ?_)⟩
      · have h1 : m = 200 := int_k (k := 200) h1
        rw [if_pos h1] at e
        exact ⟨_, rfl, qi i e.symm⟩
      · have h1 : ¬ m = 200 := int_nk (k := 200) h1
        rw [if_neg h1] at e
        refine ⟨_, rfl, _, rfl, _, _, c, rfl, rfl, by omega, atI_nat hc, rfl, _, rfl, ite2 (fun h2 => ?_) (fun h2 => ?_)⟩
        · have h2 : c = 10 := chr_nl.mp (of_decide_eq_true h2)
          rw [if_pos h2] at e
          exact ⟨_, rfl, _, _, rfl, rfl, _, rfl, _, _, rfl, rfl, m + 1, 0, i + 1, _, rfl, by omega, e, rfl⟩
        · have h2 : ¬ c = 10 := fun z => h2 (decide_eq_true (chr_nl.mpr z))
          rw [if_neg h2] at e
          refine ⟨_, rfl, _, rfl, _, _, rfl, rfl, rfl, _, rfl, ite2 (fun h3 => ?_) (fun h3 => ?_)⟩
          · have h3 := V.int.inj (of_decide_eq_true h3)
            rw [if_pos (by omega)] at e
            exact ⟨_, rfl, qi i e.symm⟩
          · have h3 : ¬ s = 40 := fun z => h3 (decide_eq_true (by rw [← ha, z]; rfl))
            rw [if_neg h3] at e
            exact ⟨m, s + 1, a, _, rfl, by omega, e, rfl⟩
    · rintro σ H' ⟨m, s, a, y3, rfl, ha, e, rfl⟩
      have hn : (((x.length : Nat) : Int)).toNat = (tl x).length := by
        have := len_tl x
        omega
      rw [hn] at ha e
      rw [List.drop_eq_nil_of_le (Nat.le_refl _)] at e
      have e0 : ∀ a, fault [] a m s = if s = 0 then none else some a := fun _ => rfl
      rw [e0] at e
      have q := q H' same_refl
      rw [← e] at q
      have lx := len_tl x
      refine ⟨_, rfl, _, rfl, x, rfl, by omega, rfl, _, rfl, ite2 (fun h1 => ?_) (fun h1 => ?_)⟩
      · have h1 := V.int.inj (of_decide_eq_true h1)
        rw [if_pos (by omega)] at q
        exact q
      · have h1 : ¬ s = 0 := fun z => h1 (decide_eq_true (by rw [lx, ← ha, z]; rfl))
        rw [if_neg h1] at q
        exact ⟨_, rfl, x, rfl, by omega, by rw [lx]; exact q⟩
end
end K10
namespace K10
open PySem PySem.Spec PyProof.Rows L2 TR QR
open PySem.W (Datum)
abbrev sLaw : Stmt := topS 15
abbrev nLAW : List Str := ["script", "state", "lines", "text", "fault", "told", "e", "k", "line"]
theorem scLAW : FnScope nLAW ["script"] (defScope sLaw) := ⟨rfl, rfl, rfl, by decide +kernel, rfl, by decide +kernel, by decide +kernel⟩
structure TextF (K : PySem.W.Frag) (mg : Str → Option Value) (C fI CW : Addr) : Prop where
  low : PySem.TextX.TextTxt K mg C fI
  ex : ExcC K C
  gW : mg "WardError" = some (.ref CW)
  kit : PySem.W.kitOne K (.ref C) (.ref CW) = some true
  mi : mg "isinstance" = none
/-- lines that were drawn, in a list at D that was not there in H -/
structure LnI (H : Hp) (p c D : Addr) (n : Nat) (H' : Hp) : Prop where
  dr : Dr p c H H'
  at_ : ∃ Ps : List (List Nat), Ps.length = n ∧ H' D = some (.lst (strV Ps)) ∧ ∀ q ∈ Ps, okL q
theorem LnI.turn {H H2 H3 : Hp} {p c D : Addr} {n : Nat} {l : List Nat} (s0 : StateAt H p c) (nD : H D = none) (h : LnI H p c D n H2) (d : Dr p c H2 H3) (ok : okL l) (hn : n ≤ 1000) :
    ∃ acc, H3 D = some (.lst acc) ∧ acc.length < sizeLine ∧ LnI H p c D (n + 1) (upd H3 D (.lst (acc ++ [V.str (Sg l)]))) := by
  obtain ⟨Ps, e1, e2, e3⟩ := h.at_
  have nn := s0.new nD
  have zl := zl
  refine ⟨strV Ps, d.ou D _ nn.1 nn.2 e2, by rw [List.length_map]; omega, ⟨d.st.upd nn, fun b o n1 n2 e => ?_⟩, Ps ++ [l], by rw [List.length_append, e1]; rfl, by rw [upd_same]; unfold strV; rw [List.map_append]; rfl, fun q hq => ?_⟩
  · rw [upd_ne (ne_of_none e nD)]
    exact d.ou b o n1 n2 (h.dr.ou b o n1 n2 e)
  · rcases List.mem_append.mp hq with hq | hq
    · exact e3 q hq
    · rw [List.mem_singleton.mp hq]
      exact ok
theorem okL_nil : okL [] := ⟨(fun _ h => nomatch h), Nat.zero_le _⟩
theorem okL_b : okL [98] := by
  refine ⟨fun c h => ?_, by decide⟩
  rw [List.mem_singleton.mp h]
  decide
theorem line2 {v : V} (hv : v ∈ ([.str (Str.ofString ""), .str (Str.ofString "b")] : List V)) : ∃ l, v = .str (Sg l) ∧ okL l := by
  simp only [List.mem_cons, List.not_mem_nil, or_false] at hv
  rcases hv with rfl | rfl
  · exact ⟨[], by decide +kernel, okL_nil⟩
  · exact ⟨[98], by decide +kernel, okL_b⟩
theorem dp_strs {K : PySem.W.Frag} {H : Hp} : ∀ Ps : List (List Nat), DpAll K H (strV Ps) ((Ps.map Sg).map Datum.toD)
  | [] => .nil
  | p :: r => .cons (.str (Sg p)) (dp_strs r)
theorem rep_one {k : Nat} {v : V} : (List.replicate k [v]).flatten = List.replicate k v := by
  induction k with
  | zero => rfl
  | succ k ih =>
    rw [List.replicate_succ, List.flatten_cons, ih]
    rfl
section
variable {P : Program} {w : World} {K : PySem.W.Frag} {mg : Str → Option Value} {base : Heap} {C fI CW : Addr}
def spLaw (K : PySem.W.Frag) : Sp := fun vs H Q _ => ∃ (a : Addr) (ns : List Int), vs = [.ref a] ∧ SqL K H a (ns.map V.int) ∧ ns.length ≤ 63 ∧ ∀ H', Q (.bl true) H'
theorem ok_LAW {f fS fD fP fJO fLI fLF fLO : Addr} {fd fdS fdD fdP fdJO fdLI fdLF fdLO : FuncData} (F : Fun K "law" "law" sLaw f fd) (L : TextF K mg C fI CW)
    (GS : FnOk P w K mg base CX0 1 fS fdS ["script"] (spState K)) (bS : Binds K fdS ["script"] []) (gS : mg "_law_state" = some (.ref fS)) (kS : PySem.W.keepIn K (.ref fS) = true)
    (GD : FnOk P w K mg base CX0 1 fD fdD ["state", "many"] spDraw) (bD : Binds K fdD ["state", "many"] []) (gD : mg "_law_draw" = some (.ref fD)) (kD : PySem.W.keepIn K (.ref fD) = true)
    (GP : FnOk P w K mg base CX0 2 fP fdP ["state", "row"] spPick) (bP : Binds K fdP ["state", "row"] []) (gP : mg "_law_pick" = some (.ref fP)) (kP : PySem.W.keepIn K (.ref fP) = true)
    (GJO : FnOk P w K mg base CX0 1 fJO fdJO ["lines"] spJO) (bJO : Binds K fdJO ["lines"] []) (gJO : mg "joined" = some (.ref fJO)) (kJO : PySem.W.keepIn K (.ref fJO) = true)
    (GLI : FnOk P w K mg base CX0 3 fLI fdLI ["state"] spLI) (bLI : Binds K fdLI ["state"] []) (gLI : mg "_law_line" = some (.ref fLI)) (kLI : PySem.W.keepIn K (.ref fLI) = true)
    (GLF : FnOk P w K mg base CX0 1 fLF fdLF ["text"] spLF) (bLF : Binds K fdLF ["text"] []) (gLF : mg "_law_fault" = some (.ref fLF)) (kLF : PySem.W.keepIn K (.ref fLF) = true)
    (GLO : FnOk P w K mg base (L2.CX P w) 4 fLO fdLO ["text"] (spLO C)) (bLO : Binds K fdLO ["text"] []) (gLO : mg "lines_of" = some (.ref fLO)) (kLO : PySem.W.keepIn K (.ref fLO) = true)
    (m_len : mg "len" = none) (m_range : mg "range" = none) (m_list : mg "list" = none) (m_isinstance : mg "isinstance" = none) (m_int : mg "int" = none) : FnOk P w K mg base CX0 5 f fd ["script"] (spLaw K) := by
  refine F.ok scLAW (fun vs H Q E h => ?_) (fun cdv A outer s H vs Q E hr h => ?_)
  · obtain ⟨a, ns, rfl, _⟩ := h
    rfl
  · obtain ⟨a, ns, rfl, hS, hl, q⟩ := h
    have hu := hr.units
    have hu1 := hu_of hr
    have hr1 : Room 1 _ := hr.mono (by decide)
    have hr2 : Room 2 _ := hr.mono (by decide)
    have hr3 : Room 3 _ := hr.mono (by decide)
    have hr4 : Room 4 _ := hr.mono (by decide)
    have zl := zl
    refine ⟨_, (pss_cons (ps_set (i := 1) scLAW.nd rfl (.inr rfl) (pe_call GS hr1 (by rfl) gS kS bS .nil pass0 (pa_cons (pv 0) pa_nil)))
      (pss_cons (ps_setLc (i := 2) (own := [("k", 7)]) (g := gName 7) (tt := tYes) (te := tCall spLI [] E0 (tCons (tVar 1) tNil)) rfl scLAW.nd rfl rfl (sw_true rfl rfl rfl (by decide +kernel)) (pi_range1 (by rfl) m_range (pa_cons (pe_call GD hr1 (by rfl) gD kD bD .nil pass0 (pa_cons (pv 1) (pa_cons (pe_int) pa_nil))) pa_nil)) (blkOk_by (N := nLAW) (sc := defScope sLaw) (by decide +kernel)) (fun _ _ _ _ _ => by exact pg_name (i := 7) scLAW.nd rfl (.inl rfl)) (fun _ _ _ _ _ => pts_nil) (fun _ _ _ _ _ => by exact pe_call GLI hr3 (by rfl) gLI kLI bLI .nil pass0 (pa_cons (pv 1) pa_nil)))
      (pss_cons (ps_if (pt_cmpR op_eq (pe_call GD hr1 (by rfl) gD kD bD .nil pass0 (pa_cons (pv 1) (pa_cons (pe_int) pa_nil))) (pe_int) (nomark _))
      (pss_one (ps_set (i := 2) scLAW.nd rfl (.inl rfl) (pe_op op_cat (pv 2) (pe_op op_rep (pe_lst (pa_cons (pe_call GP hr2 (by rfl) gP kP bP .nil pass0 (pa_cons (pv 1) (pa_cons (pe_lst (pa_cons (pe_str) (pa_cons (pe_str) pa_nil))) pa_nil))) pa_nil)) (pe_op op_sub (pe_op op_add (pe_int) (pe_call GD hr1 (by rfl) gD kD bD .nil pass0 (pa_cons (pv 1) (pa_cons (pe_int) pa_nil)))) (pe_callB call_len_seq (by rfl) m_len PySem.boot_len (pa_cons (pv 2) pa_nil))))))) pss_nil)
      (pss_cons (ps_set (i := 3) scLAW.nd rfl (.inl rfl) (pe_join (pe_str) (pe_lc (own := [("line", 8)]) (g := gName 8) (tt := tYes) (te := _) rfl scLAW.nd (pi_list (pv 2)) (blkOk_by (N := nLAW) (sc := defScope sLaw) (by decide +kernel)) (fun _ _ _ _ _ => by exact pg_name (i := 8) scLAW.nd rfl (.inl rfl)) (fun _ _ _ _ _ => pts_nil) (fun _ _ _ _ _ => by exact pe_op op_add_str (pv 8) (pe_str)))))
      (pss_cons (ps_if (pt_cmpR op_ne (pe_call GJO hr1 (by rfl) gJO kJO bJO .nil pass0 (pa_cons (pe_callTy call_list_of (by rfl) m_list (by decide +kernel) (pa_cons (pv 2) pa_nil)) pa_nil)) (pv 3) (nomark _))
      (pss_one (ps_ret (pe_bl))) pss_nil)
      (pss_cons (ps_if (pt_cmpR op_eq (pe_call GD hr1 (by rfl) gD kD bD .nil pass0 (pa_cons (pv 1) (pa_cons (pe_int) pa_nil))) (pe_int) (nomark _))
      (pss_one (ps_set (i := 3) scLAW.nd rfl (.inl rfl) (pe_op op_add_str (pv 3) (pe_call GLI hr3 (by rfl) gLI kLI bLI .nil pass0 (pa_cons (pv 1) pa_nil))))) pss_nil)
      (pss_cons (ps_set (i := 4) scLAW.nd rfl (.inl rfl) (pe_call GLF hr1 (by rfl) gLF kLF bLF .nil pass0 (pa_cons (pv 3) pa_nil)))
      (pss_cons (ps_try_as (i := 6) rfl rfl scLAW.nd rfl rfl ⟨rfl, by decide, .inl L.low.gC⟩ takes0
        (fun W pn xe tk _ => (pss_one (ps_set (i := 5) scLAW.nd rfl (.inl rfl) (pe_callS GLO hr4 (by rfl) gLO kLO bLO (fun σ => passAt tk σ) (pa_cons (pv 3) pa_nil)))))
        (fun a oe cls d pn hz hf => (pss_one (ps_ret (pe_and (pe_callB (K71E.call_isD L.ex hz hf) (by rfl) L.mi (by decide +kernel) (pa_cons (pv 6) (pa_cons (pe_glob (v := V.ref CW) (by rfl) L.gW rfl) pa_nil))) (pe_and (pe_callB (show CallR _ (.builtin "isinstance") (rIsi K) from call_isi) (by rfl) m_isinstance (by decide +kernel) (pa_cons (pe_atOf L.low hz hf (pv 6)) (pa_cons (pe_bltn (v := V.ty "int") (u := .type "int") (by rfl) m_int (by decide +kernel) rfl) pa_nil))) (pe_and (pe_cmpR op_notN (pv 4) (pe_non) (nomark _)) (pe_one (pe_cmpR op_eq (pe_atOf L.low hz hf (pv 6)) (pv 4) (nomark _))))))))))
      (pss_one (ps_ret (pe_and (pe_cmpR op_isN (pv 4) (pe_non) (nomark _)) (pe_and (pe_callB call_isi (by rfl) m_isinstance (by decide +kernel) (pa_cons (pv 5) (pa_cons (pe_bltn (v := V.ty "list") (u := .type "list") (by rfl) m_list (by decide +kernel) rfl) pa_nil))) (pe_and (pe_cmpR (op_eqP hu) (pv 5) (pv 2) (nomark _)) (pe_one (pe_cmpR op_eq (pe_call GJO hr1 (by rfl) gJO kJO bJO .nil pass0 (pa_cons (pv 5) pa_nil)) (pv 3) (nomark _)))))))))))))))), ?_⟩
    have zl2 := zl
    refine ⟨_, rfl, a, ns, rfl, hS, hl, fun H1 p c sm1 np nc st1 => ?_⟩
    refine ⟨_, rfl, p, c, 13, rfl, by decide, st1, fun H2 n1 _ ln1 st2 d2 => ⟨_, rfl, by omega, by omega, fun D nD => ?_⟩⟩
    have ln1 := ln1 (by decide)
    have nDp := st2.new nD
    refine lc_range (lo := 0) (n := ((n1 : Int)).toNat) (fun k H3 => LnI H2 p c D k H3) ⟨⟨st2.upd nDp, fun b o _ _ e => by rw [upd_ne (ne_of_none e nD)]; exact e⟩, [], rfl, upd_same, fun _ h => nomatch h⟩ ?_ ?_
    · rintro k H3 hk hI
      exact ⟨rfl, _, rfl, p, c, rfl, hI.dr.st, fun H4 l okl d4 => hI.turn st2 nD d4 okl (by omega)⟩
    · intro H3 hI
      obtain ⟨dr3, Ps0, lP0, eD, ok0⟩ := hI
      have lP0 : Ps0.length ≤ 12 := by omega
      dsimp only [tNext, tSeq, tIfS, tAsg, gName, tC]
      have st3 := dr3.st
      refine ⟨_, rfl, p, c, 6, rfl, by decide, st3, fun H5 k5 _ _ st5 d5 => ⟨rfl, _, rfl, ?_⟩⟩
      have eD5 : H5 D = some (.lst (strV Ps0)) := (d5 D nDp.1 nDp.2).trans eD
      refine ite2 (fun h1 => ?aa) (fun h1 => ?bb)
      case' aa =>
        refine ⟨_, rfl, _, rfl, by show 2 ≤ sizeLine; omega, fun a2 na2 => ⟨p, c, a2, _, rfl, upd_same, (st5.new na2).1, (st5.new na2).2, by show 0 < 2; decide, by show 2 < 1000; decide, st5.upd (st5.new na2), fun H6 v hv st6 d6 => ?_⟩⟩
        obtain ⟨lb, rfl, okb⟩ := line2 hv
        refine ⟨by show 1 ≤ sizeLine; omega, fun l nl => ?_⟩
        have nlp := st6.new nl
        have st7 := st6.upd (o := .lst [V.str (Sg lb)]) nlp
        refine ⟨_, rfl, p, c, 14, rfl, by decide, st7, fun H8 k8 _ lk8 st8 d8 => ⟨_, _, rfl, rfl, ?_⟩⟩
        have lk8 := lk8 (by decide)
        have eD6 : H6 D = some (.lst (strV Ps0)) := (d6 D nDp.1 nDp.2).trans (same_new na2 _ _ eD5)
        have eD8 : H8 D = some (.lst (strV Ps0)) := (d8 D nDp.1 nDp.2).trans (same_new nl _ _ eD6)
        have el8 : H8 l = some (.lst [V.str (Sg lb)]) := (d8 l nlp.1 nlp.2).trans upd_same
        have lPv : (strV Ps0).length = Ps0.length := List.length_map _
        refine ⟨_, rfl, D, _, rfl, .inl (SqL.of eD8), _, _, rfl, rfl, ?_⟩
        refine ⟨l, _, _, rfl, rfl, el8, by omega, by omega, by show 1 * _ ≤ sizeLine; omega, fun r nr => ?_⟩
        rw [rep_one] at *
        refine ⟨D, r, _, _, rfl, rfl, same_new nr _ _ eD8, upd_same, by rw [List.length_replicate]; omega, fun Ln nLn => ?_⟩
        have e0 : strV Ps0 ++ List.replicate ((190 + (k8 : Int) - ((strV Ps0).length : Int)).toNat) (V.str (Sg lb)) = strV (Ps0 ++ List.replicate ((190 + (k8 : Int) - ((strV Ps0).length : Int)).toNat) lb) := by
          unfold strV
          rw [List.map_append, List.map_replicate]
        rw [e0]
        have ok : ∀ q ∈ Ps0 ++ List.replicate ((190 + (k8 : Int) - ((strV Ps0).length : Int)).toNat) lb, okL q := fun q hq => by
          rcases List.mem_append.mp hq with hq | hq
          · exact ok0 q hq
          · rw [List.eq_of_mem_replicate hq]
            exact okb
        have lP : (Ps0 ++ List.replicate ((190 + (k8 : Int) - ((strV Ps0).length : Int)).toNat) lb).length ≤ 300 := by
          rw [List.length_append, List.length_replicate]
          omega
        have st9 := (st8.upd (o := .lst (List.replicate ((190 + (k8 : Int) - ((strV Ps0).length : Int)).toNat) (V.str (Sg lb)))) (st8.new nr))
        have nLp := st9.new nLn
        have st10 := st9.upd (o := .lst (strV (Ps0 ++ List.replicate ((190 + (k8 : Int) - ((strV Ps0).length : Int)).toNat) lb))) nLp
        have eL : upd (upd H8 r (.lst (List.replicate ((190 + (k8 : Int) - ((strV Ps0).length : Int)).toNat) (V.str (Sg lb))))) Ln (.lst (strV (Ps0 ++ List.replicate ((190 + (k8 : Int) - ((strV Ps0).length : Int)).toNat) lb))) Ln = some (.lst (strV (Ps0 ++ List.replicate ((190 + (k8 : Int) - ((strV Ps0).length : Int)).toNat) lb))) := upd_same
        clear e0 st9
        generalize Ps0 ++ List.replicate ((190 + (k8 : Int) - ((strV Ps0).length : Int)).toNat) lb = Ps at ok lP st10 eL
        generalize upd (upd H8 r (.lst (List.replicate ((190 + (k8 : Int) - ((strV Ps0).length : Int)).toNat) (V.str (Sg lb))))) Ln (.lst (strV Ps)) = H10 at st10 eL
      case' bb =>
        have nLp := nDp
        have eL := eD5
        have ok := ok0
        have lP : Ps0.length ≤ 300 := by omega
        have st10 := st5
        clear d5
        generalize hH : H5 = H10 at st10 eL
        generalize hP : Ps0 = Ps at ok lP eL
        generalize hL : D = Ln at nLp eL
      all_goals
        refine ⟨⟨_, rfl⟩, _, rfl, Ln, rfl, ⟨_, SqL.of eL⟩, fun G nG => ?_⟩
        have nGp := st10.new nG
        refine lc_list (xs := strV Ps) (fun k H2 => H2 = upd H10 G (.lst ((Ps.take k).map fun p => V.str (Sg (p ++ [10]))))) rfl ?_ ?_ ?_
        · rintro k H2 _ rfl
          exact SqL.of (same_new nG _ _ eL)
        · rintro k y H2 hy rfl
          obtain ⟨p, hp, rfl⟩ := map_get hy
          have okp := ok p (List.mem_of_getElem? hp)
          refine ⟨rfl, ?_⟩
          refine ⟨_, rfl, _, _, rfl, rfl, ?_, _, upd_same, ?_, ?_⟩
          · rw [nl_str, len_tl, len_tl]
            have := okp.2
            show p.length + 1 ≤ sizeLine
            omega
          · rw [List.length_map, List.length_take]
            omega
          · rw [upd_upd, List.take_add_one, hp, List.map_append, nl_str, show Sg p ++ ⟨#[10]⟩ = Sg (p ++ [10]) from ext_tl (tl_app _ _)]
            rfl
        · rintro H2 rfl
          rw [List.length_map, List.take_length]
          refine ⟨_, G, Ps.map fun p => Sg (p ++ [10]), rfl, rfl, .inl (SqL.of (by rw [List.map_map]; exact upd_same)), ?_, ?_⟩
          · have := sum_len ok
            rw [show (Str.ofString "").length = 0 by decide +kernel]
            omega
          · have e : Txt.join (Str.ofString "") (Ps.map fun p => Sg (p ++ [10])) = Sg (flatN Ps) := by
              rw [show Str.ofString "" = Str.empty by decide +kernel, txt_join0, List.map_map, ← flat_flatten]
              rfl
            rw [e]
            have sG : Same H10 (upd H10 G (.lst (Ps.map fun p => V.str (Sg (p ++ [10]))))) := same_new nG
            have st11 := st10.same sG
            have eL11 := sG _ _ eL
            clear nG
            generalize upd H10 G (.lst (Ps.map fun p => V.str (Sg (p ++ [10])))) = H11 at sG st11 eL11
            refine ⟨_, rfl, Ln, _, rfl, .inl (SqL.of eL11), fun l nl => ⟨l, Ps, rfl, upd_same, ok, by omega, fun H12 s12 => ⟨_, rfl, rfl, _, rfl, ite2 (fun h2 => ?_) (fun h2 => ?_)⟩⟩⟩
            · exact absurd h2 (by simp)
            have s12 := same_trans (same_new nl) s12
            have st12 := st11.same s12
            have eL12 := s12 _ _ eL11
            refine ⟨_, rfl, p, c, 4, rfl, by decide, st12, fun H13 k13 _ _ st13 d13 => ⟨rfl, _, rfl, ?_⟩⟩
            have eL13 := (d13 Ln nLp.1 nLp.2).trans eL12
            have lf := flat_len ok
            refine ite2 (fun h3 => ?_) (fun h3 => ?_)
            · refine ⟨_, rfl, _, rfl, p, c, rfl, st13, fun H14 z okz d14 => ⟨_, _, rfl, rfl, by have := okz.2; show (flatN Ps).length + z.length ≤ sizeLine; omega, ?_⟩⟩
              have eL14 := d14.ou Ln _ nLp.1 nLp.2 eL13
              rw [show Sg (flatN Ps) ++ Sg z = Sg (flatN Ps ++ z) from ext_tl (tl_app _ _)]
              have lz := okz.2
              have okT0 : okT (flatN Ps ++ z) := okT_app (okT_flat ok) okz.t
              have lT : (flatN Ps ++ z).length ≤ 100000 := by
                rw [List.length_append]
                omega
              have cutT := cut_flat okz.free fun q hq => (ok q hq).free
              refine ⟨_, rfl, Sg (flatN Ps ++ z), rfl, lT, fun H15 s15 => ?_⟩
              have eL15 := s15 _ _ eL14
              refine ⟨_, rfl, Sg (flatN Ps ++ z), rfl, okT0, lT, fun hF H16 r s16 nr => ?_, fun n hF H16 s16 => fun er her => ⟨true, L.low.te, fun _ a0 _ => ?_, fun q => Bool.noConfusion q⟩⟩
              · have zn := fault_nil hF okz.free
                subst zn
                have e1 : (cutAt 10 (tl (Sg (flatN Ps ++ [])))).dropLast = Ps := by
                  show (cutAt 10 (flatN Ps ++ [])).dropLast = Ps
                  rw [cutT]
                  simp
                rw [e1] at *
                have hF' : fault (tl (Sg (flatN Ps ++ []))) 0 0 0 = none := hF
                rw [hF']
                have eL16 := s16 _ _ eL15
                have sr : Same H16 (upd H16 r (.lst (strV Ps))) := same_new nr
                refine ⟨_, rfl, rfl, _, rfl, ite2 (fun _ => ?_) (fun h => absurd (decide_eq_true rfl) h)⟩
                refine ⟨_, rfl, _, _, _, _, true, rfl, .ty _, .base (.lst upd_same), kit_ty (by decide +kernel), _, rfl, ite2 (fun _ => ?_) (fun h => absurd rfl h)⟩
                refine ⟨_, rfl, _, rfl, eq_dat (a := Ps.map Sg) (b := Ps.map Sg) (.lst (SqL.of upd_same) (dp_strs Ps)) (.lst (SqL.of (sr _ _ eL16)) (dp_strs Ps)) (by decide) ⟨_, rfl, ite2 (fun _ => ?_) (fun h => absurd (decide_eq_true rfl) h)⟩⟩
                refine ⟨_, rfl, r, Ps, rfl, upd_same, ok, by omega, fun H17 s17 => ⟨_, rfl, rfl, ?_⟩⟩
                rw [List.append_nil, decide_eq_true rfl]
                exact q _
              · have hF' : fault (tl (Sg (flatN Ps ++ z))) 0 0 0 = some n := hF
                rw [hF']
                refine ⟨_, rfl, _, _, true, er, _, rfl, rfl, rfl, fun u h => h, L.kit, upd_same, true, rfl, ite2 (fun _ => ?_) (fun h => absurd rfl h)⟩
                refine ⟨_, rfl, rfl, rfl, er, _, rfl, upd_same, _, _, _, _, true, rfl, .ty _, .base (.int _), kit_ty (by decide +kernel), _, rfl, ite2 (fun _ => ?_) (fun h => absurd rfl h)⟩
                refine ⟨_, rfl, rfl, _, rfl, ite2 (fun _ => ?_) (fun h => absurd rfl h)⟩
                refine ⟨_, rfl, rfl, rfl, er, _, rfl, upd_same, _, rfl, rfl, ?_⟩
                rw [show decide (V.int (n : Int) = natO (some n)) = true from decide_eq_true rfl]
                exact q _
            · have okz := okL_nil
              have eL14 := eL13
              clear d13
              generalize hH14 : H13 = H14 at eL14
              rw [show flatN Ps = flatN Ps ++ [] from (List.append_nil _).symm]
              generalize hz : ([] : List Nat) = z at okz
              have lz := okz.2
              have okT0 : okT (flatN Ps ++ z) := okT_app (okT_flat ok) okz.t
              have lT : (flatN Ps ++ z).length ≤ 100000 := by
                rw [List.length_append]
                omega
              have cutT := cut_flat okz.free fun q hq => (ok q hq).free
              refine ⟨_, rfl, Sg (flatN Ps ++ z), rfl, lT, fun H15 s15 => ?_⟩
              have eL15 := s15 _ _ eL14
              refine ⟨_, rfl, Sg (flatN Ps ++ z), rfl, okT0, lT, fun hF H16 r s16 nr => ?_, fun n hF H16 s16 => fun er her => ⟨true, L.low.te, fun _ a0 _ => ?_, fun q => Bool.noConfusion q⟩⟩
              · have zn := fault_nil hF okz.free
                subst zn
                have e1 : (cutAt 10 (tl (Sg (flatN Ps ++ [])))).dropLast = Ps := by
                  show (cutAt 10 (flatN Ps ++ [])).dropLast = Ps
                  rw [cutT]
                  simp
                rw [e1] at *
                have hF' : fault (tl (Sg (flatN Ps ++ []))) 0 0 0 = none := hF
                rw [hF']
                have eL16 := s16 _ _ eL15
                have sr : Same H16 (upd H16 r (.lst (strV Ps))) := same_new nr
                refine ⟨_, rfl, rfl, _, rfl, ite2 (fun _ => ?_) (fun h => absurd (decide_eq_true rfl) h)⟩
                refine ⟨_, rfl, _, _, _, _, true, rfl, .ty _, .base (.lst upd_same), kit_ty (by decide +kernel), _, rfl, ite2 (fun _ => ?_) (fun h => absurd rfl h)⟩
                refine ⟨_, rfl, _, rfl, eq_dat (a := Ps.map Sg) (b := Ps.map Sg) (.lst (SqL.of upd_same) (dp_strs Ps)) (.lst (SqL.of (sr _ _ eL16)) (dp_strs Ps)) (by decide) ⟨_, rfl, ite2 (fun _ => ?_) (fun h => absurd (decide_eq_true rfl) h)⟩⟩
                refine ⟨_, rfl, r, Ps, rfl, upd_same, ok, by omega, fun H17 s17 => ⟨_, rfl, rfl, ?_⟩⟩
                rw [List.append_nil, decide_eq_true rfl]
                exact q _
              · have hF' : fault (tl (Sg (flatN Ps ++ z))) 0 0 0 = some n := hF
                rw [hF']
                refine ⟨_, rfl, _, _, true, er, _, rfl, rfl, rfl, fun u h => h, L.kit, upd_same, true, rfl, ite2 (fun _ => ?_) (fun h => absurd rfl h)⟩
                refine ⟨_, rfl, rfl, rfl, er, _, rfl, upd_same, _, _, _, _, true, rfl, .ty _, .base (.int _), kit_ty (by decide +kernel), _, rfl, ite2 (fun _ => ?_) (fun h => absurd rfl h)⟩
                refine ⟨_, rfl, rfl, _, rfl, ite2 (fun _ => ?_) (fun h => absurd rfl h)⟩
                refine ⟨_, rfl, rfl, rfl, er, _, rfl, upd_same, _, rfl, rfl, ?_⟩
                rw [show decide (V.int (n : Int) = natO (some n)) = true from decide_eq_true rfl]
                exact q _
end
end K10
namespace K10
open PySem PySem.Spec PyProof.Rows L2 TR QR
theorem exm_self {K : PySem.W.Frag} {S : Addr} (h1 : PySem.W.subIn K (.ref S) (.type "BaseException") = some true) (h2 : PySem.W.hasDictIn K S = true) (h3 : PySem.W.typeIn K (.ref S) = some (.type "type")) (h4 : PySem.W.subIn K (.ref S) (.ref S) = some true) :
    PySem.W.exmOne K (.ref S) (.ref S) = some true := PySem.W.exm_ref h1 h2 h3 h4
theorem all_mk {l : PySem.W.OpenLaw} {w : World} {K : PySem.W.Frag} {h : Heap} {mg : Str → Option Value} {fa : Addr} (X : K.In h) (G : h.Ns mainGlobals mg) (hfa : mg "law" = some (.ref fa))
    {fS fLF fD fP fLI fJO fCT fLO fLAW fIE CE CW : Addr} {odS anS odLF anLF odD anD odP anP odLI anLI odJO anJO odCT anCT odLO anLO odLAW anLAW odIE anIE : Option Addr} {slS slLF slD slP slLI slJO slCT slLO slLAW slIE : Array (Option Value)}
    {ocS kVS dcS pmS ctS cdS ocLF kVLF dcLF pmLF ctLF cdLF ocD kVD dcD pmD ctD cdD ocP kVP dcP pmP ctP cdP ocLI kVLI dcLI pmLI ctLI cdLI ocJO kVJO dcJO pmJO ctJO cdJO ocCT kVCT dcCT pmCT ctCT cdCT ocLO kVLO dcLO pmLO ctLO cdLO ocLAW kVLAW dcLAW pmLAW ctLAW cdLAW ocIE dcIE pmIE cdIE ctIE : Value}
    {kML kMS : Tok}
    (aS : PySem.W.nsIn K mainGlobals "_law_state" = some (some (.ref fS)))
    (lS : K.lookup fS = some ⟨ocS, odS, .func (PySem.W.fnOf "_law_state" "_law_state" (defArgs sState) (defBody sState) (defScope sState) .none kVS dcS pmS anS cdS ctS), slS⟩)
    (cS1 : PySem.W.codeIn K cdS "_law_state" = true) (kS1 : PySem.W.keepIn K (.ref fS) = true)
    (aLF : PySem.W.nsIn K mainGlobals "_law_fault" = some (some (.ref fLF)))
    (lLF : K.lookup fLF = some ⟨ocLF, odLF, .func (PySem.W.fnOf "_law_fault" "_law_fault" (defArgs sLF) (defBody sLF) (defScope sLF) .none kVLF dcLF pmLF anLF cdLF ctLF), slLF⟩)
    (cLF1 : PySem.W.codeIn K cdLF "_law_fault" = true) (kLF1 : PySem.W.keepIn K (.ref fLF) = true)
    (aD : PySem.W.nsIn K mainGlobals "_law_draw" = some (some (.ref fD)))
    (lD : K.lookup fD = some ⟨ocD, odD, .func (PySem.W.fnOf "_law_draw" "_law_draw" (defArgs sDraw) (defBody sDraw) (defScope sDraw) .none kVD dcD pmD anD cdD ctD), slD⟩)
    (cD1 : PySem.W.codeIn K cdD "_law_draw" = true) (kD1 : PySem.W.keepIn K (.ref fD) = true)
    (aP : PySem.W.nsIn K mainGlobals "_law_pick" = some (some (.ref fP)))
    (lP : K.lookup fP = some ⟨ocP, odP, .func (PySem.W.fnOf "_law_pick" "_law_pick" (defArgs sPick) (defBody sPick) (defScope sPick) .none kVP dcP pmP anP cdP ctP), slP⟩)
    (cP1 : PySem.W.codeIn K cdP "_law_pick" = true) (kP1 : PySem.W.keepIn K (.ref fP) = true)
    (aLI : PySem.W.nsIn K mainGlobals "_law_line" = some (some (.ref fLI)))
    (lLI : K.lookup fLI = some ⟨ocLI, odLI, .func (PySem.W.fnOf "_law_line" "_law_line" (defArgs sLI) (defBody sLI) (defScope sLI) .none kVLI dcLI pmLI anLI cdLI ctLI), slLI⟩)
    (cLI1 : PySem.W.codeIn K cdLI "_law_line" = true) (kLI1 : PySem.W.keepIn K (.ref fLI) = true)
    (aJO : PySem.W.nsIn K mainGlobals "joined" = some (some (.ref fJO)))
    (lJO : K.lookup fJO = some ⟨ocJO, odJO, .func (PySem.W.fnOf "joined" "joined" (defArgs sJO) (defBody sJO) (defScope sJO) .none kVJO dcJO pmJO anJO cdJO ctJO), slJO⟩)
    (cJO1 : PySem.W.codeIn K cdJO "joined" = true) (kJO1 : PySem.W.keepIn K (.ref fJO) = true)
    (aCT : PySem.W.nsIn K mainGlobals "check_text" = some (some (.ref fCT)))
    (lCT : K.lookup fCT = some ⟨ocCT, odCT, .func (PySem.W.fnOf "check_text" "check_text" (defArgs sCT) (defBody sCT) (defScope sCT) .none kVCT dcCT pmCT anCT cdCT ctCT), slCT⟩)
    (cCT1 : PySem.W.codeIn K cdCT "check_text" = true) (kCT1 : PySem.W.keepIn K (.ref fCT) = true)
    (aLO : PySem.W.nsIn K mainGlobals "lines_of" = some (some (.ref fLO)))
    (lLO : K.lookup fLO = some ⟨ocLO, odLO, .func (PySem.W.fnOf "lines_of" "lines_of" (defArgs sLO) (defBody sLO) (defScope sLO) .none kVLO dcLO pmLO anLO cdLO ctLO), slLO⟩)
    (cLO1 : PySem.W.codeIn K cdLO "lines_of" = true) (kLO1 : PySem.W.keepIn K (.ref fLO) = true)
    (aLAW : PySem.W.nsIn K mainGlobals "law" = some (some (.ref fLAW)))
    (lLAW : K.lookup fLAW = some ⟨ocLAW, odLAW, .func (PySem.W.fnOf "law" "law" (defArgs sLaw) (defBody sLaw) (defScope sLaw) .none kVLAW dcLAW pmLAW anLAW cdLAW ctLAW), slLAW⟩)
    (cLAW1 : PySem.W.codeIn K cdLAW "law" = true) (kLAW1 : PySem.W.keepIn K (.ref fLAW) = true)
    (gML0 : PySem.W.nsIn K mainGlobals "MOST_LINES" = some (some (.int 200 kML)))
    (gMS0 : PySem.W.nsIn K mainGlobals "MOST_SIGNS" = some (some (.int 40 kMS)))
    (nW : PySem.W.nsIn K mainGlobals "WardError" = some (some (.ref CW)))
    {nmE qE : Str} {NE : Addr} {bsE : List Value} {snE : List Str} {subE : List Value} {abE : Bool} {colE : Option Bool} {ddE : Option Addr} {m0E m1E m2E m3E m5E : Option Value}
    (nE : PySem.W.nsIn K mainGlobals "TextError" = some (some (.ref CE)))
    (xE : K.lookup CE = some (excClassObj nmE qE CE NE bsE [.ref CW, .type "ValueError", .type "Exception", .type "BaseException", .type "object"] true snE subE abE colE ddE m0E m1E m2E m3E m5E "ValueError.__new__"))
    (saE : PySem.W.findIn K (.ref CE) "__setattr__" = some (some (.builtin "object.__setattr__"))) (gaE : PySem.W.findIn K (.ref CE) "__getattribute__" = some (some (.builtin "BaseException.__getattribute__"))) (ggE : PySem.W.findIn K (.ref CE) "__getattr__" = some none) (nsE : PySem.W.findIn K (.ref CE) "at" = some none)
    (aiE : PySem.W.findIn K (.ref CE) "__init__" = some (some (.ref fIE))) (tiE : PySem.W.typeIn K (.ref fIE) = some (.type "function"))
    (liE : K.lookup fIE = some ⟨ocIE, odIE, .func (PySem.W.fnOf "__init__" "TextError.__init__" (PySem.TextX.iA ⟨6, 17, 6, 21⟩ ⟨6, 23, 6, 25⟩) (PySem.TextX.iB ⟨7, 8, 7, 12⟩ ⟨7, 8, 7, 15⟩ ⟨7, 18, 7, 20⟩ ⟨7, 8, 7, 20⟩) PySem.TextX.iS .none .none dcIE pmIE anIE cdIE ctIE), slIE⟩) (ciE : PySem.W.codeIn K cdIE "TextError.__init__" = true)
    (kpE : PySem.W.keepIn K (.ref CE) = true) (eeE : PySem.W.subIn K (.ref CE) (.type "BaseException") = some true) (tyE : PySem.W.typeIn K (.ref CE) = some (.type "type")) (hdE : PySem.W.hasDictIn K CE = true) (sbE : PySem.W.subIn K (.ref CE) (.ref CE) = some true)
    (clE : PySem.W.findIn K (.ref CE) "__class__" = some (some (.builtin "object.__class__"))) (scE : PySem.W.specialIn K (.builtin "object.__class__") "__get__" = some (some (.builtin "getset_descriptor.__get__"))) (tkE : PySem.W.takesIn K (.builtin "object.__class__") = some true) (mrE : PySem.W.mroIn K CE (.type "object") = some true)
    (ktE : PySem.W.kitOne K (.ref CE) (.ref CW) = some true)
    (z_len : PySem.W.nsIn K mainGlobals "len" = some none)
    (z_range : PySem.W.nsIn K mainGlobals "range" = some none)
    (z_int : PySem.W.nsIn K mainGlobals "int" = some none)
    (z_abs : PySem.W.nsIn K mainGlobals "abs" = some none)
    (z_list : PySem.W.nsIn K mainGlobals "list" = some none)
    (z_isinstance : PySem.W.nsIn K mainGlobals "isinstance" = some none)
    (z_enumerate : PySem.W.nsIn K mainGlobals "enumerate" = some none)
    : ∃ fd : FuncData, (∀ (s : Shared) (v : Value), BindsTo s fd ⟨[v], []⟩ [("script", v)]) ∧ ∀ base : Heap, K.In base → base.Ns mainGlobals mg → FnOk l.prog w K mg base CX0 5 fa fd ["script"] (spLaw K) := by
  have e := hfa.symm.trans (PySem.W.mg_of X G aLAW)
  cases e
  have FS := fun_mk (st := sState) lS cS1 kS1
  have bS := FS.binds (ps := ["script"]) fun _ _ _ _ _ _ us hl => match us, hl with | [_], _ => rfl
  have gS := PySem.W.mg_of X G aS
  have FLF := fun_mk (st := sLF) lLF cLF1 kLF1
  have bLF := FLF.binds (ps := ["text"]) fun _ _ _ _ _ _ us hl => match us, hl with | [_], _ => rfl
  have gLF := PySem.W.mg_of X G aLF
  have FD := fun_mk (st := sDraw) lD cD1 kD1
  have bD := FD.binds (ps := ["state", "many"]) fun _ _ _ _ _ _ us hl => match us, hl with | [_, _], _ => rfl
  have gD := PySem.W.mg_of X G aD
  have FP := fun_mk (st := sPick) lP cP1 kP1
  have bP := FP.binds (ps := ["state", "row"]) fun _ _ _ _ _ _ us hl => match us, hl with | [_, _], _ => rfl
  have gP := PySem.W.mg_of X G aP
  have FLI := fun_mk (st := sLI) lLI cLI1 kLI1
  have bLI := FLI.binds (ps := ["state"]) fun _ _ _ _ _ _ us hl => match us, hl with | [_], _ => rfl
  have gLI := PySem.W.mg_of X G aLI
  have FJO := fun_mk (st := sJO) lJO cJO1 kJO1
  have bJO := FJO.binds (ps := ["lines"]) fun _ _ _ _ _ _ us hl => match us, hl with | [_], _ => rfl
  have gJO := PySem.W.mg_of X G aJO
  have FCT := fun_mk (st := sCT) lCT cCT1 kCT1
  have bCT := FCT.binds (ps := ["text"]) fun _ _ _ _ _ _ us hl => match us, hl with | [_], _ => rfl
  have gCT := PySem.W.mg_of X G aCT
  have FLO := fun_mk (st := sLO) lLO cLO1 kLO1
  have bLO := FLO.binds (ps := ["text"]) fun _ _ _ _ _ _ us hl => match us, hl with | [_], _ => rfl
  have gLO := PySem.W.mg_of X G aLO
  have FLAW := fun_mk (st := sLaw) lLAW cLAW1 kLAW1
  have gLAW := PySem.W.mg_of X G aLAW
  have gML := PySem.W.mg_of X G gML0
  have gMS := PySem.W.mg_of X G gMS0
  have m_len := PySem.W.mg_none_of X G z_len
  have m_range := PySem.W.mg_none_of X G z_range
  have m_int := PySem.W.mg_none_of X G z_int
  have m_abs := PySem.W.mg_none_of X G z_abs
  have m_list := PySem.W.mg_none_of X G z_list
  have m_isinstance := PySem.W.mg_none_of X G z_isinstance
  have m_enumerate := PySem.W.mg_none_of X G z_enumerate
  have lowE : PySem.TextX.TextTxt K mg CE fIE :=
    { gC := PySem.W.mg_of X G nE, cls := ⟨nmE, qE, NE, bsE, _, snE, subE, abE, colE, ddE, m0E, m1E, m2E, m3E, m5E, xE, rfl⟩, sa := saE, ga := gaE, gg := ggE, noN := nsE, iC := aiE, tC := tiE, kC := kpE, exC := eeE, tyC := tyE, hdC := hdE, te := exm_self eeE hdE tyE sbE,
      fn := ⟨_, _, _, _, _, _, _, _, _, _, _, _, _, _, liE, ciE⟩ }
  have exE : ExcC K CE := ⟨gaE, ggE, eeE, hdE, clE, scE, tkE, mrE⟩
  have gW := PySem.W.mg_of X G nW
  refine ⟨PySem.W.fnOf "law" "law" (defArgs sLaw) (defBody sLaw) (defScope sLaw) .none kVLAW dcLAW pmLAW anLAW cdLAW ctLAW, fun s v => .of_eq rfl, fun base _ _ => ?_⟩
  have GS := ok_state (P := l.prog) (w := w) (mg := mg) (base := base) FS m_abs m_int
  have GLF := ok_LF (P := l.prog) (w := w) (mg := mg) (base := base) FLF m_len m_range
  have GD := ok_draw (P := l.prog) (w := w) (mg := mg) (base := base) FD m_len m_int
  have GP := ok_pick (P := l.prog) (w := w) (mg := mg) (base := base) FP GD bD gD kD1 m_len
  have GLI := ok_LI (P := l.prog) (w := w) (mg := mg) (base := base) FLI GD bD gD kD1 GP bP gP kP1
  have GJO := ok_JO (P := l.prog) (w := w) (mg := mg) (base := base) FJO
  have GCT := ok_CT (P := l.prog) (w := w) (mg := mg) (base := base) FCT lowE gML gMS m_enumerate m_len
  have GLO := ok_LO (P := l.prog) (w := w) (mg := mg) (base := base) FLO GCT bCT gCT kCT1
  exact ok_LAW FLAW ⟨lowE, exE, gW, ktE, m_isinstance⟩ GS bS gS kS1 GD bD gD kD1 GP bP gP kP1 GJO bJO gJO kJO1 GLI bLI gLI kLI1 GLF bLF gLF kLF1 GLO bLO gLO kLO1 m_len m_range m_list m_isinstance m_int
end K10
open PySem PySem.W PyProof.Rows
set_option maxRecDepth 100000 in
set_option maxHeartbeats 0 in
theorem PySem.Challenge.cw_quiltward_k10_texts_and_lines_holds : PySem.Challenge.rw_quiltward_k10_texts_and_lines.Holds := by
  w_on; o_law; k_head; (case hw => w_witness2)
  k_fill
  refine L2.walk_of (l := PySem.Challenge.rw_quiltward_k10_texts_and_lines) (n := 63) (k := 5) (x := "script") (CX := fun _ => L2.CX0) (sp := fun w => K10.spLaw _) rfl (by decide) rfl ⟨rfl, by decide, by decide⟩ (fun w h Y => PySem.W.kIn_of Y) ?F (fun _ _ a ns hl _ hS => ⟨a, ns, rfl, hS, hl, fun _ => rfl⟩) (fun _ _ _ _ _ h => h)
  case F =>
    intro w mg fa h KX G hmg
    refine' K10.all_mk KX G hmg ?aS ?lS ?cS1 ?kS1 ?aLF ?lLF ?cLF1 ?kLF1 ?aD ?lD ?cD1 ?kD1 ?aP ?lP ?cP1 ?kP1 ?aLI ?lLI ?cLI1 ?kLI1 ?aJO ?lJO ?cJO1 ?kJO1 ?aCT ?lCT ?cCT1 ?kCT1 ?aLO ?lLO ?cLO1 ?kLO1 ?aLAW ?lLAW ?cLAW1 ?kLAW1 ?gML0 ?gMS0 ?nW ?nE ?xE ?saE ?gaE ?ggE ?nsE ?aiE ?tiE ?liE ?ciE ?kpE ?eeE ?tyE ?hdE ?sbE ?clE ?scE ?tkE ?mrE ?ktE ?z_len ?z_range ?z_int ?z_abs ?z_list ?z_isinstance ?z_enumerate
    (case aS => k_is)
    (case lS => k_is)
    (case cS1 => k_is)
    (case kS1 => k_is)
    (case aLF => k_is)
    (case lLF => k_is)
    (case cLF1 => k_is)
    (case kLF1 => k_is)
    (case aD => k_is)
    (case lD => k_is)
    (case cD1 => k_is)
    (case kD1 => k_is)
    (case aP => k_is)
    (case lP => k_is)
    (case cP1 => k_is)
    (case kP1 => k_is)
    (case aLI => k_is)
    (case lLI => k_is)
    (case cLI1 => k_is)
    (case kLI1 => k_is)
    (case aJO => k_is)
    (case lJO => k_is)
    (case cJO1 => k_is)
    (case kJO1 => k_is)
    (case aCT => k_is)
    (case lCT => k_is)
    (case cCT1 => k_is)
    (case kCT1 => k_is)
    (case aLO => k_is)
    (case lLO => k_is)
    (case cLO1 => k_is)
    (case kLO1 => k_is)
    (case aLAW => k_is)
    (case lLAW => k_is)
    (case cLAW1 => k_is)
    (case kLAW1 => k_is)
    (case gML0 => k_is)
    (case gMS0 => k_is)
    (case nW => k_is)
    (case nE => k_is)
    (case xE => k_is)
    (case saE => k_is)
    (case gaE => k_is)
    (case ggE => k_is)
    (case nsE => k_is)
    (case aiE => k_is)
    (case tiE => k_is)
    (case liE => k_is)
    (case ciE => k_is)
    (case kpE => k_is)
    (case eeE => k_is)
    (case tyE => k_is)
    (case hdE => k_is)
    (case sbE => first | rfl | k_is)
    (case clE => k_is)
    (case scE => k_is)
    (case tkE => k_is)
    (case mrE => k_is)
    (case ktE => first | rfl | k_is)
    (case z_len => k_is)
    (case z_range => k_is)
    (case z_int => k_is)
    (case z_abs => k_is)
    (case z_list => k_is)
    (case z_isinstance => k_is)
    (case z_enumerate => k_is)
