import PyProof.Rows.All
import Wide.All
import OpenK.AllK
import Wide.FinOn
import PySem.Challenge.RW_quiltward_k95_whole_plans_with_the_fewes
import HandS.ForSpec
import HandS.ForMost
import HandS.AnyAll
import HandS.EndTab
import HandS.StrMore
import HandS.FStr
import HandS.IsInst
import HandS.Wide
import HandS.RaiseMore
import HandS.Text
import HandS.Codes
import HandS.RevRange
import HandS.Style
import HandS.More
import HandS.TupLe
import HandS.TupMul
import KE.DataEq
import KE.Datum
import KE.GoesEnum
import PyProof.Draws
import PyProof.EnumMake
import PyProof.StrOps2
import PyProof.StrLawsChain
import PyProof.StrLawsTight
import HandS.Walk
import HandS.Comp
import PyProof.GenQ
import PyProof.ToksMono
import HandS.Dict
import HandS.DictTup
import HandS.DictComp
import HandS.TupLen
import PyProof.DictMoreH
import PyProof.DictTruth
import PyProof.ReprRoads
import HandS.EndOwn
import KE.DatumOrd
import KE.SortData
import KE.DataCmp
import HandS.SortRule
import KE.KDictKeyed
import KE.KeyNested
import HandS.Iter
import KE.KDictCopyH
import PyProof.Transfer
import KE.KDictPairs
import KE.KDictOf
import HandS.DictEq
import HandS.ListEq
import HandS.Lambda
import HandS.SortKw
import KE.SortKeyHeap
import KE.KLam
import KE.KRevSl
import HandS.Flow
import HandS.TupAny
import HandS.SetKeys
import HandS.Words
import KE.DataFind
import PyProof.MinMaxWalk
import PyProof.WalkInts
import KE.DataMinMax
import HandS.TupSets
import HandS.SetFor
set_option Elab.async false
set_option linter.all false
set_option maxRecDepth 100000
set_option maxHeartbeats 16000000
/-! rules of my own over the hand layer -/
namespace QR
open PySem PySem.Spec PyProof.Rows L2 GxR
section
variable {X : Cx} {pins : List (Addr × Obj)} {σ : L2.St} {H : Hp} {s : Shared}

/-! ### all(test for x in source), the test may read captured names -/
/-- what is walked: from the state s1, an iterator of n items, of which item i is one of Pw i; more: what else is looked at -/
def SrcOk (X : Cx) (P : Addr) (u : Value) (s1 : Shared) (n : Nat) (Pw : Nat → Value → Prop) : Prop :=
  ∃ more : List Addr, (∀ b ∈ more, b < s1.heap.objs.size ∧ b ≠ P) ∧
    ∀ Q : Value → Shared → Prop, (∀ (ob : Obj) (St : Nat → Heap → Prop),
        (∀ A' : Around, A'.handled = none → Walks X.prog X.w A' s1.heap.objs.size (s1.heap.objs.size :: more) [s1.heap.objs.size] n Pw St) → St 0 (s1.heap.push ob) →
          Q (.ref s1.heap.objs.size) { s1 with heap := s1.heap.push ob }) → wpAny (model X.prog X.w) X.A (pyIter u) Q X.xe s1
/-- the element is a test: tr i for the item i -/
def EltOk (X : Cx) (P : Addr) (scope : Scope) (x : Str) (elt : Expr) (s1 : Shared) (Pw : Nat → Value → Prop) (tr : Nat → Bool) : Prop :=
  ∀ (ce : Env) (A' : Around) (E' : Value → Shared → Prop) (i : Nat) (v : Value) (s2 : Shared) (m2 : Str → Option Value), A'.handled = none → ce.scope = scope → ce.cells = cloFrom X.env.cells scope.names [] →
    Pw i v → s2.heap.Ns ce.locals m2 → m2 x = some v → (∀ b o, b ≠ P → s1.heap.get? b = some o → s2.heap.get? b = some o) →
      wpAny (model X.prog X.w) A' (eval elt ce) (fun y s3 => y = .bool (tr i) ∧ Keeps s2 s3) E' s2

/-- made: the generator g is ready for its walk -/
def Made (X : Cx) (pins : List (Addr × Obj)) (σ : L2.St) (H1 : Hp) (P : Addr) (n : Nat) (tr : Nat → Bool) (g : Addr) (s5 : Shared) : Prop :=
  ∃ (fp wr : List Addr) (G : Array GenState → Array GenState → Prop) (F : Nat → Value → Prop) (St : Nat → Shared → Prop),
    WalksS X.prog X.w X.A.in1 g fp wr G n F St ∧ St 0 s5 ∧ TruthOf X.prog X.w X.A.in1 F tr ∧
      ∀ s', Moved wr G s5 s' → ∃ H2, Tabbed P H1 H2 ∧ Inv X pins σ H2 s'

theorem gen_make {c P : Addr} {elt iter : Expr} {x : Str} {px gpos : Pos} {scope : Scope} {k : Nat} {Q' : Value → Shared → Prop}
    (hr : Room k X.A) (TB : TabB X.base X.mg c P) (hcode : X.env.code = .ref c) (S : GenS X.env scope x) (hs : ∀ v, genFold iter X.env v = pure v)
    (h : wpAny (model X.prog X.w) X.A (eval iter X.env) (fun u s1 => ∃ (H1 : Hp) (n : Nat) (Pw : Nat → Value → Prop) (tr : Nat → Bool), Inv X pins σ H1 s1 ∧ TabG H1 P ∧ SrcOk X P u s1 n Pw ∧ EltOk X P scope x elt s1 Pw tr ∧
      ∀ g s5, Made X pins σ H1 P n tr g s5 → Q' (.ref g) s5) X.xe s) :
    wpAny (model X.prog X.w) X.A (eval (.GeneratorExp elt [⟨.Name x px, iter, [], 0⟩] scope gpos) X.env) Q' X.xe s := by
  have dp := hr.dp
  refine wpAny_GeneratorExp_walksQ hr.hd S.co (closure_ok S.free) S.cell S.dot S.loc S.kind (by omega) (thn h ?_) hs
  intro u s1 ⟨H1, n, Pw, tr, I1, ⟨ps, hP, hps⟩, ⟨more, hmore, hit⟩, hel, hQ⟩
  refine hit _ fun ob St W st0 => ?_
  -- the table, in the heap before and behind the iterator
  have tb0 : s1.heap.get? P = some { cls := .none, data := .fields ps } := I1.hok P _ hP
  have ltP : P < s1.heap.objs.size := Heap.lt_size tb0
  have tb1 := Heap.get?_push_of_some ob tb0
  have code1 : PySem.W.CodeHd (s1.heap.push ob) c P := TB.code.keeps fun b o e => Heap.get?_push_of_some _ (I1.bk b o e)
  have lim1 := I1.nolimit.push ob
  have lt1 : cStatics < s1.heap.objs.size := let ⟨_, z, _⟩ := I1.nolimit; z.lt
  have neP : cStatics ≠ P := by
    intro e
    obtain ⟨_, ⟨o', es, ep, ho, hd, _⟩, _⟩ := I1.nolimit
    rw [e, tb0] at ho
    cases ho
    cases hd
  have sz1 : (s1.heap.push ob).objs.size = s1.heap.objs.size + 1 := Heap.size_push ..
  have up3 : ∀ h3 : Heap, (s1.heap.push ob).objs.size ≤ h3.objs.size → s1.heap.objs.size < h3.objs.size := fun h3 l => by
    rw [sz1] at l
    exact l
  refine ⟨lim1, ?_⟩
  have rest : ∀ (code : Value) (h3 : Heap) (tk : Nat) (ps3 : Array Value), Heap.ExtBut P (s1.heap.push ob) h3 → (s1.heap.push ob).objs.size ≤ h3.objs.size → h3.get? P = some { cls := .none, data := .fields ps3 } →
      (∃ q, ps3 = ps ++ q) → TriplesOk ps3.toList →
      wpAny (model X.prog X.w) X.A (builtinsFor X.env.globals X.env.builtins) (fun bi s4 =>
        ∃ Ia fp wr n0 Pf St0 pz F, Value.ref s1.heap.objs.size = .ref Ia ∧ (∀ A' : Around, A'.handled = none → Walks X.prog X.w A' Ia fp wr n0 Pf St0) ∧ St0 0 s4.heap ∧ (∀ b ∈ fp, b < s4.heap.objs.size) ∧ s4.heap.NoLimit ∧ cStatics ∉ wr ∧
          (∀ hf : Heap, (∀ b o, s4.heap.get? b = some o → hf.get? b = some o) →
            QuietGen X.prog X.w (genEnv scope (cloFrom X.env.cells scope.names []) s4.heap.objs.size code bi X.env) x [] elt (List.range s4.heap.objs.size) wr Pf pz F hf) ∧
          (∀ a h5 tk gs, gs.bare = true → s4.heap.objs.size < a → h5.objs.size = a + 1 → (∀ b o, s4.heap.get? b = some o → h5.get? b = some o) →
            WalksS X.prog X.w X.A.in4 a (a :: s4.heap.objs.size :: List.range s4.heap.objs.size) (s4.heap.objs.size :: wr) (GenOnlyQ s4.gens.size) (passing pz n0 0).length
              (fun j y => ∃ i, (passing pz n0 0)[j]? = some i ∧ F i y) (GenAt X.prog X.w X.A.in4 a s4.gens.size s4.heap.objs.size (List.range s4.heap.objs.size) wr pz n0 F) →
            GenAt X.prog X.w X.A.in4 a s4.gens.size s4.heap.objs.size (List.range s4.heap.objs.size) wr pz n0 F 0 { s4 with gens := s4.gens.push gs, toks := tk, heap := h5 } →
              Q' (.ref a) { s4 with gens := s4.gens.push gs, toks := tk, heap := h5 })) X.xe { s1 with heap := h3, toks := tk } := by
    intro code h3 tk ps3 ext le3 tb3 hq ok3
    obtain ⟨bm, om, m1, m2, m3, m4, m5, m6, m7, m8⟩ := TB.bm
    have k3 : ∀ b o, b ≠ P → s1.heap.get? b = some o → h3.get? b = some o := fun b o ne e => ext b o ne (Heap.get?_push_of_some _ e)
    refine wpAny_builtinsFor (m := X.mg) ?_ m1 m2 (k3 _ _ m4 (I1.bk _ _ m5)) m6 m7 m8 ?_
    · rw [I1.ok.glob]
      exact ((I1.mod.glob.keeps I1.bk).push ob).extBut ext TB.gP
    refine ⟨s1.heap.objs.size, s1.heap.objs.size :: more, [s1.heap.objs.size], n, Pw, St, fun _ => true, fun i y => y = .bool (tr i), rfl, W, ?_, ?_, lim1.extBut ext neP, ?_, ?_, ?_⟩
    · refine (W X.A hr.hd).frame _ _ _ st0 fun b hb o e => ext b o ?_ e
      intro z
      rcases List.mem_cons.mp hb with q | q
      · rw [z] at q
        rw [q] at ltP
        exact Nat.lt_irrefl _ ltP
      · exact (hmore b q).2 z
    · intro b hb
      show b < h3.objs.size
      rcases List.mem_cons.mp hb with q | q
      · rw [q]
        exact up3 h3 le3
      · exact Nat.lt_trans (hmore b q).1 (up3 h3 le3)
    · intro z
      rcases List.mem_cons.mp z with q | q
      · rw [q] at lt1
        exact Nat.lt_irrefl _ lt1
      · cases q
    · intro hf hk
      constructor
      · intro A' E' i v s2 mm hA hv hn hm hkk
        rw [List.forIn_nil]
        exact wpAny_pure ⟨rfl, keeps_refl _⟩
      · intro A' E' i v s2 mm hA hv _ hn hm hkk
        refine hel _ A' E' i v s2 mm hA rfl rfl hv hn hm fun b o ne e => ?_
        have e3 := k3 b o ne e
        have l1 := Heap.lt_size e
        refine hkk b (List.mem_range.mpr (Heap.lt_size e3)) ?_ o (hk b o e3)
        intro z
        rcases List.mem_cons.mp z with q | q
        · rw [q] at l1
          exact Nat.lt_irrefl _ l1
        · cases q
    · intro g h5 tk5 gs bare5 gt5 sz5 k5 W5 at5
      simp only [GxR.passing_true, List.length_range] at W5
      refine hQ g _ ⟨_, _, _, _, _, W5.in4_1, at5, ?_, fun s' mv => ?_⟩
      · intro j y sj Qj Ej ⟨i, hij, ey⟩ hQj
        obtain ⟨lj, ej⟩ := List.getElem?_eq_some_iff.mp hij
        rw [List.getElem_range] at ej
        rw [ey, ← ej]
        exact wpAny_truthy_bool hQj
      · obtain ⟨q, eq3⟩ := hq
        have out : ∀ b o, s1.heap.get? b = some o → b ∉ h3.objs.size :: [s1.heap.objs.size] := by
          intro b o e hb
          have l1 := Heap.lt_size e
          rcases List.mem_cons.mp hb with z | z
          · rw [z] at l1
            have l2 : h3.objs.size < s1.heap.objs.size := l1
            omega
          · rcases List.mem_cons.mp z with z | z
            · rw [z] at l1
              exact Nat.lt_irrefl _ l1
            · cases z
        have tb' : s'.heap.get? P = some { cls := .none, data := .fields (ps ++ q) } := by
          rw [← eq3]
          exact mv.heap P _ (out P _ tb0) (k5 P _ tb3)
        have J := inv_tab (g' := s'.gens) (d' := s'.drawn) (t' := s'.toks) I1 hP (fun b o ne e => mv.heap b o (out b o e) (k5 b o (k3 b o ne e))) tb' (AllBare.movedS (I1.bare.push bare5) mv)
        rw [sh_eta s1 s' mv.os] at J
        exact ⟨upd H1 P (.tbl (ps ++ q)), ⟨⟨ps ++ q, upd_same, by rw [← eq3]; exact ok3⟩, fun b ne => upd_ne ne⟩, J⟩
  cases hc : codeAmong gpos ps.toList with
  | some cv =>
    exact wpAny_genexprCode_hit hcode (code1.code tb1 hps) hc (rest cv _ s1.toks ps (Heap.ExtBut.refl _ _) (Nat.le_refl _) tb1 ⟨#[], (Array.append_empty).symm⟩ hps)
  | none =>
    refine wpAny_genexprCodeX hcode (code1.code tb1 hps) (code1.tab tb1) hc ?_
    intro c' h' tk ext ge lt isC _ tab' _
    obtain ⟨o1, v1, f1, f2, f3, f4, f5, f6, f7, f8, _, _, _, _, _, _, _, _, _, okT, _⟩ := isC
    exact rest _ h' tk _ ext (Nat.le_trans ge (Nat.le_of_lt lt)) tab'.2 ⟨_, rfl⟩ okT

/-- all of it -/
theorem all_run {c P : Addr} {elt iter : Expr} {x : Str} {px p pos gpos : Pos} {scope : Scope} {k : Nat} {Q : V → Hp → Prop}
    (hr : Room k X.A) (hg : Gl X "all") (hm : X.mg "all" = none) (TB : TabB X.base X.mg c P) (hcode : X.env.code = .ref c) (S : GenS X.env scope x) (hs : ∀ v, genFold iter X.env v = pure v) (I : Inv X pins σ H s)
    (h : wpAny (model X.prog X.w) X.A (eval iter X.env) (fun u s1 => ∃ (H1 : Hp) (n : Nat) (Pw : Nat → Value → Prop) (tr : Nat → Bool), Inv X pins σ H1 s1 ∧ TabG H1 P ∧ SrcOk X P u s1 n Pw ∧ EltOk X P scope x elt s1 Pw tr ∧
      ∀ H2, Tabbed P H1 H2 → Q (.bl ((List.range n).all tr)) H2) X.xe s)
    (he : starEach [.GeneratorExp elt [⟨.Name x px, iter, [], 0⟩] scope gpos] X.env = (false, eval (.GeneratorExp elt [⟨.Name x px, iter, [], 0⟩] scope gpos) X.env) :: starEach [] X.env := by rfl) :
    wpAny (model X.prog X.w) X.A (eval (.Call (.Name "all" p) [.GeneratorExp elt [⟨.Name x px, iter, [], 0⟩] scope gpos] [] pos) X.env) (EP X pins σ Q) X.xe s := by
  refine wpAny_Call_Name_kw (ld_blt I hg hm (show bootBuiltins "all" = some (.builtin "all") by decide +kernel) ?_)
  refine PyProof.Rows.callWith_builtin1 ?_ he (by rfl)
  rw [he]
  refine Calls.spliced_cons (gen_make (pins := pins) (σ := σ) hr TB hcode S hs (thn h ?_))
  intro u s1 ⟨H1, n, Pw, tr, I1, T1, src, el, q⟩
  refine ⟨H1, n, Pw, tr, I1, T1, src, el, fun g s5 mk => ?_⟩
  obtain ⟨fp, wr, G, F, St0, W, st5, tru, back⟩ := mk
  refine Calls.spliced_nil (call_all_walkS (W.self 0 _ _ _ st5 ⟨g, fp, wr, G, n, F, St0, tr, rfl, W, st5, tru, fun s' mv => ?_⟩))
  obtain ⟨H2, t2, I2⟩ := back s' mv
  exact ⟨.bl _, H2, I2, rfl, q H2 t2⟩

/-! ### all(x in y for x in text), y a captured text in the slot i -/
def tAllIn (P : Addr) (i : Nat) (te : TE) : TE := fun σ H Q => te σ H fun v H1 => ∃ a z : Str, v = .str a ∧ σ[i]? = some (some (.str z)) ∧ TabG H1 P ∧
  ∀ H2, Tabbed P H1 H2 → Q (.bl (a.cps.toList.all fun c => decide (c ∈ z.cps.toList))) H2
theorem pe_allIn {c P : Addr} {iter : Expr} {x y : Str} {i : Nat} {px p pos gpos p1 p2 p3 : Pos} {scope : Scope} {te : TE} {k : Nat}
    (hr : Room k X.A) (hg : Gl X "all") (hm : X.mg "all" = none) (TB : TabB X.base X.mg c P) (hcode : X.env.code = .ref c) (S : GenS X.env scope x) (hi : PE X iter te) (hs : ∀ v, genFold iter X.env v = pure v)
    (hN : X.N[i]? = some y) (hv : X.env.kindOf y = some .cell) (hy : scope.names.lookup y = some .free) (hyc : (cloFrom X.env.cells scope.names []).lookup y = X.env.cells.lookup y)
    (he : starEach [.GeneratorExp (.Compare (.Name x p1) [.In] [.Name y p2] p3) [⟨.Name x px, iter, [], 0⟩] scope gpos] X.env = (false, eval (.GeneratorExp (.Compare (.Name x p1) [.In] [.Name y p2] p3) [⟨.Name x px, iter, [], 0⟩] scope gpos) X.env) :: starEach [] X.env := by rfl)
    (hd : (x == ("__debug__" : Str)) = false := by decide) (hd2 : (y == ("__debug__" : Str)) = false := by decide) (hn2 : (y == ("__classdict__" : Str)) = false := by decide) :
    PE X (.Call (.Name "all" p) [.GeneratorExp (.Compare (.Name x p1) [.In] [.Name y p2] p3) [⟨.Name x px, iter, [], 0⟩] scope gpos] [] pos) (tAllIn P i te) := by
  refine ⟨fun pins s σ H Q I h => all_run hr hg hm TB hcode S hs I (thn (hi.run pins s σ H _ I h) ?_) he⟩
  intro u s1 ⟨v, H1, I1, r1, a, z, ev, ez, T1, q⟩
  subst ev
  obtain ⟨t, rfl⟩ := r1
  obtain ⟨m, hm1, hl⟩ := I1.loc
  obtain ⟨uz, rz, lz⟩ := hl i y _ hN ez (.inr (.inl hv))
  obtain ⟨tz, rfl⟩ := rz
  have hcell : ∃ cl, X.env.cells.lookup y = some cl ∧ s1.heap.IsCell cl (some (.str z tz)) := by
    rcases lz with ⟨k1, _⟩ | ⟨_, cl, h1, h2⟩
    · rw [hv] at k1
      cases k1
    · exact ⟨cl, h1, h2⟩
  obtain ⟨cl, hc1, hc2⟩ := hcell
  refine ⟨H1, a.cps.size, SignAt a, trF (fun c => decide (c ∈ z.cps.toList)) a.cps.toList, I1, T1, ⟨[], fun b hb => (nomatch hb), fun Q hQ => wpAny_pyIter_str hQ⟩, ?_, fun H2 t2 => ?_⟩
  · intro ce A' E' j v s2 m2 _ es ec ⟨cc, tc, hcc, ev⟩ hn hmx kp
    subst ev
    refine wpAny_Compare1 ?_ (by with_unfolding_all rfl)
    refine wpAny_Name (wpAny_loadName_local (by rw [es]; exact S.kind) (by show ce.scope.names.lookup x = _; rw [es]; exact S.loc) hn hmx ?_) hd
    refine wpAny_Name (wpAny_loadName_free (c := cl) (v := .str z tz) (by rw [es]; exact S.kind) (by show ce.scope.names.lookup y = _; rw [es]; exact hy) (by rw [ec, hyc]; exact hc1) ?_ ?_ hn2) hd2
    · obtain ⟨oc, ho, hdt⟩ := hc2
      refine ⟨oc, kp cl oc ?_ ho, hdt⟩
      intro e
      obtain ⟨ps, hP, _⟩ := T1
      have tb0 : s1.heap.get? P = some { cls := .none, data := .fields ps } := I1.hok P _ hP
      rw [e, tb0] at ho
      cases ho
      cases hdt
    · refine PyProof.Rows.in_str ⟨?_, keeps_refl _⟩
      have e9 : a.cps.toList[j]? = some cc := by rw [Array.getElem?_toList]; exact hcc
      rw [PySem.StrLaws.found_one z cc, trF_some e9]
  · rw [all_signs a]
    exact q H2 t2

end
end QR
/-! the mathematics of records: no program here -/
namespace TR
open PySem L2 TL
abbrev Sg (l : List Nat) : Str := ⟨l.toArray⟩

/-! ### numbers in digits -/
theorem val_snoc (l : List Nat) (c : Nat) : NumText.digitsVal (l ++ [c]) = NumText.digitsVal l * 10 + (c - 48) := by
  unfold NumText.digitsVal
  rw [List.foldl_append]
  rfl
theorem num_head {n : Nat} (h : 0 < n) : ∃ c r, numL n = c :: r ∧ c ≠ 48 := by
  induction n using Nat.strongRecOn with
  | _ n ih =>
    by_cases h1 : n < 10
    · refine ⟨48 + n, [], numL_lt h1, by omega⟩
    · obtain ⟨c, r, e, ne⟩ := ih (n / 10) (by omega) (by omega)
      exact ⟨c, r ++ [48 + n % 10], by rw [numL_step (by omega), e]; rfl, ne⟩
theorem num_zero : numL 0 = [48] := numL_lt (by decide)
/-- digits without leading zeros are those of their number -/
theorem num_canon : ∀ (k : Nat) (l : List Nat), l.length = k → NumText.AllDigits l → l ≠ [] → (l.head? ≠ some 48 ∨ l = [48]) → numL (NumText.digitsVal l) = l := by
  intro k
  induction k with
  | zero =>
    intro l hl _ ne _
    exact absurd (List.eq_nil_of_length_eq_zero hl) ne
  | succ k ih =>
    intro l hl hd ne hz
    obtain ⟨i, c, rfl⟩ : ∃ i c, l = i ++ [c] := ⟨l.dropLast, l.getLast ne, (List.dropLast_concat_getLast ne).symm⟩
    have hc : 48 ≤ c ∧ c ≤ 57 := hd c (List.mem_append_right _ (List.mem_singleton.mpr rfl))
    have hi : NumText.AllDigits i := fun x hx => hd x (List.mem_append_left _ hx)
    have li : i.length = k := by
      rw [List.length_append, List.length_singleton] at hl
      omega
    by_cases h0 : i = []
    · subst h0
      have e : NumText.digitsVal ([] ++ [c]) = c - 48 := by
        rw [val_snoc]
        show 0 * 10 + (c - 48) = c - 48
        omega
      rw [e, numL_lt (by omega)]
      show [48 + (c - 48)] = [c]
      rw [show 48 + (c - 48) = c by omega]
    · have hh : (i ++ [c]).head? = i.head? := by
        cases i with
        | nil => exact absurd rfl h0
        | cons x r => rfl
      have hz2 : i.head? ≠ some 48 := by
        rcases hz with z | z
        · rw [hh] at z
          exact z
        · have := congrArg List.length z
          rw [List.length_append, List.length_singleton, List.length_singleton] at this
          have : i.length = 0 := by omega
          exact absurd (List.eq_nil_of_length_eq_zero this) h0
      have e1 := ih i li hi h0 (.inl hz2)
      have hp : 0 < NumText.digitsVal i := by
        rcases Nat.eq_zero_or_pos (NumText.digitsVal i) with z | z
        · rw [z, num_zero] at e1
          rw [← e1] at hz2
          exact absurd rfl hz2
        · exact z
      rw [val_snoc, numL_step (by omega)]
      have d1 : (NumText.digitsVal i * 10 + (c - 48)) / 10 = NumText.digitsVal i := by omega
      have d2 : (NumText.digitsVal i * 10 + (c - 48)) % 10 = c - 48 := by omega
      rw [d1, d2, e1, show 48 + (c - 48) = c by omega]
theorem num_len_mono : ∀ (m n : Nat), n ≤ m → (numL n).length ≤ (numL m).length := by
  intro m
  induction m using Nat.strongRecOn with
  | _ m ih =>
    intro n h
    by_cases h1 : n < 10
    · rw [numL_lt h1]
      exact List.length_pos_iff.mpr (numL_ne m)
    · rw [numL_step (n := n) (by omega), numL_step (n := m) (by omega), List.length_append, List.length_append]
      have := ih (m / 10) (by omega) (n / 10) (by omega)
      show _ + 1 ≤ _ + 1
      omega

instance (l : List Nat) : Decidable (NumText.AllDigits l) := inferInstanceAs (Decidable (∀ c ∈ l, 48 ≤ c ∧ c ≤ 57))
def readNum (l : List Nat) (m : Nat) : Option Nat :=
  if l.length = 0 ∨ (numL m).length < l.length ∨ ¬ NumText.AllDigits l then none
  else if l.head? = some 48 ∧ l ≠ [48] then none
  else if NumText.digitsVal l ≤ m then some (NumText.digitsVal l) else none
theorem readNum_some {l : List Nat} {m n : Nat} (h : readNum l m = some n) : l = numL n ∧ n ≤ m := by
  unfold readNum at h
  split at h
  · cases h
  · rename_i h1
    split at h
    · cases h
    · rename_i h2
      split at h
      · rename_i h3
        cases h
        refine ⟨(num_canon _ l rfl (Decidable.byContradiction fun z => h1 (.inr (.inr z))) (fun z => h1 (.inl (by rw [z]; rfl))) ?_).symm, h3⟩
        by_cases z : l.head? = some 48
        · exact .inr (Decidable.byContradiction fun y => h2 ⟨z, y⟩)
        · exact .inl z
      · cases h
theorem readNum_num {m n : Nat} (h : n ≤ m) : readNum (numL n) m = some n := by
  unfold readNum
  have l0 : (numL n).length ≠ 0 := fun z => numL_ne n (List.eq_nil_of_length_eq_zero z)
  have l1 := num_len_mono m n h
  rw [if_neg (by
    rintro (z | z | z)
    · exact l0 z
    · omega
    · exact z (numL_digits n)), if_neg (by
    rintro ⟨z1, z2⟩
    rcases Nat.eq_zero_or_pos n with q | q
    · rw [q, num_zero] at z2
      exact z2 rfl
    · obtain ⟨c, r, e, ne⟩ := num_head q
      rw [e] at z1
      exact ne (Option.some.inj z1)), numL_val, if_pos h]
end TR
/-! rules of my own over the hand layer: text * int, enumerate(text) -/
namespace TR
open PySem PySem.Spec PyProof.Rows L2 TL
theorem sg_tl (s : Str) : Sg (tl s) = s := rfl
/-! ### text * int -/
def repL (l : List Nat) (k : Int) : List Nat := (List.replicate k.toNat l).flatten
def rRepS : R2 := fun x y H Q => ∃ (s : Str) (k : Int), x = .str s ∧ y = .int k ∧ k ≤ 1000 ∧ -1000 ≤ k ∧ s.length ≤ 1000 ∧ Q (.str (Sg (repL (tl s) k))) H
theorem fold_cps (x : Array Nat) : ∀ (m : Nat) (b : Array Nat), ((List.replicate m x).foldl (· ++ ·) b).toList = b.toList ++ (List.replicate m x.toList).flatten
  | 0, b => by simp
  | m + 1, b => by
    rw [List.replicate_succ, List.foldl_cons, fold_cps x m, List.replicate_succ, List.flatten_cons, Array.toList_append, List.append_assoc]
theorem op_repS {X : Cx} : OpR X (binaryOp .Mult) rRepS := by
  intro pins s σ H x y v u Q I rx ry h
  obtain ⟨i, k, rfl, rfl, h1, h2, hz, q⟩ := h
  obtain ⟨t, rfl⟩ := rx
  obtain ⟨t', rfl⟩ := ry
  have hm : (i.length : Int) * k ≤ 1000000 := by
    by_cases kz : 0 ≤ k
    · have a1 : (i.length : Int) * k ≤ 1000 * k := Int.mul_le_mul_of_nonneg_right (by omega) kz
      omega
    · have a1 := Int.mul_nonneg (show (0 : Int) ≤ i.length by omega) (show (0 : Int) ≤ -k by omega)
      rw [Int.mul_neg] at a1
      omega
  refine P.mul_str (by
    rw [decide_eq_false (by omega : ¬ k < -(2 ^ 63 : Int)), decide_eq_false (by omega : ¬ k ≥ 2 ^ 63)]
    rfl) (fun hk _ => ?_) (fun hk _ => ?_) ?_
  · have := (Int.le_ediv_iff_mul_le (show 0 < k by omega)).mpr (show (i.length : Int) * k ≤ 2 ^ 63 - 1 by omega)
    omega
  · have e : i.length * k.toNat ≤ 1000000 := by
      have : ((i.length * k.toNat : Nat) : Int) = (i.length : Int) * k := by
        rw [Int.natCast_mul, Int.toNat_of_nonneg (by omega)]
      omega
    show decide (i.length * k.toNat > sizeLine) = false
    refine decide_eq_false ?_
    rw [sizeLine_eq]
    omega
  · have end_ : ∀ (z : Str), tl z = repL (tl i) k → V.str z = V.str (Sg (repL (tl i) k)) := fun z e => by rw [← e]
    by_cases h1 : k < 1
    · rw [if_pos h1]
      refine ⟨Nat.zero_le _, .str (Sg (repL (tl i) k)), H, I.tok _, ⟨s.toks, ?_⟩, q⟩
      have e : repL (tl i) k = [] := by
        unfold repL
        rw [show k.toNat = 0 by omega]
        rfl
      rw [e]
      rfl
    · rw [if_neg h1]
      cases hc : (k == 1 || i.length == 0)
      · rw [if_neg Bool.false_ne_true]
        have e := fold_cps i.cps k.toNat #[]
        rw [Array.toList_empty, List.nil_append] at e
        have e2 : (⟨(List.replicate k.toNat i.cps).foldl (· ++ ·) #[]⟩ : Str) = Sg (repL (tl i) k) := ext_tl e
        have lz : (repL (tl i) k).length ≤ sizeLine := by
          unfold repL
          rw [PyProof.Rows.lm_len_rep_flat, sizeLine_eq]
          have : ((k.toNat * (tl i).length : Nat) : Int) = (i.length : Int) * k := by
            rw [Int.natCast_mul, Int.toNat_of_nonneg (by omega), Int.mul_comm]
            rfl
          omega
        show (Made.str ⟨(List.replicate k.toNat i.cps).foldl (· ++ ·) #[]⟩).post _ _
        rw [e2]
        exact ⟨lz, .str (Sg (repL (tl i) k)), H, I.tok _, ⟨s.toks, rfl⟩, q⟩
      · rw [if_pos rfl]
        refine ⟨.str (Sg (repL (tl i) k)), H, I, ⟨t, ?_⟩, q⟩
        refine congrArg (Value.str · t) (ext_tl ?_)
        show tl i = repL (tl i) k
        unfold repL
        rcases Bool.or_eq_true_iff.mp hc with z | z
        · rw [beq_iff_eq.mp z]
          show tl i = [tl i].flatten
          simp
        · have z : (tl i) = [] := List.eq_nil_of_length_eq_zero (beq_iff_eq.mp z)
          rw [z]
          simp
/-! ### enumerate(text) -/
def Ites (x : Str) : It := ⟨fun i _ => i < x.cps.size, fun i H v H' => ∃ T c, v = .ref T ∧ H T = none ∧ H' = upd H T (.tup [.int (i : Nat), .str ⟨#[c]⟩]) ∧ x.cps[i]? = some c, fun i _ => i = x.cps.size⟩
theorem turn_enumS {P : Program} {w : World} {K : PySem.W.Frag} {elts : List Expr} {kk : Nat} {tpos : Pos} (x : Str) (t : Tok) (ty : String) (hty : ty = "str_ascii_iterator" ∨ ty = "str_iterator") (e it : Addr) :
    Turn P w K (.Tuple elts kk tpos) (Ites x) [e, it] e (fun i h => (∃ old, IsEnum h e it ((i : Nat) : Int) old) ∧ h.IsStrIter it ty x t i ∧ e ≠ it) where
  mem := by simp
  obj := fun i h st b hb => by
    obtain ⟨⟨old, he⟩, ⟨o, ho, hc, hd⟩, _⟩ := st
    have e' : b = e ∨ b = it := by simpa using hb
    rcases e' with z | z
    · rw [z]; exact ⟨_, he, fun v q => nomatch q⟩
    · rw [z]; exact ⟨o, ho, fun v q => by rw [hd] at q; cases q⟩
  keep := fun i h h' st k => let ⟨⟨old, he⟩, ⟨o, ho, r⟩, hne⟩ := st; ⟨⟨old, k e (by simp) _ he⟩, ⟨o, k it (by simp) o ho, r⟩, hne⟩
  item := by
    intro X hP hw hK hc i pins s σ H E I hf st hg
    subst hP hw hK
    obtain ⟨⟨old, he⟩, hit, hne⟩ := st
    have hel : e < s.heap.objs.size := Heap.lt_size he
    have hil : it < s.heap.objs.size := by obtain ⟨_, q, _⟩ := hit; exact Heap.lt_size q
    have D : Draws X.prog X.w X.A.in1 it [it] x.cps.size (fun i v => ∃ c u, x.cps[i]? = some c ∧ v = .str ⟨#[c]⟩ u) (fun i h => h.IsStrIter it ty x t i) := by
      rcases hty with z | z
      · rw [z]; exact Draws.strAscii (A := X.A.in1) (I.ok.hd hc) it x t
      · rw [z]; exact Draws.strWide (A := X.A.in1) (I.ok.hd hc) it x t
    refine wpAny_pyNext_enum_itemC D he hit hg hne (by simpa using hne) fun y h' tk hy ho hit' hT hsz hk => ?_
    obtain ⟨c, u, hcx, rfl⟩ := hy
    refine ⟨_, rfl, wpAny_letOwnedTupleGo_enum (s := { s with heap := h', toks := tk + 1 }) ho fun h'' he' sb => ?_⟩
    have hT2 : h''.get? s.heap.objs.size = some { cls := .type "tuple", data := .seq #[.int i tk, .str ⟨#[c]⟩ u] } := (sb.2 _ (Nat.ne_of_gt hel)).trans hT
    have new : ObjOk X.prog X.w (upd H s.heap.objs.size (.tup [.int (i : Nat), .str ⟨#[c]⟩])) h'' s.heap.objs.size (.tup [.int (i : Nat), .str ⟨#[c]⟩]) :=
      ⟨by show 2 ≤ sizeLine; decide, [.int i tk, .str ⟨#[c]⟩ u], .cons ⟨_, rfl⟩ (.cons ⟨_, rfl⟩ .nil), ⟨_, hT2, rfl, _, rfl⟩⟩
    have I1 : Inv X pins σ (upd H s.heap.objs.size (.tup [.int (i : Nat), .str ⟨#[c]⟩])) { s with heap := h'', toks := tk + 1 } :=
      I.turnedNew (ch := [e, it]) (fun b ob hb q => (sb.2 b (fun z => hb (by simp [z]))).trans (hk b ob (fun z => hb (by simp [z])) (fun z => hb (by simp [z])) q)) hf (Nat.le_refl _) new
    refine ⟨.ref s.heap.objs.size, _, I1, rfl, ⟨_, c, rfl, I.hok.fresh (Nat.le_refl _), rfl, hcx⟩, ⟨⟨.str ⟨#[c]⟩ u, ?_⟩, ?_, hne⟩, fun b hb => ?_⟩
    · have e1 : ((i + 1 : Nat) : Int) = (i : Int) + 1 := by omega
      rw [e1]; exact he'
    · obtain ⟨o, ho2, r⟩ := hit'
      exact ⟨o, (sb.2 it (Ne.symm hne)).trans ho2, r⟩
    · have hb' : b < s.heap.objs.size := by
        have e' : b = e ∨ b = it := by simpa using hb
        rcases e' with z | z
        · rw [z]; exact hel
        · rw [z]; exact hil
      rw [upd_ne (Nat.ne_of_lt hb')]
      exact (hf b hb).1
  done := by
    intro X hP hw hK hc i pins s σ H E I hf st hg
    subst hP hw hK
    obtain ⟨⟨old, he⟩, hit, hne⟩ := st
    obtain ⟨f0, f1, f2, f3, f4, f5⟩ := hf it (by simp)
    have D : Draws X.prog X.w X.A.in1 it [it] x.cps.size (fun i v => ∃ c u, x.cps[i]? = some c ∧ v = .str ⟨#[c]⟩ u) (fun i h => h.IsStrIter it ty x t i) := by
      rcases hty with z | z
      · rw [z]; exact Draws.strAscii (A := X.A.in1) (I.ok.hd hc) it x t
      · rw [z]; exact Draws.strWide (A := X.A.in1) (I.ok.hd hc) it x t
    have hg' : i = x.cps.size := hg
    subst hg'
    exact wpAny_pyNext_enum_endD D he hit fun h' eb => ⟨rfl, I.turned (t' := s.toks) (fun b o hb q => eb b o hb q) f0 f1 f3 f4 f5⟩
  self := fun A i s Q E st h => let ⟨⟨_, he⟩, _⟩ := st; wpAny_pyIter_enum he h
def iEnumS (ta : TA) : TI := fun σ H R => ta σ H fun vs H1 => ∃ x, vs = [.str x] ∧ R (Ites x) H1
theorem pi_enumS {X : Cx} {e : Expr} {ta : TA} {p pos tpos : Pos} {elts : List Expr} {kk : Nat} (hg : Gl X "enumerate") (hm : X.mg "enumerate" = none) (ha : PA X [e] ta) (hs : starEach [e] X.env = [(false, eval e X.env)] := by rfl) :
    PI X (.Tuple elts kk tpos) (.Call (.Name "enumerate" p) [e] [] pos) (iEnumS ta) := by
  refine ⟨fun pins s σ H R I h => ?_⟩
  refine Call_ (ld_blt I hg hm boot_enumerate (PyProof.Rows.callWith_type1 (thn (ha.run pos pins s σ H _ I h) fun us s1 ⟨vs, H1, I1, r1, q1⟩ => ?_) hs rfl))
  obtain ⟨x, ex, q⟩ := q1
  subst ex
  cases r1 with
  | cons r rr =>
    cases rr
    obtain ⟨t, rfl⟩ := r
    refine call_enumerate_str fun h' he hit hsz hk => wpAny_pyIter_enum he ?_
    have I2 : Inv X pins σ H1 { s1 with heap := h' } := I1.kept (t' := s1.toks) hk
    refine ⟨s1.heap.objs.size + 1, [s1.heap.objs.size + 1, s1.heap.objs.size], _, _, H1, rfl, I2, turn_enumS x t (strIterType x) (by unfold strIterType; split <;> simp) (s1.heap.objs.size + 1) s1.heap.objs.size, ⟨⟨.none, he⟩, hit, Nat.succ_ne_self _⟩, fun b hb => ?_, q⟩
    have e' : b = s1.heap.objs.size + 1 ∨ b = s1.heap.objs.size := by simpa using hb
    have hle : s1.heap.objs.size ≤ b := by
      rcases e' with z | z
      · rw [z]; exact Nat.le_add_right _ _
      · rw [z]; exact Nat.le_refl _
    exact I1.fpOk hle (I1.hok.fresh hle)
theorem walk_enumS (x : Str) : Walk (Ites x) x.cps.size (fun _ => True) (fun i H v H' => ∃ T c, v = .ref T ∧ H T = none ∧ H' = upd H T (.tup [.int (i : Nat), .str ⟨#[c]⟩]) ∧ x.cps[i]? = some c) where
  goes := fun i H h _ => h
  stops := fun H _ => rfl
  yields := fun i H v H' h _ y => y
theorem for_enumS {x : Str} {g : TG} {tb : TS} {D : Ends} {σ : L2.St} {H : Hp} (Pv : Nat → L2.St → Hp → Prop) (h0 : Pv 0 σ H)
    (hs : ∀ i c T σ H, (tl x)[i]? = some c → Pv i σ H → H T = none → g (.ref T) σ (upd H T (.tup [.int (i : Nat), .str ⟨#[c]⟩])) fun σ2 H2 => tb { D with nx := Pv (i + 1), ct := Pv (i + 1), bk := D.nx } σ2 H2) (hd : ∀ σ H, Pv (tl x).length σ H → D.nx σ H) :
    ∃ W : Nat → Nat → L2.St → Hp → Prop, (∃ m, W 0 m σ H) ∧ ∀ i m σ H, W i m σ H →
      ((Ites x).stop i H ∧ D.nx σ H) ∨ ((Ites x).go i H ∧ ∃ N : L2.St → Hp → Prop, (∀ σ' H', N σ' H' → ∃ m', m' < m ∧ W (i + 1) m' σ' H') ∧ ∀ v H', (Ites x).yld i H v H' → g v σ H' fun σ2 H2 => tb { D with nx := N, ct := N, bk := D.nx } σ2 H2) :=
  for_it (walk_enumS x) Pv h0 (fun _ _ _ _ _ => trivial) (fun i v σ H H' hi hp ⟨T, c, e1, e2, e3, e4⟩ => by
    subst e1
    subst e3
    exact hs i c T σ H (by rw [Array.getElem?_toList]; exact e4) hp e2) (fun σ H hp => hd σ H hp)
end TR
namespace QR
open PySem PySem.Spec PyProof.Rows L2
section
variable {X : Cx}
def rEqP (K : PySem.W.Frag) : R2 := fun x y H Q => ∃ d e, Dp K H x d ∧ Dp K H y e ∧ d.plain = true ∧ e.plain = true ∧ d.depth ≤ 60 ∧ Q (.bl (PyData.eqv d e)) H
def rNeP (K : PySem.W.Frag) : R2 := fun x y H Q => ∃ d e, Dp K H x d ∧ Dp K H y e ∧ d.plain = true ∧ e.plain = true ∧ d.depth ≤ 60 ∧ Q (.bl (!PyData.eqv d e)) H
theorem op_eqP (hu : X.A.units + 64 < cLine) : OpR X (compareOp .Eq) (rEqP X.K) := fun pins s σ H x y v u Q I rx ry ⟨d, e, hd, he, pd, pe, dd, q⟩ => by
  obtain ⟨as, r1⟩ := Dp.reads I d x v hd rx
  obtain ⟨bs, r2⟩ := Dp.reads I e y u he ry
  exact PySem.SeqAt.eq_plain r1 r2 pd pe (by omega) ⟨.bl _, H, I, rfl, q⟩
theorem op_neP (hu : X.A.units + 64 < cLine) : OpR X (compareOp .NotEq) (rNeP X.K) := fun pins s σ H x y v u Q I rx ry ⟨d, e, hd, he, pd, pe, dd, q⟩ => by
  obtain ⟨as, r1⟩ := Dp.reads I d x v hd rx
  obtain ⟨bs, r2⟩ := Dp.reads I e y u he ry
  exact PySem.SeqAt.ne_plain r1 r2 pd pe (by omega) ⟨.bl _, H, I, rfl, q⟩
end
/-! ### == and != of values with a Lean type -/
section
variable {α : Type} [DecidableEq α] [PySem.W.Datum α] {K : PySem.W.Frag} {H : Hp} {x y : V} {a b : α} {Q : VK}
theorem eq_dat (hx : Dp K H x (PySem.W.Datum.toD a)) (hy : Dp K H y (PySem.W.Datum.toD b)) (hd : PySem.W.Datum.depth α ≤ 60) (q : Q (.bl (decide (a = b))) H) : rEqP K x y H Q :=
  ⟨_, _, hx, hy, PySem.W.Datum.plain a, PySem.W.Datum.plain b, Nat.le_trans (PySem.W.Datum.depth_le a) hd, by rw [PySem.W.Datum.eqv]; exact q⟩
theorem ne_dat (hx : Dp K H x (PySem.W.Datum.toD a)) (hy : Dp K H y (PySem.W.Datum.toD b)) (hd : PySem.W.Datum.depth α ≤ 60) (q : Q (.bl (!decide (a = b))) H) : rNeP K x y H Q :=
  ⟨_, _, hx, hy, PySem.W.Datum.plain a, PySem.W.Datum.plain b, Nat.le_trans (PySem.W.Datum.depth_le a) hd, by rw [PySem.W.Datum.eqv]; exact q⟩
end
end QR
/-! mathematics of texts and their lines -/
namespace TR
open PySem PySem.Spec PyProof.Rows L2 TL
/-- the parts of l between the c's -/
def cutAt (c : Nat) : List Nat → List (List Nat)
  | [] => [[]]
  | x :: l => if x = c then [] :: cutAt c l else match cutAt c l with
    | [] => [[x]]
    | p :: r => (x :: p) :: r
def joinL (c : Nat) : List (List Nat) → List Nat
  | [] => []
  | [p] => p
  | p :: q :: r => p ++ c :: joinL c (q :: r)
theorem cut_free {c : Nat} : ∀ {p : List Nat}, c ∉ p → cutAt c p = [p]
  | [], _ => rfl
  | x :: p, h => by
    have h1 : x ≠ c := fun e => h (e ▸ List.mem_cons_self)
    have h2 : c ∉ p := fun e => h (List.mem_cons_of_mem _ e)
    unfold cutAt
    rw [if_neg h1, cut_free h2]
theorem cut_app {c : Nat} {l : List Nat} : ∀ {p : List Nat}, c ∉ p → cutAt c (p ++ c :: l) = p :: cutAt c l
  | [], _ => by
    show cutAt c (c :: l) = _
    rw [cutAt, if_pos rfl]
  | x :: p, h => by
    have h1 : x ≠ c := fun e => h (e ▸ List.mem_cons_self)
    have h2 : c ∉ p := fun e => h (List.mem_cons_of_mem _ e)
    show cutAt c (x :: (p ++ c :: l)) = _
    rw [cutAt, if_neg h1, cut_app h2]
theorem cut_join {c : Nat} : ∀ {P : List (List Nat)}, P ≠ [] → (∀ p ∈ P, c ∉ p) → cutAt c (joinL c P) = P
  | [], h, _ => absurd rfl h
  | [p], _, h => cut_free (h p List.mem_cons_self)
  | p :: q :: r, _, h => by
    rw [joinL, cut_app (h p List.mem_cons_self), cut_join (List.cons_ne_nil _ _) fun x hx => h x (List.mem_cons_of_mem _ hx)]
theorem cut_ne (c : Nat) : ∀ l, cutAt c l ≠ []
  | [] => List.cons_ne_nil _ _
  | x :: l => by
    unfold cutAt
    split
    · exact List.cons_ne_nil _ _
    · split <;> exact List.cons_ne_nil _ _
theorem tl_app (a b : Str) : tl (a ++ b) = tl a ++ tl b := by
  show (a.cps ++ b.cps).toList = _
  rw [Array.toList_append]
theorem tl_join (c : Nat) : ∀ P : List Str, tl (Str.join ⟨#[c]⟩ P) = joinL c (P.map tl)
  | [] => rfl
  | [p] => rfl
  | p :: q :: r => by
    show tl (p ++ ⟨#[c]⟩ ++ Str.join ⟨#[c]⟩ (q :: r)) = _
    rw [tl_app, tl_app, tl_join c (q :: r), List.append_assoc]
    rfl
theorem split_ne (x y : Str) : Txt.split x y ≠ [] := by
  unfold Txt.split
  split
  · exact List.cons_ne_nil _ _
  · split
    · exact List.cons_ne_nil _ _
    · unfold Builtin.Str.partsBetween
      generalize Builtin.Str.occurrences x y 0 x.length (x.length + 1) = cs
      cases cs <;> exact List.cons_ne_nil _ _
theorem split_cut (x : Str) (c : Nat) : Txt.split x ⟨#[c]⟩ = (cutAt c (tl x)).map Sg := by
  have h1 : (Txt.split x ⟨#[c]⟩).map tl = cutAt c (tl x) := by
    have e := StrLaws.join_split x ⟨#[c]⟩
    have e2 := tl_join c (Txt.split x ⟨#[c]⟩)
    rw [e] at e2
    rw [e2, cut_join (by
      intro z
      exact split_ne x ⟨#[c]⟩ (List.map_eq_nil_iff.mp z))]
    intro p hp
    obtain ⟨q, hq, rfl⟩ := List.mem_map.mp hp
    exact StrLaws.split_free x c q hq
  rw [← h1, List.map_map]
  conv => lhs; rw [← List.map_id (Txt.split x ⟨#[c]⟩)]
  rfl
theorem tl_join0 : ∀ P : List Str, tl (Str.join Str.empty P) = (P.map tl).flatten
  | [] => rfl
  | [p] => by simp [Str.join]
  | p :: q :: r => by
    show tl (p ++ Str.empty ++ Str.join Str.empty (q :: r)) = _
    rw [tl_app, tl_app, tl_join0 (q :: r), List.map_cons, List.flatten_cons]
    show tl p ++ [] ++ _ = _
    rw [List.append_nil]
    simp
theorem txt_join0 (P : List Str) : Txt.join Str.empty P = Sg ((P.map tl).flatten) := by
  show Builtin.Str.glued _ _ = _
  rw [StrLaws.glued_eq_join]
  exact ext_tl (tl_join0 P)
/-- the text of lines -/
def flatN : List (List Nat) → List Nat
  | [] => []
  | p :: r => p ++ 10 :: flatN r
theorem cut_flat {z : List Nat} (hz : 10 ∉ z) : ∀ {P : List (List Nat)}, (∀ p ∈ P, 10 ∉ p) → cutAt 10 (flatN P ++ z) = P ++ [z]
  | [], _ => cut_free hz
  | p :: r, h => by
    show cutAt 10 ((p ++ 10 :: flatN r) ++ z) = _
    rw [List.append_assoc, List.cons_append, cut_app (h p List.mem_cons_self), cut_flat hz fun x hx => h x (List.mem_cons_of_mem _ hx)]
    rfl
theorem flat_flatten : ∀ P : List (List Nat), (P.map fun p => p ++ [10]).flatten = flatN P
  | [] => rfl
  | p :: r => by
    rw [List.map_cons, List.flatten_cons, flat_flatten r, List.append_assoc]
    rfl
/-- the first place where a text fails -/
def fault : List Nat → Nat → Nat → Nat → Option Nat
  | [], at_, _, size => if size = 0 then none else some at_
  | c :: l, at_, many, size => if many = 200 then some at_ else if c = 10 then fault l (at_ + 1) (many + 1) 0 else if size = 40 then some at_ else fault l (at_ + 1) many (size + 1)
theorem fault_end : ∀ {l : List Nat} {a m s : Nat}, fault l a m s = none → (l = [] ∧ s = 0) ∨ ∃ l', l = l' ++ [10]
  | [], a, m, s, h => by
    unfold fault at h
    split at h
    · rename_i e
      exact .inl ⟨rfl, e⟩
    · cases h
  | c :: l, a, m, s, h => by
    unfold fault at h
    split at h
    · cases h
    · split at h
      · rename_i e
        rcases fault_end h with ⟨e2, _⟩ | ⟨l', e2⟩
        · exact .inr ⟨[], by rw [e2, e]; rfl⟩
        · exact .inr ⟨c :: l', by rw [e2]; rfl⟩
      · split at h
        · cases h
        · rcases fault_end h with ⟨_, e2⟩ | ⟨l', e2⟩
          · cases e2
          · exact .inr ⟨c :: l', by rw [e2]; rfl⟩
theorem fault_nil {l z : List Nat} {a m s : Nat} (h : fault (l ++ z) a m s = none) (hz : 10 ∉ z) : z = [] := by
  rcases List.eq_nil_or_concat z with e | ⟨w, x, e⟩
  · exact e
  · exfalso
    rcases fault_end h with ⟨e2, _⟩ | ⟨l', e2⟩
    · rw [e] at e2
      simp at e2
    · rw [e, List.concat_eq_append, ← List.append_assoc] at e2
      have := List.append_inj_right' e2 rfl
      have e3 : x = 10 := by simpa using this
      exact hz (by rw [e, e3]; simp)
def okT (l : List Nat) : Prop := ∀ c ∈ l, c = 10 ∨ (32 ≤ c ∧ c ≤ 126)
def okL (l : List Nat) : Prop := (∀ c ∈ l, 32 ≤ c ∧ c ≤ 126) ∧ l.length ≤ 50
theorem okL.free {l : List Nat} (h : okL l) : 10 ∉ l := fun z => by
  have := h.1 10 z
  omega
theorem okT_app {a b : List Nat} (ha : okT a) (hb : okT b) : okT (a ++ b) := fun c hc => by
  rcases List.mem_append.mp hc with h | h
  · exact ha c h
  · exact hb c h
theorem okL.t {l : List Nat} (h : okL l) : okT l := fun c hc => .inr (h.1 c hc)
theorem okT_flat : ∀ {P : List (List Nat)}, (∀ p ∈ P, okL p) → okT (flatN P)
  | [], _ => fun c hc => nomatch hc
  | p :: r, h => by
    refine okT_app (h p List.mem_cons_self).t fun c hc => ?_
    rcases List.mem_cons.mp hc with e | hc
    · exact .inl e
    · exact okT_flat (fun x hx => h x (List.mem_cons_of_mem _ hx)) c hc
theorem flat_len : ∀ {P : List (List Nat)}, (∀ p ∈ P, okL p) → (flatN P).length ≤ 51 * P.length
  | [], _ => Nat.le_refl _
  | p :: r, h => by
    have a := (h p List.mem_cons_self).2
    have b := flat_len (P := r) fun x hx => h x (List.mem_cons_of_mem _ hx)
    show (p ++ 10 :: flatN r).length ≤ 51 * (r.length + 1)
    rw [List.length_append, List.length_cons]
    omega
theorem okL_rep {l : List Nat} {k : Int} (h1 : l.length = 1) (hl : ∀ c ∈ l, 32 ≤ c ∧ c ≤ 126) (hk : k ≤ 50) : okL (repL l k) := by
  refine ⟨fun c hc => ?_, ?_⟩
  · obtain ⟨x, hx, hc⟩ := List.mem_flatten.mp hc
    rw [List.eq_of_mem_replicate hx] at hc
    exact hl c hc
  · unfold repL
    rw [PyProof.Rows.lm_len_rep_flat, h1]
    omega
end TR
/-! the array of generators never shrinks -/
namespace GX
open PySem PySem.Spec PyProof.Rows L2 GxR

theorem runs_gens_le {M : Model} {Γ : PySem.Ctx} {p : Pos} {t : Sem Fin} {fs : List Frame} {s s' : Shared} {e : End} (h : Runs M Γ p t fs s e s') : s.gens.size ≤ s'.gens.size := by
  induction h <;> (try simp only [Shared.setGen, Array.size_push, Array.size_setIfInBounds] at *) <;> omega

theorem wakes_gens_le {M : Model} {Γ : PySem.Ctx} {p : Pos} {g : Nat} {r : Resume} {s s' : Shared} {res : GenResult} (h : Wakes M Γ p g r s res s') : s.gens.size ≤ s'.gens.size := by
  have sz : ∀ (z : Shared) x, (z.setGen g x).gens.size = z.gens.size := fun z x => by simp [Shared.setGen]
  unfold Wakes at h
  split at h
  · exact h.elim
  · split at h
    · obtain ⟨e₁, s₁, hr, _, _, rfl⟩ := h
      rw [sz]; exact (sz s .running) ▸ runs_gens_le hr
    · obtain ⟨_, rfl⟩ := h; first | exact Nat.le_refl _ | (rw [sz]; exact Nat.le_refl _)
    · obtain ⟨_, rfl⟩ := h; first | exact Nat.le_refl _ | (rw [sz]; exact Nat.le_refl _)
  · obtain ⟨e₁, s₁, hr, _, _, rfl⟩ := h
    rw [sz]; exact (sz s .running) ▸ runs_gens_le hr
  · obtain ⟨_, rfl⟩ := h; exact Nat.le_refl _
  · obtain ⟨_, rfl⟩ := h; exact Nat.le_refl _

theorem wp_gens {α : Type} (M : Model) (Γ : PySem.Ctx) (n : Nat) (t : Sem α) : ∀ (Q : α → Pos → Shared → Prop) (E : Value → Pos → Shared → Prop) (p : Pos) (s : Shared), n ≤ s.gens.size → Sem.wp M Γ t Q E p s →
    Sem.wp M Γ t (fun a p' s' => n ≤ s'.gens.size ∧ Q a p' s') (fun e p' s' => n ≤ s'.gens.size ∧ E e p' s') p s := by
  induction t with
  | pure a => intro Q E p s hn h; exact ⟨hn, h⟩
  | raise e => intro Q E p s hn h; exact ⟨hn, h⟩
  | unsupported _ => intro Q E p s _ h; exact h
  | finish _ => intro Q E p s _ h; exact h
  | rule _ k ih => intro Q E p s hn h; exact ih () Q E p s hn h
  | «at» p' k ih => intro Q E p s hn h; exact ih () Q E p' s hn h
  | load a _ k ih => intro Q E p s hn h; obtain ⟨o, ho, h⟩ := h; exact ⟨o, ho, ih o Q E p s hn h⟩
  | update a _ f k ih => intro Q E p s hn h; exact ⟨h.1, ih () Q E p _ hn h.2⟩
  | loadIfAlive a k ih => intro Q E p s hn h; exact ih _ Q E p s hn h
  | point _ k ih => intro Q E p s hn h; exact ih () Q E p s hn h
  | register _ _ => intro Q E p s _ h; exact h
  | alloc o k ih => intro Q E p s hn h; exact ih _ Q E p _ hn h
  | fresh k ih => intro Q E p s hn h; exact ih _ Q E p _ hn h
  | ask k ih => intro Q E p s hn h; exact ih _ Q E p s hn h
  | choose src m k ih => intro Q E p s hn h; exact ⟨h.1, ih _ Q E p _ hn h.2⟩
  | os q _ k ih => intro Q E p s hn h; exact ih _ Q E p _ hn h
  | call c hd _ _ k ih => intro Q E p s hn h; obtain ⟨r, s', hr, h⟩ := h; exact ⟨r, s', hr, ih r Q E p s' (Nat.le_trans hn (runs_gens_le hr)) h⟩
  | handled own k ih => intro Q E p s hn h; exact ih _ Q E p s hn h
  | genState g k ih => intro Q E p s hn h; obtain ⟨st, hs, h⟩ := h; exact ⟨st, hs, ih _ Q E p s hn h⟩
  | newGen c k ih => intro Q E p s hn h; exact ih _ Q E p _ (by show n ≤ (s.gens.push _).size; rw [Array.size_push]; exact Nat.le_succ_of_le hn) h
  | resume g r _ k ih => intro Q E p s hn h; obtain ⟨res, s', hw, h⟩ := h; exact ⟨res, s', hw, ih res Q E p s' (Nat.le_trans hn (wakes_gens_le hw)) h⟩
  | yield _ _ _ _ => intro Q E p s _ h; exact h
  | stack k ih => intro Q E p s hn h; exact ih _ Q E p s hn h
  | fork _ _ => intro Q E p s _ h; exact h
  | thread k ih => intro Q E p s hn h; exact ih _ Q E p s hn h
  | await _ _ _ _ _ => intro Q E p s _ h; exact h

theorem wpAny_with_gens {α : Type} {M : Model} {A : Around} {s : Shared} {t : Sem α} {Q : α → Shared → Prop} {E : Value → Shared → Prop} {n : Nat} (hn : n ≤ s.gens.size)
    (h : wpAny M A t (fun a s' => n ≤ s'.gens.size → Q a s') (fun e s' => n ≤ s'.gens.size → E e s') s) : wpAny M A t Q E s :=
  wpAny_mono (Q := fun a s' => n ≤ s'.gens.size ∧ (n ≤ s'.gens.size → Q a s')) (E := fun e s' => n ≤ s'.gens.size ∧ (n ≤ s'.gens.size → E e s')) (fun Γ p hΓ => wp_gens M Γ n t _ _ p s hn (h Γ p hΓ)) (fun _ _ x => x.2 x.1) (fun _ _ x => x.2 x.1)

/-- the invariant speaks of the heap; the generators' array is bare -/
theorem inv_heap {X : Cx} {pins : List (Addr × Obj)} {σ : L2.St} {H : Hp} {s s' : Shared} (I : Inv X pins σ H s) (h : s'.heap = s.heap) (ho : s'.os = s.os) (hb : AllBare s'.gens) : Inv X pins σ H s' := by
  obtain ⟨h1, g1, d1, t1, o1⟩ := s
  obtain ⟨h2, g2, d2, t2, o2⟩ := s'
  obtain rfl : h2 = h1 := h
  obtain rfl : o2 = o1 := ho
  exact ⟨I.ok, I.os, hb, I.base, I.loc, I.cell, I.free, I.freeC, I.pin, I.hok, I.len⟩
theorem bare_set {s : Shared} {g : Nat} {x : GenState} (h : AllBare s.gens) (hx : x.bare = true) : AllBare (s.setGen g x).gens := by
  intro y hy
  have hy : y ∈ s.gens.setIfInBounds g x := hy
  obtain ⟨i, hi, e⟩ := Array.mem_iff_getElem.mp hy
  have hi2 : i < s.gens.size := by simpa using hi
  rw [Array.getElem_setIfInBounds hi2] at e
  split at e
  · rw [← e]; exact hx
  · rw [← e]; exact h _ (Array.getElem_mem _)
end GX
namespace GX
open PySem PySem.Spec PyProof.Rows L2 GxR

/-- the context of a generator's body -/
abbrev gCx (X : Cx) (s : Shared) (H : Hp) (ce : Env) (fp : List Addr) (A' : Around) : Cx := { X with s_0 := s, H_0 := H, env := ce, outer := X.stack, stack := ce :: X.stack, ex := fp, fn := fun _ => false, pn := [], xe := fun _ _ => False, A := A' }

section
variable {X : Cx} {pins : List (Addr × Obj)} {σ : L2.St} {H : Hp} {s : Shared}
theorem gen_start {scope : Scope} {own : List (Str × Nat)} {fp : List Addr} {code : Value} {ce : Env} {a : Addr} {go : Obj} {A' : Around} {s' : Shared} {m : Str → Option Value} (I : Inv X pins σ H s) (ok : BlkOk X.N X.env.scope scope own) (nc : ∀ y ∈ scope.names, y.2 ≠ .cell)
    (hN : X.N.Nodup) (hfp : ∀ b ∈ fp, FpOk X pins H b ∧ b < s.heap.objs.size) (hd : X.calm = true → A'.handled = none) (hfr : A'.frames = some (ce :: X.stack))
    (hce : ce = genEnv scope (cloFrom X.env.cells scope.names []) s.heap.objs.size code builtinsNs X.env) (kp : ∀ b o, s.heap.get? b = some o → s'.heap.get? b = some o) (hns : s'.heap.Ns s.heap.objs.size m)
    (hgo : s'.heap.get? a = some go) (hga : s.heap.objs.size < a) (hgd : ∀ v, go.data ≠ .cell v) (hos : s'.os = s.os) (hb : AllBare s'.gens) :
    Inv (gCx X s H ce fp A') [(a, go)] (wipe σ (own.map (·.2))) H s' := by
  have hfree : ∀ y ∈ scope.names, y.2 = .free → ∃ c, X.env.cells.lookup y.1 = some c := fun y hy e => by
    rcases ok.free y hy e with k | k
    · exact I.ok.has _ (.inl k)
    · exact I.ok.has _ (.inr k)
  have hL : ce.locals = s.heap.objs.size := by rw [hce]; rfl
  have hcl : ce.cells = cloFrom X.env.cells scope.names [] := by rw [hce]; rfl
  have hsc : ce.scope = scope := by rw [hce]; rfl
  have hfm : ce.frame = some ce.locals := by rw [hce]; rfl
  have cm : ∀ {y c}, ce.cells.lookup y = some c → X.env.cells.lookup y = some c ∧ c < s.heap.objs.size := fun {y c} e => by
    rw [hcl] at e
    rcases cloFrom_mem (PySem.mem_of_lookup e) with hm | ⟨h1, rfl⟩
    · cases hm
    · obtain ⟨c, hc⟩ := hfree _ h1 rfl
      rw [hc]
      obtain ⟨w, z⟩ := I.cell _ _ hc
      exact ⟨rfl, z.lt⟩
  have look : ∀ {y}, scope.names.lookup y = some .free → ∃ c, ce.cells.lookup y = some c ∧ X.env.cells.lookup y = some c := fun {y} hl => by
    have hy : (y, NameKind.free) ∈ scope.names := PySem.mem_of_lookup hl
    obtain ⟨c', e'⟩ := mem_lookup (cloFrom_has (cells := X.env.cells) (acc := []) hy)
    rw [← hcl] at e'
    exact ⟨c', e', (cm e').1⟩
  have stk : ∀ b ∈ frs X.stack, b < s.heap.objs.size := fun b hb => by
    obtain ⟨_, o, ho, _⟩ := I.stack.mem hb
    exact Heap.lt_size ho
  have okB : (gCx X s H ce fp A').Ok := by
    refine ⟨I.ok.mod, by show ce.scope.kind = _; rw [hsc]; exact ok.kind, by show ce.globals = _; rw [hce]; exact I.ok.glob, by show ce.builtins = _; rw [hce]; rfl, by show s.heap.objs.size ≤ ce.locals; rw [hL]; exact Nat.le_refl _,
      fun y z c e1 e2 => I.ok.inj y z c (cm e1).1 (cm e2).1, fun y hy => ?_, fun y c z e => (by cases z), hd, hfr, .inr ⟨rfl, hfm⟩, fun b hb => ⟨?_, fun y c e z => (hfp b hb).1.2.2.2.2.1 y c (cm e).1 z⟩, I.bs, Nat.le_trans I.ok.bsz I.sz, fun b o e hb => ?_, fun b hb z => ?_, I.stack, I.stkFree⟩
    · show ∃ c, ce.cells.lookup y = some c
      have hy : ce.scope.names.lookup y = some .cell ∨ ce.scope.names.lookup y = some .free := hy
      rw [hsc] at hy
      rcases hy with hy | hy
      · exact absurd rfl (nc _ (PySem.mem_of_lookup hy))
      · obtain ⟨c, h1, _⟩ := look hy
        exact ⟨c, h1⟩
    · show b ≠ ce.locals
      rw [hL]; exact Nat.ne_of_lt (hfp b hb).2
    · rcases (hfp b hb).1.2.2.2.1 with z | z
      · exact I.ok.noex b o e z
      · exact absurd (Nat.lt_of_lt_of_le (Heap.lt_size e) (Nat.le_trans I.ok.bsz z)) (Nat.lt_irrefl _)
    · rcases List.mem_cons.mp (I.stkSub b z) with z | z
      · exact (hfp b hb).1.2.1 z
      · exact (hfp b hb).1.2.2.1 z
  refine ⟨okB, hos, hb, Un.kept kp, ⟨m, ?_, fun i y av e1 e2 e3 => ?_⟩, fun y c e => ?_, ?_, fun y c e => I.freeC y c (cm e).1, fun p hp => ?_, I.hok.kept kp, by rw [wipe_length]; exact I.len⟩
  · show Heap.Ns _ ce.locals _
    rw [hL]
    exact hns
  · obtain ⟨e2, hne⟩ := wipe_some e2
    have e3 : Vis ce.scope y := e3
    rw [hsc] at e3
    have no : ∀ k, scope.names.lookup y = some k → ¬ (k = .local ∨ k = .cell) := fun k e hh => by
      rcases ok.own _ (PySem.mem_of_lookup e) hh with e' | e'
      · obtain ⟨p, hp, hpy⟩ := List.mem_map.mp e'
        have e3 := ok.ix p hp
        have : p.1 = y := hpy
        rw [this] at e3
        exact hne (List.mem_map.mpr ⟨p, hp, nodup_ix hN e3 e1⟩)
      · exact e' (List.mem_of_getElem? e1)
    have hfr : scope.names.lookup y = some .free := by
      rcases e3 with e3 | e3 | e3
      · exact absurd (.inl rfl) (no _ e3)
      · exact absurd (.inr rfl) (no _ e3)
      · exact e3
    obtain ⟨m, hn, hl⟩ := I.loc
    have hvis : Vis X.env.scope y := (ok.free _ (PySem.mem_of_lookup hfr) rfl).elim (fun k => .inr (.inl k)) (fun k => .inr (.inr k))
    obtain ⟨w, r, q⟩ := hl i y av e1 e2 hvis
    obtain ⟨c, h1, h2⟩ := look hfr
    refine ⟨w, r, .inr ⟨.inr (show ce.scope.names.lookup y = _ by rw [hsc]; exact hfr), c, h1, ?_⟩⟩
    rcases q with ⟨k, _⟩ | ⟨_, c', e', z⟩
    · have k : X.env.scope.names.lookup y = some .local := k
      rcases ok.free _ (PySem.mem_of_lookup hfr) rfl with k' | k' <;> rw [show X.env.scope.names.lookup y = _ from k'] at k <;> cases k
    · rw [h2] at e'; cases e'
      exact z.keeps kp
  · obtain ⟨w, z⟩ := I.cell y c (cm e).1
    exact ⟨w, z.keeps kp⟩
  · show H ce.locals = none
    rw [hL]; exact I.hok.fresh (Nat.le_refl _)
  · have hp : p ∈ [] ++ [(a, go)] := hp
    have e : p = (a, go) := by simpa using hp
    subst e
    refine ⟨hgo, I.hok.fresh (Nat.le_of_lt hga), ?_, fun z => ?_, hgd⟩
    · show a ≠ ce.locals
      rw [hL]; exact Nat.ne_of_gt hga
    · exact absurd (Nat.lt_trans (stk a z) hga) (Nat.lt_irrefl _)
end

/-- what is wanted of a walk: W by the turn and a measure; d: the item that ends it -/
def Wk (d : Bool) (J : It) (g : TG) (tt : TT) (te : TE) (vs : List Nat) (σ : L2.St) (W : Nat → Nat → Hp → Prop) (Qe Qd : Hp → Prop) : Prop := ∀ i m H, W i m H →
  (J.stop i H ∧ Qe H) ∨ (J.go i H ∧ ∃ Nx : Hp → Prop, (∀ H', Nx H' → ∃ m', m' < m ∧ W (i + 1) m' H') ∧ ∀ x H', J.yld i H x H' → g x (wipe σ vs) H' fun σ2 H2 => wipe σ2 vs = wipe σ vs ∧ tt σ2 H2 fun b H3 =>
    if b = true then te σ2 H3 fun y H4 => ∃ c, y = .bl c ∧ if c = d then Qd H4 else Nx H4 else Nx H3)

section
variable {Y : Cx} {A : Around} {σ : L2.St} {vs : List Nat} {a : Addr} {go : Obj}
def YE (Y : Cx) (a : Addr) (go : Obj) (ws : L2.St) (Qe : Hp → Prop) (s : Shared) : Prop := ∃ H, Inv Y [(a, go)] ws H s ∧ Qe H
def YP (d : Bool) (Y : Cx) (a : Addr) (go : Obj) (ws : L2.St) (Qd : Hp → Prop) : Protocol := fun _ _ v s kap =>
  ∃ c H, v = .bool c ∧ Inv Y [(a, go)] ws H s ∧ if c = d then Qd H else ∀ s'' : Shared, s''.heap = s.heap → s''.os = s.os → AllBare s''.gens → kap (.send .none) s''
abbrev YR (Y : Cx) (a : Addr) (go : Obj) (ws : L2.St) (Qe : Hp → Prop) : GenEnd := fun n s₀ r s₁ => r = .ok .next ∧ (fun (_ : Nat) (_ s₁ : Shared) => YE Y a go ws Qe s₁) n s₀ s₁

theorem seg_gl {d : Bool} {tg elt iter : Expr} {ifs : List Expr} {scope : Scope} {pos : Pos} {it : Addr} {fp : List Addr} {tn : Nat → Heap → Prop} {J : It} {g : TG} {tt : TT} {te : TE} {W : Nat → Nat → Hp → Prop} {Qe Qd : Hp → Prop}
    (hA : Y.A = A.over (.compLoop (.GeneratorExp elt [⟨tg, iter, ifs, 0⟩] scope pos) 0 (.ref it) .none Y.env) []) (hc : Y.calm = true) (hco : Y.env.scope.isCoroutine = false) (T : Turn Y.prog Y.w Y.K tg J fp it tn)
    (hx : Y.ex = fp) (hpn : Y.pn = []) (hafp : a ∉ fp) (pg : PG Y tg g) (pt : PTs Y ifs tt) (pe : PE Y elt te) (hW : Wk d J g tt te vs σ W Qe Qd) (hxe : Y.xe = fun _ _ => False) :
    ∀ (m n : Nat), m < n → ∀ (i : Nat) (H : Hp) (s₀ s : Shared), Inv Y [(a, go)] (wipe σ vs) H s → tn i s.heap → (∀ b ∈ fp, H b = none) → W i m H →
      Seg (model Y.prog Y.w) A (YR Y a go (wipe σ vs) Qe) (YP d Y a go (wipe σ vs) Qd) n s₀
        (.compLoop (.GeneratorExp elt [⟨tg, iter, ifs, 0⟩] scope pos) 0 (.ref it) .none Y.env)
        ((model Y.prog Y.w).den (.compLoop (.GeneratorExp elt [⟨tg, iter, ifs, 0⟩] scope pos) 0 (.ref it) .none Y.env)) [] s := by
  intro m
  induction m using Nat.strongRecOn with
  | _ m ih =>
  intro n hmn i H s₀ s I st nf w
  have stat : ∀ {ps : List (Addr × Obj)} {σ' : L2.St} {H' : Hp} {s' : Shared}, Inv Y [(a, go)] σ' H' s' → (∀ b ∈ fp, H' b = none) → ∀ b ∈ fp, FpOk Y [(a, go)] H' b := fun {ps σ' H' s'} I' hn b hb =>
    ⟨hn b hb, (I'.ok.exf b (hx ▸ hb)).1, I'.ok.exfs b (hx ▸ hb), .inl (hx ▸ hb), fun x c e => (I'.ok.exf b (hx ▸ hb)).2 x c e, fun p hp => by
      rw [hpn] at hp
      have e : p = (a, go) := by simpa using hp
      rw [e]
      exact fun z => hafp (by rw [show a = b from z]; exact hb)⟩
  show Seg _ A _ _ _ s₀ _ ((compTurn (.GeneratorExp elt [⟨tg, iter, ifs, 0⟩] scope pos) 0 (.ref it) .none Y.env).onRaise (leaving Y.env)) [] s
  rw [compTurn_gen, Sem.onRaise_eq_wrap]
  refine seg_bind_wrap (wpAny_standAt ?_)
  rcases hW i m H w with ⟨stop, qe⟩ | ⟨go1, Nx, hNx, step⟩
  · refine seg_bind_wrap ?_
    rw [← hA]
    refine thnF (T.done Y rfl rfl rfl hc i _ s _ H (fun _ _ => False) I (stat (ps := []) I nf) st stop) fun r s1 ⟨hr, I1⟩ => ?_
    subst hr
    exact seg_end (.ok .next) ⟨rfl, H, I1, qe⟩
  · refine seg_bind_wrap ?_
    rw [← hA]
    refine thnF (T.item Y rfl rfl rfl hc i _ s _ H (fun _ _ => False) I (stat (ps := []) I nf) st go1) fun r s1 ⟨u, hr, h1⟩ => ?_
    subst hr
    refine seg_bind_wrap ?_
    rw [← hA]
    refine thnF h1 fun _ s2 ⟨x, H2, I2, r2, y2, st2, n2⟩ => ?_
    have I2' := I2.pinned (stat (ps := []) I2 n2) (T.obj _ _ st2)
    have pg1 := pg.run _ s2 _ H2 x u _ I2' r2 (step x H2 y2)
    rw [hxe] at pg1
    refine seg_bind_wrap ?_
    rw [← hA]
    refine thnF pg1 fun _ s3 ⟨σ3, H3, I3, hw3, q3⟩ => ?_
    have pt1 := pt.run _ s3 σ3 H3 _ I3 q3
    rw [hxe] at pt1
    refine seg_bind_wrap ?_
    rw [← hA]
    refine thnF pt1 fun b s4 ⟨H4, I4, q4⟩ => ?_
    -- the turn's end
    have fin : ∀ {s' : Shared} {H' : Hp}, Inv Y ([(a, go)] ++ pinsAt fp s2.heap) σ3 H' s' → Inv Y [(a, go)] (wipe σ vs) H' s' ∧ tn (i + 1) s'.heap ∧ (∀ b ∈ fp, H' b = none) := fun {s' H'} I' => by
      have pin' : ∀ b ∈ fp, ∀ o, s2.heap.get? b = some o → s'.heap.get? b = some o ∧ H' b = none := fun b hb o e =>
        let z := I'.pin (b, o) (List.mem_append_right _ (List.mem_append_right _ (mem_pinsAt hb e)))
        ⟨z.1, z.2.1⟩
      have hl : (wipe σ vs).length = σ3.length := by rw [← hw3, wipe_length]
      refine ⟨(I'.unpinned (pins := [(a, go)])).weak hl (fun j v e => ?_), T.keep _ _ _ st2 fun b hb o e => (pin' b hb o e).1, fun b hb => ?_⟩
      · rw [← hw3] at e
        exact (wipe_some e).1
      · obtain ⟨o, e, _⟩ := T.obj _ _ st2 b hb
        exact (pin' b hb o e).2
    cases b with
    | false =>
      simp only [Bool.false_eq_true, if_false] at q4 ⊢
      obtain ⟨m', hm, w'⟩ := hNx H4 q4
      obtain ⟨J1, J2, J3⟩ := fin I4
      exact seg_again rfl (ih m' hm n (by omega) (i + 1) H4 s₀ s4 J1 J2 J3 w')
    | true =>
      simp only [if_true] at q4 ⊢
      have hy : ∀ v, yieldOut Y.env v = yieldValue v := fun v => by simp only [yieldOut, hco, Bool.false_eq_true, if_false]
      simp only [hy]
      have pe1 := pe.run _ s4 σ3 H4 _ I4 q4
      rw [hxe] at pe1
      rw [Sem.bind_eq_wrap', Sem.bind_eq_wrap', Sem.wrap_wrap, Sem.wrap_wrap]
      refine seg_wrap ?_
      rw [← hA]
      refine thnF pe1 fun z s5 ⟨y, H5, I5, r5, c, ec, q5⟩ => ?_
      subst ec
      cases r5
      obtain ⟨J1, J2, J3⟩ := fin I5
      by_cases hcd : c = d
      · rw [if_pos hcd] at q5
        obtain ⟨n, rfl⟩ : ∃ k, n = k + 1 := ⟨n - 1, by omega⟩
        exact seg_at (seg_yield rfl rfl rfl ⟨c, H5, rfl, J1, by rw [if_pos hcd]; exact q5⟩)
      · rw [if_neg hcd] at q5
        obtain ⟨m', hm, w'⟩ := hNx H5 q5
        obtain ⟨n, rfl⟩ : ∃ k, n = k + 1 := ⟨n - 1, by omega⟩
        refine seg_at (seg_yield rfl rfl rfl ⟨c, H5, rfl, J1, ?_⟩)
        rw [if_neg hcd]
        intro s'' h1 h2 h3
        exact seg_again rfl (ih m' hm n (by omega) (i + 1) H5 s'' s'' (inv_heap J1 h1 h2 h3) (by rw [h1]; exact J2) J3 w')
end
end GX
namespace GX
open PySem PySem.Spec PyProof.Rows L2 GxR

section
variable {Y : Cx} {A : Around} {σ : L2.St} {vs : List Nat} {a : Addr} {go : Obj}
theorem seg_gs {d : Bool} {tg elt iter : Expr} {ifs : List Expr} {scope : Scope} {pos : Pos} {it : Addr} {fp : List Addr} {tn : Nat → Heap → Prop} {J : It} {g : TG} {tt : TT} {te : TE} {W : Nat → Nat → Hp → Prop} {Qe Qd : Hp → Prop}
    (hA : Y.A = A.over (.compLoop (.GeneratorExp elt [⟨tg, iter, ifs, 0⟩] scope pos) 0 (.ref it) .none Y.env) []) (hc : Y.calm = true) (hco : Y.env.scope.isCoroutine = false) (T : Turn Y.prog Y.w Y.K tg J fp it tn)
    (hx : Y.ex = fp) (hpn : Y.pn = []) (hafp : a ∉ fp) (pg : PG Y tg g) (pt : PTs Y ifs tt) (pe : PE Y elt te) (hW : Wk d J g tt te vs σ W Qe Qd) (hxe : Y.xe = fun _ _ => False)
    (m : Nat) (H : Hp) (s₀ s : Shared) (I : Inv Y [(a, go)] (wipe σ vs) H s) (st : tn 0 s.heap) (nf : ∀ b ∈ fp, H b = none) (w : W 0 m H) :
      Seg (model Y.prog Y.w) A (YR Y a go (wipe σ vs) Qe) (YP d Y a go (wipe σ vs) Qd) (m + 1) s₀
        (.compStart (.GeneratorExp elt [⟨tg, iter, ifs, 0⟩] scope pos) 0 (.ref it) .none Y.env)
        ((model Y.prog Y.w).den (.compStart (.GeneratorExp elt [⟨tg, iter, ifs, 0⟩] scope pos) 0 (.ref it) .none Y.env)) [] s := by
  have loop := seg_gl (iter := iter) (scope := scope) (pos := pos) hA hc hco T hx hpn hafp pg pt pe hW hxe m (m + 1) (Nat.lt_succ_self m) 0 H s₀ s I st nf w
  show Seg _ A _ _ _ s₀ _ ((compStart (.GeneratorExp elt [⟨tg, iter, ifs, 0⟩] scope pos) 0 (.ref it) .none Y.env).onRaise (leaving Y.env)) [] s
  unfold compStart
  rw [Sem.onRaise_eq_wrap]
  show Seg _ A _ _ _ s₀ _ ((ask >>= _).wrap _ _ _ _) [] s
  refine seg_bind_wrap (wpAny_askSetting ?_)
  split
  · exact seg_again rfl loop
  · first
      | exact seg_bind_wrap (wpAny_rule (seg_bind_wrap (wpAny_standAt (seg_bind_wrap (T.self _ 0 s _ _ st (seg_again rfl loop))))))
      | (refine seg_bind_wrap (wpAny_rule ?_); show Seg _ A _ _ _ s₀ _ ((standAt iter.pos >>= _).wrap _ _ _ _) [] s; exact seg_bind_wrap (wpAny_standAt (seg_bind_wrap (T.self _ 0 s _ _ st (seg_again rfl loop)))))

/-- the loop of all(..) -/
theorem loop_all {prog : Program} {w : World} {gn : Nat} {ws : L2.St} {Qe Qd : Hp → Prop} {Rr : Result → Shared → Prop} (hh : A.handled = none) (hroom : A.depth < recursionLimit) (hgo : ∀ h : Heap, h.get? a = some go → h.IsGen a gn)
    (hT : ∀ s₁ h', YE Y a go ws Qe s₁ → (∀ b o, s₁.heap.get? b = some o → h'.get? b = some o) → Rr (.ok (.ret (.bool true))) { s₁.setGen gn .finished with heap := h' })
    (hF : ∀ s₁ gs' H, gs'.bare = true → Inv Y [(a, go)] ws H s₁ → Qd H → Rr (.ok (.ret (.bool false))) (s₁.setGen gn gs')) :
    ∀ (n : Nat) (s : Shared) (gs : GenState), s.heap.get? a = some go → s.heap.NoLimit → AllBare s.gens → s.gens[gn]? = some gs →
      (∀ s'' : Shared, s''.heap = s.heap → s''.os = s.os → AllBare s''.gens → gs.Goes (model prog w) A.in1.in1 (YR Y a go ws Qe) (YP false Y a go ws Qd) n (.send .none) s'') →
      codeAny (model prog w) A (.builtin "all.loop" ⟨[.ref a], []⟩) Rr s := by
  intro n
  induction n with
  | zero =>
    intro s gs hg hl hb hgs hgoes
    refine codeAny_builtin F.entry_all_loop ?_
    rw [Around.under_plainId F.plain_all_loop _]
    show wpAny _ A.in1 (pyNext (.ref a) >>= _) _ _ s
    refine wpAny_bind (wpAny_pyNext_genexpQ (P := fun _ _ s₁ => YE Y a go ws Qe s₁) hh hl hroom (hgo _ hg) hgs (hgoes _ rfl rfl (bare_set hb rfl)) (fun v s₁ gs' hb' hv => ?_) (fun s₁ hp h' hk => ?_))
    · obtain ⟨c, H, rfl, I, q⟩ := hv
      cases c with
      | false =>
        rw [if_pos rfl] at q
        refine wpAny_bind (wpAny_holding (wpAny_truthy_bool (wpAny_bind (wpAny_letGo ?_))))
        refine wpAny_bind (wpAny_rule (wpAny_pure ?_))
        exact hF s₁ gs' H hb' I q
      | true =>
        rw [if_neg (by decide)] at q
        exact (q s₁ rfl rfl I.bare).elim
    · refine wpAny_bind (wpAny_rule (wpAny_pure ?_))
      exact hT s₁ h' hp hk
  | succ n ih =>
    intro s gs hg hl hb hgs hgoes
    have hlt : gn < s.gens.size := by
      rcases Nat.lt_or_ge gn s.gens.size with h' | h'
      · exact h'
      · rw [Array.getElem?_eq_none h'] at hgs; cases hgs
    refine codeAny_builtin F.entry_all_loop ?_
    rw [Around.under_plainId F.plain_all_loop _]
    show wpAny _ A.in1 (pyNext (.ref a) >>= _) _ _ s
    refine wpAny_bind (wpAny_with_gens (Nat.le_refl s.gens.size) (wpAny_pyNext_genexpQ (P := fun _ _ s₁ => YE Y a go ws Qe s₁) hh hl hroom (hgo _ hg) hgs (hgoes _ rfl rfl (bare_set hb rfl)) (fun v s₁ gs' hb' hv => ?_) (fun s₁ hp h' hk => ?_)))
    · intro hsz
      have hsz : s.gens.size ≤ s₁.gens.size := by
        have z : s.gens.size ≤ (s₁.setGen gn gs').gens.size := hsz
        simpa [Shared.setGen] using z
      obtain ⟨c, H, rfl, I, q⟩ := hv
      cases c with
      | false =>
        rw [if_pos rfl] at q
        refine wpAny_bind (wpAny_holding (wpAny_truthy_bool (wpAny_bind (wpAny_letGo ?_))))
        refine wpAny_bind (wpAny_rule (wpAny_pure ?_))
        exact hF s₁ gs' H hb' I q
      | true =>
        rw [if_neg (by decide)] at q
        refine wpAny_bind (wpAny_holding (wpAny_truthy_bool (wpAny_bind (wpAny_letGo ?_))))
        refine wpAny_pure ⟨plainId_quiet F.plain_all_loop _, ih (s₁.setGen gn gs') gs' ?_ ?_ (bare_set I.bare hb') ?_ fun s'' h1 h2 h3 => q s'' h1 h2 h3⟩
        · exact (I.pin (a, go) (List.mem_append_right _ (List.mem_singleton.mpr rfl))).1
        · exact I.nolimit
        · show (s₁.gens.setIfInBounds gn gs')[gn]? = some gs'
          rw [Array.getElem?_setIfInBounds_self_of_lt (Nat.lt_of_lt_of_le hlt hsz)]
    · intro _
      refine wpAny_bind (wpAny_rule (wpAny_pure ?_))
      exact hT s₁ h' hp hk

/-- the loop of any(..) -/
theorem loop_any {prog : Program} {w : World} {gn : Nat} {ws : L2.St} {Qe Qd : Hp → Prop} {Rr : Result → Shared → Prop} (hh : A.handled = none) (hroom : A.depth < recursionLimit) (hgo : ∀ h : Heap, h.get? a = some go → h.IsGen a gn)
    (hT : ∀ s₁ h', YE Y a go ws Qe s₁ → (∀ b o, s₁.heap.get? b = some o → h'.get? b = some o) → Rr (.ok (.ret (.bool false))) { s₁.setGen gn .finished with heap := h' })
    (hF : ∀ s₁ gs' H, gs'.bare = true → Inv Y [(a, go)] ws H s₁ → Qd H → Rr (.ok (.ret (.bool true))) (s₁.setGen gn gs')) :
    ∀ (n : Nat) (s : Shared) (gs : GenState), s.heap.get? a = some go → s.heap.NoLimit → AllBare s.gens → s.gens[gn]? = some gs →
      (∀ s'' : Shared, s''.heap = s.heap → s''.os = s.os → AllBare s''.gens → gs.Goes (model prog w) A.in1.in1 (YR Y a go ws Qe) (YP true Y a go ws Qd) n (.send .none) s'') →
      codeAny (model prog w) A (.builtin "any.loop" ⟨[.ref a], []⟩) Rr s := by
  intro n
  induction n with
  | zero =>
    intro s gs hg hl hb hgs hgoes
    refine codeAny_builtin F.entry_any_loop ?_
    rw [Around.under_plainId F.plain_any_loop _]
    show wpAny _ A.in1 (pyNext (.ref a) >>= _) _ _ s
    refine wpAny_bind (wpAny_pyNext_genexpQ (P := fun _ _ s₁ => YE Y a go ws Qe s₁) hh hl hroom (hgo _ hg) hgs (hgoes _ rfl rfl (bare_set hb rfl)) (fun v s₁ gs' hb' hv => ?_) (fun s₁ hp h' hk => ?_))
    · obtain ⟨c, H, rfl, I, q⟩ := hv
      cases c with
      | true =>
        rw [if_pos rfl] at q
        refine wpAny_bind (wpAny_holding (wpAny_truthy_bool (wpAny_bind (wpAny_letGo ?_))))
        refine wpAny_bind (wpAny_rule (wpAny_pure ?_))
        exact hF s₁ gs' H hb' I q
      | false =>
        rw [if_neg (by decide)] at q
        exact (q s₁ rfl rfl I.bare).elim
    · refine wpAny_bind (wpAny_rule (wpAny_pure ?_))
      exact hT s₁ h' hp hk
  | succ n ih =>
    intro s gs hg hl hb hgs hgoes
    have hlt : gn < s.gens.size := by
      rcases Nat.lt_or_ge gn s.gens.size with h' | h'
      · exact h'
      · rw [Array.getElem?_eq_none h'] at hgs; cases hgs
    refine codeAny_builtin F.entry_any_loop ?_
    rw [Around.under_plainId F.plain_any_loop _]
    show wpAny _ A.in1 (pyNext (.ref a) >>= _) _ _ s
    refine wpAny_bind (wpAny_with_gens (Nat.le_refl s.gens.size) (wpAny_pyNext_genexpQ (P := fun _ _ s₁ => YE Y a go ws Qe s₁) hh hl hroom (hgo _ hg) hgs (hgoes _ rfl rfl (bare_set hb rfl)) (fun v s₁ gs' hb' hv => ?_) (fun s₁ hp h' hk => ?_)))
    · intro hsz
      have hsz : s.gens.size ≤ s₁.gens.size := by
        have z : s.gens.size ≤ (s₁.setGen gn gs').gens.size := hsz
        simpa [Shared.setGen] using z
      obtain ⟨c, H, rfl, I, q⟩ := hv
      cases c with
      | true =>
        rw [if_pos rfl] at q
        refine wpAny_bind (wpAny_holding (wpAny_truthy_bool (wpAny_bind (wpAny_letGo ?_))))
        refine wpAny_bind (wpAny_rule (wpAny_pure ?_))
        exact hF s₁ gs' H hb' I q
      | false =>
        rw [if_neg (by decide)] at q
        refine wpAny_bind (wpAny_holding (wpAny_truthy_bool (wpAny_bind (wpAny_letGo ?_))))
        refine wpAny_pure ⟨plainId_quiet F.plain_any_loop _, ih (s₁.setGen gn gs') gs' ?_ ?_ (bare_set I.bare hb') ?_ fun s'' h1 h2 h3 => q s'' h1 h2 h3⟩
        · exact (I.pin (a, go) (List.mem_append_right _ (List.mem_singleton.mpr rfl))).1
        · exact I.nolimit
        · show (s₁.gens.setIfInBounds gn gs')[gn]? = some gs'
          rw [Array.getElem?_setIfInBounds_self_of_lt (Nat.lt_of_lt_of_le hlt hsz)]
    · intro _
      refine wpAny_bind (wpAny_rule (wpAny_pure ?_))
      exact hT s₁ h' hp hk
end

theorem room_over {k : Nat} {A : Around} {elt : Expr} {gs : List Comprehension} {scope : Scope} {pos : Pos} {it acc : Value} {ce : Env} (hr : Room (k + 1) A) : Room k (A.in1.in1.over (.compLoop (.GeneratorExp elt gs scope pos) 0 it acc ce) []) := by
  have h1 := hr.hd
  have h2 := hr.dp
  have h3 := hr.un
  have w : (Code.compLoop (.GeneratorExp elt gs scope pos) 0 it acc ce).weight = 1 := rfl
  have u : (Code.compLoop (.GeneratorExp elt gs scope pos) 0 it acc ce).cUnits = 3 := rfl
  refine ⟨h1, ?_, ?_⟩
  · show A.depth + 0 + _ + 3 * k + 5 < _
    rw [w]; omega
  · show A.units + 1 + 1 + 0 + _ + 16 * k + 200 < _
    rw [u]; omega
theorem frames_over {A : Around} {elt : Expr} {gs : List Comprehension} {scope : Scope} {pos : Pos} {it acc : Value} {ce : Env} {l : List Env} (hf : A.frames = some l) : (A.in1.in1.over (.compLoop (.GeneratorExp elt gs scope pos) 0 it acc ce) []).frames = some (ce :: l) := by
  show pushEnvs [ce] (pushEnvs [] A.frames) = _
  rw [hf]; rfl
end GX
namespace GX
open PySem PySem.Spec PyProof.Rows L2 GxR

/-- a generator expression's names, code, table -/
structure GenX (X : Cx) (scope : Scope) (own : List (Str × Nat)) (c P : Addr) : Prop where
  ok : BlkOk X.N X.env.scope scope own
  nc : ∀ y ∈ scope.names, y.2 ≠ .cell
  co : scope.isCoroutine = false
  dot : scope.names.lookup (".0" : Str) = some NameKind.local
  tb : TabB X.base X.mg c P
  code : X.env.code = .ref c

abbrev gEnv (X : Cx) (scope : Scope) (C : Addr) (code : Value) : Env := genEnv scope (cloFrom X.env.cells scope.names []) C code builtinsNs X.env

section
variable {X : Cx} {pins : List (Addr × Obj)} {σ : L2.St} {H : Hp} {s : Shared}
/-- the generator is made -/
def GReady (d : Bool) (X : Cx) (pins : List (Addr × Obj)) (σ : L2.St) (Qe Qd : Hp → Prop) (u : Value) (s5 : Shared) : Prop :=
  ∃ (a : Addr) (gn : Nat) (go : Obj) (Y : Cx) (ws : L2.St) (n : Nat) (gs : GenState), u = .ref a ∧ (∀ h : Heap, h.get? a = some go → h.IsGen a gn) ∧ s5.heap.get? a = some go ∧ s5.heap.NoLimit ∧ AllBare s5.gens ∧ s5.gens[gn]? = some gs ∧
    (∀ s'' : Shared, s''.heap = s5.heap → s''.os = s5.os → AllBare s''.gens → gs.Goes (model X.prog X.w) X.A.in1.in1 (YR Y a go ws Qe) (YP d Y a go ws Qd) n (.send .none) s'') ∧
    (∀ s₁ H s', Inv Y [(a, go)] ws H s₁ → s'.os = s₁.os → (∀ b o, s₁.heap.get? b = some o → s'.heap.get? b = some o) → AllBare s'.gens → Inv X pins σ H s')

theorem gen_makeG {d : Bool} {tg elt iter : Expr} {ifs : List Expr} {scope : Scope} {own : List (Str × Nat)} {gpos : Pos} {c P : Addr} {wi : TI} {g : TG} {tt : TT} {te : TE} {k : Nat} {Qe Qd : Hp → Prop}
    (hr : Room (k + 1) X.A) (hc : X.calm = true) (hN : X.N.Nodup) (G : GenX X scope own c P) (hs : ∀ v, genFold iter X.env v = pure v) (hi : PI X tg iter wi)
    (hg : ∀ (s : Shared) (H : Hp) (C : Addr) (code : Value) (fp : List Addr) (A' : Around), Room k A' → PG (gCx X s H (gEnv X scope C code) fp A') tg g)
    (ht : ∀ (s : Shared) (H : Hp) (C : Addr) (code : Value) (fp : List Addr) (A' : Around), Room k A' → PTs (gCx X s H (gEnv X scope C code) fp A') ifs tt)
    (he : ∀ (s : Shared) (H : Hp) (C : Addr) (code : Value) (fp : List Addr) (A' : Around), Room k A' → PE (gCx X s H (gEnv X scope C code) fp A') elt te)
    (I : Inv X pins σ H s)
    (h : wi σ H fun J H1 => TabG H1 P ∧ ∀ H2, Tabbed P H1 H2 → ∃ W : Nat → Nat → Hp → Prop, (∃ m, W 0 m H2) ∧ Wk d J g tt te (own.map (·.2)) σ W Qe Qd) :
    wpAny (model X.prog X.w) X.A (eval (.GeneratorExp elt [⟨tg, iter, ifs, 0⟩] scope gpos) X.env) (GReady d X pins σ Qe Qd) X.xe s := by
  have ok := G.ok
  have hfree : ∀ y ∈ scope.names, y.2 = .free → ∃ c, X.env.cells.lookup y.1 = some c := fun y hy e => by
    rcases ok.free y hy e with k | k
    · exact I.ok.has _ (.inl k)
    · exact I.ok.has _ (.inr k)
  have dp := hr.dp
  refine wpAny_GeneratorExp_make G.co (closure_ok hfree) G.nc G.dot ok.kind (by omega) (thn (hi.run pins s σ H _ I h) fun xv s1 hx => thn hx fun itv s2 h2 => ?_) hs
  obtain ⟨it, fp, tn, J, H1, e, I1, T, st1, f1, ⟨ps, hP, hps⟩, q⟩ := h2
  subst e
  refine ⟨I1.nolimit, ?_⟩
  have tb0 : s2.heap.get? P = some { cls := .none, data := .fields ps } := I1.hok P _ hP
  have code1 : PySem.W.CodeHd s2.heap c P := G.tb.code.keeps fun b o e => I1.bk b o e
  have rest : ∀ (code : Value) (h3 : Heap) (tk : Nat) (ps3 : Array Value), Heap.ExtBut P s2.heap h3 → s2.heap.objs.size ≤ h3.objs.size → h3.get? P = some { cls := .none, data := .fields ps3 } →
      (∃ q, ps3 = ps ++ q) → TriplesOk ps3.toList →
      wpAny (model X.prog X.w) X.A (builtinsFor X.env.globals X.env.builtins) (fun bi s4 => ∀ h', h'.Ns s4.heap.objs.size (fun y => if y = ".0" then some (Value.ref it) else none) → Heap.SameBut s4.heap.objs.size (s4.heap.push { cls := .type "frame", data := .dict #[] }) h' →
          GReady d X pins σ Qe Qd (.ref h'.objs.size) { s4 with
            gens := s4.gens.push (.fresh (.compStart (.GeneratorExp elt [⟨tg, iter, ifs, 0⟩] scope gpos) 0 (.ref it) .none (genEnv scope (cloFrom X.env.cells scope.names []) s4.heap.objs.size code bi X.env))),
            toks := s4.toks + 1 + 1 + 1,
            heap := h'.push { cls := .type "generator", data := .fields #[.int s4.gens.size 0, .str "<genexpr>" (s4.toks + 1), .str (X.env.qual ++ "<genexpr>") (s4.toks + 1 + 1)] } }) X.xe { s2 with heap := h3, toks := tk } := by
    intro code h3 tk ps3 ext le3 tb3 ⟨qq, hq⟩ ok3
    obtain ⟨bm, om, m1, m2, m3, m4, m5, m6, m7, m8⟩ := G.tb.bm
    have k3 : ∀ b o, b ≠ P → s2.heap.get? b = some o → h3.get? b = some o := fun b o ne e => ext b o ne e
    refine wpAny_builtinsFor (m := X.mg) ?_ m1 m2 (k3 _ _ m4 (I1.bk _ _ m5)) m6 m7 m8 ?_
    · rw [I1.ok.glob]
      exact (I1.mod.glob.keeps I1.bk).extBut ext G.tb.gP
    rw [hq] at tb3
    have I4 : Inv X pins σ (upd H1 P (.tbl (ps ++ qq))) { s2 with heap := h3, toks := tk } := inv_tab (g' := s2.gens) (d' := s2.drawn) (t' := tk) I1 hP k3 tb3 I1.bare
    generalize hH4 : upd H1 P (.tbl (ps ++ qq)) = H4 at I4
    have TbG : Tabbed P H1 H4 := by
      subst hH4
      exact ⟨⟨ps ++ qq, upd_same, by rw [← hq]; exact ok3⟩, fun b ne => upd_ne ne⟩
    have nP : ∀ b ∈ fp, b ≠ P := fun b hb z => by
      have := (f1 b hb).1
      rw [z, hP] at this
      cases this
    have sz : ∀ b ∈ fp, b < s2.heap.objs.size := fun b hb => by
      obtain ⟨o, e, _⟩ := T.obj _ _ st1 b hb
      exact Heap.lt_size e
    have f4 : ∀ b ∈ fp, FpOk X pins H4 b ∧ b < h3.objs.size := fun b hb =>
      ⟨⟨by rw [TbG.2 b (nP b hb)]; exact (f1 b hb).1, (f1 b hb).2⟩, Nat.lt_of_lt_of_le (sz b hb) le3⟩
    have st3 : tn 0 h3 := T.keep _ _ _ st1 fun b hb o e => k3 b o (nP b hb) e
    obtain ⟨W, ⟨m0, w0⟩, hW⟩ := q H4 TbG
    generalize hs4 : ({ s2 with heap := h3, toks := tk } : Shared) = s4 at I4 ⊢
    have hh4 : s4.heap = h3 := by rw [← hs4]
    have f4 : ∀ b ∈ fp, FpOk X pins H4 b ∧ b < s4.heap.objs.size := by rw [hh4]; exact f4
    have st4 : tn 0 s4.heap := by rw [hh4]; exact st3
    intro h' hn' hs'
    have hsz : h'.objs.size = s4.heap.objs.size + 1 := by rw [hs'.1, Heap.size_push]
    have keep' : ∀ b o, s4.heap.get? b = some o → h'.get? b = some o := fun b o e => hs'.extBut b o (Nat.ne_of_lt (Heap.lt_size e)) (Heap.get?_push_of_some _ e)
    generalize hgo : ({ cls := .type "generator", data := .fields #[.int s4.gens.size 0, .str "<genexpr>" (s4.toks + 1), .str (X.env.qual ++ "<genexpr>") (s4.toks + 1 + 1)] } : Obj) = go
    have gog : ∀ h : Heap, h.get? h'.objs.size = some go → h.IsGen h'.objs.size s4.gens.size := fun h e => by
      rw [← hgo] at e
      exact ⟨_, _, _, e, rfl, rfl, rfl⟩
    have keep5 : ∀ b o, s4.heap.get? b = some o → (h'.push go).get? b = some o := fun b o e => Heap.get?_push_of_some _ (keep' b o e)
    have gfree : go.isFreed = false := by rw [← hgo]; rfl
    have hgoAt : (h'.push go).get? h'.objs.size = some go := Heap.get?_push_size _ gfree
    generalize hce : genEnv scope (cloFrom X.env.cells scope.names []) s4.heap.objs.size code builtinsNs X.env = ce
    generalize hA' : X.A.in1.in1.over (.compLoop (.GeneratorExp elt [⟨tg, iter, ifs, 0⟩] scope gpos) 0 (.ref it) .none ce) [] = A'
    have rm : Room k A' := by rw [← hA']; exact room_over hr
    have fr : A'.frames = some (ce :: X.stack) := by rw [← hA']; exact frames_over I1.ok.frames
    have bare5 : ∀ (x : GenState), x.bare = true → AllBare (s4.gens.push x) := fun x hx => I4.bare.push hx
    have I5 : ∀ (gs : Array GenState) (tk5 : Nat), AllBare gs → Inv (gCx X s4 H4 ce fp A') [(h'.objs.size, go)] (wipe σ (own.map (·.2))) H4 { s4 with gens := gs, toks := tk5, heap := h'.push go } := fun gs tk5 hb =>
      gen_start (X := X) (s := s4) (H := H4) (scope := scope) (own := own) (code := code) (m := fun y => if y = ".0" then some (Value.ref it) else none) I4 ok G.nc hN f4 (fun _ => rm.hd) fr hce.symm keep5 (hn'.push _) hgoAt (by rw [hsz]; exact Nat.lt_succ_self _) (fun v z => by rw [← hgo] at z; cases z) rfl hb
    have pg := hg s4 H4 s4.heap.objs.size code fp A' rm
    have pt := ht s4 H4 s4.heap.objs.size code fp A' rm
    have pe := he s4 H4 s4.heap.objs.size code fp A' rm
    have hce' : gEnv X scope s4.heap.objs.size code = ce := hce
    rw [hce'] at pg pt pe
    have cco : ce.scope.isCoroutine = false := by rw [← hce]; exact G.co
    refine ⟨h'.objs.size, s4.gens.size, go, gCx X s4 H4 ce fp A', wipe σ (own.map (·.2)), m0 + 1, _, rfl, gog, hgoAt, I4.nolimit.keeps keep5, bare5 _ rfl, Array.getElem?_push_size .., fun s'' h1 h2 h3' => ⟨rfl, ?_⟩, fun s₁ H' s' I6 ho kk hb => ?_⟩
    · refine seg_gs (Y := gCx X s4 H4 ce fp A') (fp := fp) (tn := tn) (J := J) (W := W) hA'.symm hc cco T rfl rfl (fun z => ?_) pg pt pe hW rfl m0 H4 s'' s'' (inv_heap (I5 (s4.gens.push .finished) 0 (bare5 _ rfl)) h1 h2 h3') ?_ (fun b hb => (f4 b hb).1.1) w0
      · have z2 : h'.objs.size < s4.heap.objs.size := (f4 _ z).2
        rw [hsz] at z2
        exact absurd z2 (by omega)
      · rw [h1]
        exact T.keep _ _ _ st4 fun b _ o e => keep5 b o e
    · exact I4.call' (ch := fp) (ho.trans I6.os) (Un.trans I6.base (Un.kept kk)) (I6.hok.kept kk) hb fun b hb => ⟨(f4 b hb).1.2.2.2.1, (f4 b hb).1.2.1, (f4 b hb).1.2.2.2.2.1, (f4 b hb).1.2.2.2.2.2⟩
  cases hcd : codeAmong gpos ps.toList with
  | some cv =>
    exact wpAny_genexprCode_hit G.code (code1.code tb0 hps) hcd (rest cv _ s2.toks ps (Heap.ExtBut.refl _ _) (Nat.le_refl _) tb0 ⟨#[], (Array.append_empty).symm⟩ hps)
  | none =>
    refine wpAny_genexprCodeX G.code (code1.code tb0 hps) (code1.tab tb0) hcd ?_
    intro c' h' tk ext ge lt isC _ tab' _
    obtain ⟨o1, v1, f1, f2, f3, f4, f5, f6, f7, f8, _, _, _, _, _, _, _, _, _, okT, _⟩ := isC
    exact rest _ h' tk _ ext (Nat.le_trans ge (Nat.le_of_lt lt)) tab'.2 ⟨_, rfl⟩ okT

/-- all(elt for tg in iter if ..), any(..): W by the turn and a measure -/
def tWalk (d : Bool) (P : Addr) (wi : TI) (g : TG) (tt : TT) (te : TE) (vs : List Nat) : TE := fun σ H Q => wi σ H fun J H1 => TabG H1 P ∧ ∀ H2, Tabbed P H1 H2 → ∃ W : Nat → Nat → Hp → Prop, (∃ m, W 0 m H2) ∧
  Wk d J g tt te vs σ W (fun H => Q (.bl (!d)) H) (fun H => Q (.bl d) H)

theorem pe_allG {tg elt iter : Expr} {ifs : List Expr} {scope : Scope} {own : List (Str × Nat)} {gpos p pos : Pos} {c P : Addr} {wi : TI} {g : TG} {tt : TT} {te : TE} {k : Nat}
    (hr : Room (k + 1) X.A) (hc : X.calm = true) (hN : X.N.Nodup) (hgl : Gl X "all") (hm : X.mg "all" = none) (G : GenX X scope own c P) (hi : PI X tg iter wi)
    (hg : ∀ (s : Shared) (H : Hp) (C : Addr) (code : Value) (fp : List Addr) (A' : Around), Room k A' → PG (gCx X s H (gEnv X scope C code) fp A') tg g)
    (ht : ∀ (s : Shared) (H : Hp) (C : Addr) (code : Value) (fp : List Addr) (A' : Around), Room k A' → PTs (gCx X s H (gEnv X scope C code) fp A') ifs tt)
    (he : ∀ (s : Shared) (H : Hp) (C : Addr) (code : Value) (fp : List Addr) (A' : Around), Room k A' → PE (gCx X s H (gEnv X scope C code) fp A') elt te)
    (hs : ∀ v, genFold iter X.env v = pure v)
    (hst : starEach [.GeneratorExp elt [⟨tg, iter, ifs, 0⟩] scope gpos] X.env = (false, eval (.GeneratorExp elt [⟨tg, iter, ifs, 0⟩] scope gpos) X.env) :: starEach [] X.env := by rfl) :
    PE X (.Call (.Name "all" p) [.GeneratorExp elt [⟨tg, iter, ifs, 0⟩] scope gpos] [] pos) (tWalk false P wi g tt te (own.map (·.2))) := by
  refine ⟨fun pins s σ H Q I h => ?_⟩
  refine wpAny_Call_Name_kw (ld_blt I hgl hm (show bootBuiltins "all" = some (.builtin "all") by decide +kernel) ?_)
  refine PyProof.Rows.callWith_builtin1 ?_ hst (by rfl)
  rw [hst]
  have dp := hr.dp
  refine Calls.spliced_cons (thn (gen_makeG (d := false) hr hc hN G hs hi hg ht he I h) fun u s5 R => ?_)
  obtain ⟨a, gn, go, Y, ws, n, gs, rfl, gog, hgo, hl, hb, hgs, goes, back⟩ := R
  refine Calls.spliced_nil (call_function_tree F.kind_all F.plain_all F.entry_all (F.args_all1 _) ?_)
  unfold Builtin.«all»
  refine wpAny_bind (m := oneArg "all" _) (wpAny_pure ?_)
  refine wpAny_bind (wpAny_pyIter_gen (gog _ hgo) (wpAny_pure ⟨plainId_quiet F.plain_all_loop _, loop_all (Y := Y) (go := go) (ws := ws) (Qe := fun H => Q (.bl (!false)) H) (Qd := fun H => Q (.bl false) H) hr.hd (by omega) gog (fun s₁ h' ⟨H', I', q⟩ hk => ?_) (fun s₁ gs' H' hb' I' q => ?_) n s5 gs hgo hl hb hgs goes⟩))
  · exact ⟨.bl false, H', back s₁ H' _ I' rfl (fun _ _ e => e) (bare_set I'.bare hb'), rfl, q⟩
  · exact ⟨.bl true, H', back s₁ H' _ I' rfl hk (bare_set I'.bare rfl), rfl, q⟩

theorem pe_anyG {tg elt iter : Expr} {ifs : List Expr} {scope : Scope} {own : List (Str × Nat)} {gpos p pos : Pos} {c P : Addr} {wi : TI} {g : TG} {tt : TT} {te : TE} {k : Nat}
    (hr : Room (k + 1) X.A) (hc : X.calm = true) (hN : X.N.Nodup) (hgl : Gl X "any") (hm : X.mg "any" = none) (G : GenX X scope own c P) (hi : PI X tg iter wi)
    (hg : ∀ (s : Shared) (H : Hp) (C : Addr) (code : Value) (fp : List Addr) (A' : Around), Room k A' → PG (gCx X s H (gEnv X scope C code) fp A') tg g)
    (ht : ∀ (s : Shared) (H : Hp) (C : Addr) (code : Value) (fp : List Addr) (A' : Around), Room k A' → PTs (gCx X s H (gEnv X scope C code) fp A') ifs tt)
    (he : ∀ (s : Shared) (H : Hp) (C : Addr) (code : Value) (fp : List Addr) (A' : Around), Room k A' → PE (gCx X s H (gEnv X scope C code) fp A') elt te)
    (hs : ∀ v, genFold iter X.env v = pure v)
    (hst : starEach [.GeneratorExp elt [⟨tg, iter, ifs, 0⟩] scope gpos] X.env = (false, eval (.GeneratorExp elt [⟨tg, iter, ifs, 0⟩] scope gpos) X.env) :: starEach [] X.env := by rfl) :
    PE X (.Call (.Name "any" p) [.GeneratorExp elt [⟨tg, iter, ifs, 0⟩] scope gpos] [] pos) (tWalk true P wi g tt te (own.map (·.2))) := by
  refine ⟨fun pins s σ H Q I h => ?_⟩
  refine wpAny_Call_Name_kw (ld_blt I hgl hm (show bootBuiltins "any" = some (.builtin "any") by decide +kernel) ?_)
  refine PyProof.Rows.callWith_builtin1 ?_ hst (by rfl)
  rw [hst]
  have dp := hr.dp
  refine Calls.spliced_cons (thn (gen_makeG (d := true) hr hc hN G hs hi hg ht he I h) fun u s5 R => ?_)
  obtain ⟨a, gn, go, Y, ws, n, gs, rfl, gog, hgo, hl, hb, hgs, goes, back⟩ := R
  refine Calls.spliced_nil (call_function_tree F.kind_any F.plain_any F.entry_any (F.args_any1 _) ?_)
  unfold Builtin.«any»
  refine wpAny_bind (m := oneArg "any" _) (wpAny_pure ?_)
  refine wpAny_bind (wpAny_pyIter_gen (gog _ hgo) (wpAny_pure ⟨plainId_quiet F.plain_any_loop _, loop_any (Y := Y) (go := go) (ws := ws) (Qe := fun H => Q (.bl (!true)) H) (Qd := fun H => Q (.bl true) H) hr.hd (by omega) gog (fun s₁ h' ⟨H', I', q⟩ hk => ?_) (fun s₁ gs' H' hb' I' q => ?_) n s5 gs hgo hl hb hgs goes⟩))
  · exact ⟨.bl true, H', back s₁ H' _ I' rfl (fun _ _ e => e) (bare_set I'.bare hb'), rfl, q⟩
  · exact ⟨.bl false, H', back s₁ H' _ I' rfl hk (bare_set I'.bare rfl), rfl, q⟩
end
end GX
namespace GX
open PySem PySem.Spec PyProof.Rows L2 GxR
/-! the walks of all(..), any(..) by an invariant -/
theorem wk_range {d : Bool} {lo : Int} {n : Nat} {g : TG} {tt : TT} {te : TE} {vs : List Nat} {σ : L2.St} {Qe Qd : Hp → Prop} {H0 : Hp} (Pv : Nat → Hp → Prop) (h0 : Pv 0 H0)
    (hs : ∀ i H, i < n → Pv i H → g (.int (lo + i)) (wipe σ vs) H fun σ2 H2 => wipe σ2 vs = wipe σ vs ∧ tt σ2 H2 fun b H3 =>
      if b = true then te σ2 H3 fun y H4 => ∃ c, y = .bl c ∧ if c = d then Qd H4 else Pv (i + 1) H4 else Pv (i + 1) H3) (hd : ∀ H, Pv n H → Qe H) :
    ∃ W : Nat → Nat → Hp → Prop, (∃ m, W 0 m H0) ∧ Wk d (Itr lo n) g tt te vs σ W Qe Qd := by
  refine ⟨fun i m H => m = n - i ∧ i ≤ n ∧ Pv i H, ⟨n, by simp, Nat.zero_le _, h0⟩, ?_⟩
  rintro i m H ⟨rfl, hi, p⟩
  by_cases hlt : i < n
  · refine .inr ⟨hlt, Pv (i + 1), fun H' p' => ⟨n - (i + 1), by omega, rfl, hlt, p'⟩, fun x H' y => ?_⟩
    obtain ⟨rfl, rfl⟩ := y
    exact hs i _ hlt p
  · have e : i = n := by omega
    subst e
    exact .inl ⟨Nat.le_refl _, hd H p⟩
theorem wk_list {d : Bool} {K : PySem.W.Frag} {a : Addr} {xs : List V} {g : TG} {tt : TT} {te : TE} {vs : List Nat} {σ : L2.St} {Qe Qd : Hp → Prop} {H0 : Hp} (Pv : Nat → Hp → Prop) (h0 : Pv 0 H0) (hl : ∀ i H, i ≤ xs.length → Pv i H → SqL K H a xs)
    (hs : ∀ i x H, xs[i]? = some x → Pv i H → g x (wipe σ vs) H fun σ2 H2 => wipe σ2 vs = wipe σ vs ∧ tt σ2 H2 fun b H3 =>
      if b = true then te σ2 H3 fun y H4 => ∃ c, y = .bl c ∧ if c = d then Qd H4 else Pv (i + 1) H4 else Pv (i + 1) H3) (hd : ∀ H, Pv xs.length H → Qe H) :
    ∃ W : Nat → Nat → Hp → Prop, (∃ m, W 0 m H0) ∧ Wk d (Itl K a) g tt te vs σ W Qe Qd := by
  refine ⟨fun i m H => m = xs.length - i ∧ i ≤ xs.length ∧ Pv i H, ⟨xs.length, by simp, Nat.zero_le _, h0⟩, ?_⟩
  rintro i m H ⟨rfl, hi, p⟩
  have q := hl i H hi p
  by_cases hlt : i < xs.length
  · refine .inr ⟨⟨xs, xs[i], q, by simp [hlt]⟩, Pv (i + 1), fun H' p' => ⟨xs.length - (i + 1), by omega, rfl, hlt, p'⟩, fun x H' y => ?_⟩
    obtain ⟨rfl, e⟩ := y
    exact hs i x _ (e xs q) p
  · have e : i = xs.length := by omega
    subst e
    exact .inl ⟨⟨xs, q, Nat.le_refl _⟩, hd H p⟩
end GX
/-! dicts keyed by tuples: del, truth, comprehensions; a dict comprehension whatever its keys are -/
namespace GX
open PySem PySem.Spec PyProof.Rows L2 GxR

section
variable {X : Cx}
theorem ktDrop {H : Hp} {kvs : List (List Key × V)} {xs : List (List Key × Addr × Value)} (k : List Key) (h : KT H kvs xs) : KT H (dropK kvs k) (withoutH xs k) := DX.KT_drop k h
/-- del d[y], keys tuples -/
def sDDelT (td ty : TE) : TS := fun D σ H => td σ H fun x H1 => ty σ H1 fun y H2 => ∃ (a : Addr) (kvs : List (List Key × V)) (k : List Key) (b : Addr), x = .ref a ∧ H2 a = some (.dT kvs) ∧ y = .ref b ∧ H2 b = some (.tup (k.map kV)) ∧ (valV kvs k).isSome = true ∧ D.nx σ (upd H2 a (.dT (dropK kvs k)))
theorem ps_ddelT {o i : Expr} {pos tpos : Pos} {td ty : TE} (hu : X.A.units + 1 < cLine) (ho : PE X o td) (hi : PE X i ty) : PS X (.Delete [.Subscript o i tpos] pos) (sDDelT td ty) := by
  refine ⟨fun pins s σ H D I h => ?_⟩
  refine wpAny_Delete (wpAny_deleteEach_cons (wpAny_delete_Subscript (thn (ho.run pins s σ H _ I h) fun u s1 ⟨x, H1, I1, rx, q1⟩ => thn (hi.run pins s1 σ H1 _ I1 q1) fun iv s2 ⟨y, H2, I2, ry, a, kvs, k, b, ex, e, ey, eb, l, q2⟩ => ?_)))
  subst ex ey
  obtain rfl : u = Value.ref a := rx
  obtain rfl : iv = Value.ref b := ry
  obtain ⟨z, hd, xs, rel, dd⟩ := dt_of I2.hok e
  have hz : xs.length ≤ sizeLine := by rw [← Paired.length rel]; exact z
  have r := rel.val k
  obtain ⟨v0, ev⟩ := Option.isSome_iff_exists.mp l
  obtain ⟨w', hw, _⟩ := RelO.some_of (v := v0) (o := (atKey xs k).map (·.2)) (by rw [← ev]; exact r)
  obtain ⟨p, hp, _⟩ := Option.map_eq_some_iff.mp hw
  refine wpAny_delItem_heap (hsz := hz) (tupleKind_room_in1 hu) (key_of I2.hok eb) hd dd hp fun h' dd' hs => ?_
  obtain ⟨q, es, ep, hq, h2, h3, h4, _, h5⟩ := dd'
  refine wpAny_deleteEach_nil ⟨σ, _, d_write (ob := .dT (dropK kvs k)) I2 (by rw [e]; exact True.intro) hs ⟨q, hq⟩ ⟨Nat.le_trans (dropK_le kvs k) z, hd, _, (ktDrop k rel).keeps fun c ys ec => ?_, q, es, ep, hq, h2, h3, h4, h5⟩, q2⟩
  rw [upd_ne (ne_of ec e (fun z => nomatch z))]
  exact ec
end
section
variable {prog : Program} {w : World} {κ : Type} [DecidableEq κ] {knd : HeapKind prog w κ} {A : Around} {E : Value → Shared → Prop} {s : Shared}
/-- the truth of a dict whose keys stand in the heap -/
theorem truthy_dictH {d : Addr} {xs : List (κ × Addr × Value)} {Q : Bool → Shared → Prop} (hd : (d == sysModules) = false) (hm : s.heap.DictOfH knd d xs) (hfit : (xs.length : Int) < 2 ^ 63)
    (h : Q (!xs.isEmpty) { s with toks := s.toks + 1 + 1 }) : wpAny (model prog w) A (truthy (.ref d)) Q E s := by
  have hne : ((xs.length : Int) != 0) = !xs.isEmpty := by cases xs <;> simp <;> omega
  have len : wpAny (model prog w) A (runValue (.builtin "len" ⟨[.ref d], []⟩)) (fun r s' => r = .int xs.length (s.toks + 1) ∧ Q (!xs.isEmpty) s') E s := by
    refine wpAny_runValue (codeAny_builtin entry_len ?_)
    rw [Around.under_plainId plain_len _]
    exact wpAny_mono (wpAny_len_body_dictH (Q := fun r s' => r = .int xs.length (s.toks + 1) ∧ Q (!xs.isEmpty) s') hd hm hfit ⟨rfl, h⟩) (fun fin s' ⟨r, e, q⟩ => by subst e; exact q) fun _ _ e => e
  have fin : ∀ (r : Value) (s' : Shared), (r = .int xs.length (s.toks + 1) ∧ Q (!xs.isEmpty) s') → wpAny (model prog w) A (match r with | .int n _ => pure (n != 0) | _ => pure true) Q E s' := fun r s' ⟨e, q⟩ => by
    subst e
    exact wpAny_pure (hne ▸ q)
  unfold truthy
  first
    | refine wpAny_bind (wpAny_callSpecial?_none (name := Str.ofString "__bool__") hm.typeIs noBool_dict ?_)
    | refine wpAny_bind (wpAny_pure (wpAny_bind (wpAny_callSpecial?_none (name := Str.ofString "__bool__") hm.typeIs noBool_dict ?_)))
  first
    | refine wpAny_bind (wpAny_specialOf (name := Str.ofString "__len__") hm.typeIs F.slot_dict_len.lookup ?_)
    | refine wpAny_bind (wpAny_pure (wpAny_bind (wpAny_specialOf (name := Str.ofString "__len__") hm.typeIs F.slot_dict_len.lookup ?_)))
  first
    | exact wpAny_bind (wpAny_mono len (fun r s' ⟨e, q⟩ => by subst e; exact wpAny_pure (hne ▸ q)) fun _ _ e => e)
    | exact wpAny_bind (wpAny_pure (wpAny_bind (wpAny_mono len (fun r s' ⟨e, q⟩ => by subst e; exact wpAny_pure (hne ▸ q)) fun _ _ e => e)))
end
section
variable {X : Cx}
def tTruT (ta : TE) : TT := fun σ H Q => ta σ H fun x H1 => ∃ (a : Addr) (kvs : List (List Key × V)), x = .ref a ∧ H1 a = some (.dT kvs) ∧ Q (!kvs.isEmpty) H1
theorem pt_truT {e : Expr} {ta : TE} (ha : PE X e ta) (he : ∀ whole, isTrue e X.env whole = (do let v ← whole; standAt e.pos; holding [v] (truthy v))) : PT X e (tTruT ta) := by
  refine ⟨fun pins s σ H Q I h => ?_⟩
  refine isTrue_plain (thn (ha.run pins s σ H _ I h) fun v s1 ⟨x, H1, I1, r1, a, kvs, ex, e1, q⟩ => ?_) (he _)
  subst ex
  obtain rfl : v = Value.ref a := r1
  obtain ⟨z, hd, xs, rel, dd⟩ := dt_of I1.hok e1
  have hl : kvs.length = xs.length := Paired.length rel
  have h63 := line63
  have ee : xs.isEmpty = kvs.isEmpty := by
    cases kvs with
    | nil => cases xs with
      | nil => rfl
      | cons _ _ => cases hl
    | cons _ _ => cases xs with
      | nil => cases hl
      | cons _ _ => rfl
  exact truthy_dictH hd dd (by omega) ⟨H1, I1.tok _, by rw [ee]; exact q⟩

/-! ### a dict comprehension: o0 the empty dict, put the reading of a store -/
def PutR (put : Addr → V → V → Hp → (Hp → Prop) → Prop) (X : Cx) : Prop := ∀ (pins : List (Addr × Obj)) (s : Shared) (σ : L2.St) (H : Hp) (D : Addr) (y z : V) (u r : Value) (N : Hp → Prop), Inv X pins σ H s → RelV y u → RelV z r → put D y z H N →
  wpAny (model X.prog X.w) X.A (dictSet D u r) (fun _ s' => ∃ H', Inv X pins σ H' s' ∧ N H') (fun _ _ => False) s
def tDg (o0 : Addr → HO) (put : Addr → V → V → Hp → (Hp → Prop) → Prop) (wi : TI) (g : TG) (tt : TT) (tk tv : TE) (vs : List Nat) : TE := fun σ H Q => wi σ H fun J H1 => ∀ D, H1 D = none → ∃ W : Nat → Nat → Hp → Prop, (∃ m, W 0 m (upd H1 D (o0 D))) ∧ ∀ i m H, W i m H →
  (J.stop i H ∧ Q (.ref D) H) ∨ (J.go i H ∧ ∃ Nx : Hp → Prop, (∀ H', Nx H' → ∃ m', m' < m ∧ W (i + 1) m' H') ∧ ∀ x H', J.yld i H x H' → g x (wipe σ vs) H' fun σ2 H2 => wipe σ2 vs = wipe σ vs ∧ tt σ2 H2 fun b H3 =>
    if b = true then tk σ2 H3 fun y H4 => tv σ2 H4 fun z H5 => put D y z H5 Nx else Nx H3)
theorem dg_core {o0 : Addr → HO} {put : Addr → V → V → Hp → (Hp → Prop) → Prop} {pins : List (Addr × Obj)} {s : Shared} {σ : L2.St} {H : Hp} {Q : VK} {kx vx tg iter : Expr} {ifs : List Expr} {scope : Scope} {own : List (Str × Nat)} {pos pos' : Pos} {wi : TI} {g : TG} {tt : TT} {tk tv : TE} {use : Option (Value → Sem Unit)} {Qf : Value → Shared → Prop}
    (he0 : ∀ (H : Hp) (h : Heap), sysModules < h.objs.size → ObjOk X.prog X.w H (h.push { cls := .type "dict", data := .dict #[] }) h.objs.size (o0 h.objs.size))
    (hc : X.calm = true) (hN : X.N.Nodup) (I : Inv X pins σ H s) (hi : PI X tg iter wi) (ok : BlkOk X.N X.env.scope scope own)
    (hg : ∀ (s : Shared) (H : Hp) (C : Addr) (cl : List (Str × Addr)) (fp : List Addr), PG (X.blk s H scope (compEnvC scope cl C X.env) fp) tg g) (ht : ∀ (s : Shared) (H : Hp) (C : Addr) (cl : List (Str × Addr)) (fp : List Addr), PTs (X.blk s H scope (compEnvC scope cl C X.env) fp) ifs tt)
    (hk : ∀ (s : Shared) (H : Hp) (C : Addr) (cl : List (Str × Addr)) (fp : List Addr), PE (X.blk s H scope (compEnvC scope cl C X.env) fp) kx tk)
    (he : ∀ (s : Shared) (H : Hp) (C : Addr) (cl : List (Str × Addr)) (fp : List Addr), PE (X.blk s H scope (compEnvC scope cl C X.env) fp) vx tv)
    (hp : ∀ (s : Shared) (H : Hp) (C : Addr) (cl : List (Str × Addr)) (fp : List Addr), PutR put (X.blk s H scope (compEnvC scope cl C X.env) fp)) (hs : ∀ x, foldedSetIterable iter X.env x = pure x)
    (h : tDg o0 put wi g tt tk tv (own.map (·.2)) σ H Q)
    (hRR : ∀ D C s' m H', Inv X pins σ H' s' → Q (.ref D) H' → s'.heap.Ns C m → FpOk X pins H' C → compPost (model X.prog X.w) X.A X.xe use Qf (.ref D) C (.ok .next) s') :
    wpAny (model X.prog X.w) X.A (comprehension (.DictComp kx vx [⟨tg, iter, ifs, 0⟩] scope pos) scope X.env pos' newDict false (eval iter X.env) use) Qf X.xe s := by
  have hfree : ∀ y ∈ scope.names, y.2 = .free → ∃ c, X.env.cells.lookup y.1 = some c := fun y hy e => (ok.free y hy e).elim (fun k => I.ok.has _ (.inl k)) fun k => I.ok.has _ (.inr k)
  refine wpAny_comprehension_free (use := use) rfl hs (closure_ok hfree) ok.kind (fun y hy e => by rw [ok.uniq y hy, e]) (thn (hi.run pins s σ H _ I h) fun xv s1 hx => thn hx fun itv s2 ⟨it, fp, tn, J, H2, e, I2, T, st2, f2, q⟩ => ?_)
  subst e
  refine wpAny_newObj_type (newEnv_comp ?_)
  obtain ⟨W, ⟨m0, w0⟩, turn⟩ := q s2.heap.objs.size (I2.hok.fresh (Nat.le_refl _))
  have I3 : Inv X pins σ (upd H2 s2.heap.objs.size (o0 s2.heap.objs.size)) { s2 with heap := s2.heap.push { cls := .type "dict", data := .dict #[] } } :=
    I2.laid (t' := s2.toks) (fun b o e => Heap.get?_push_of_some _ e) (Nat.le_refl _) (he0 _ _ I2.big)
  have f3 : ∀ b ∈ fp, FpOk X pins (upd H2 s2.heap.objs.size (o0 s2.heap.objs.size)) b ∧ b < (s2.heap.push { cls := .type "dict", data := .dict #[] }).objs.size := fun b hb => by
    obtain ⟨o, e, _⟩ := T.obj _ _ st2 b hb
    have hlt := Heap.lt_size e
    exact ⟨⟨by rw [upd_ne (Nat.ne_of_lt hlt)]; exact (f2 b hb).1, (f2 b hb).2⟩, by rw [Heap.size_push]; exact Nat.lt_succ_of_lt hlt⟩
  have st3 : tn 0 (s2.heap.push { cls := .type "dict", data := .dict #[] }) := T.keep _ _ _ st2 fun b _ o e => Heap.get?_push_of_some _ e
  generalize s2.heap.objs.size = D at I3 f3 w0 turn ⊢
  generalize hs3 : ({ s2 with heap := s2.heap.push { cls := .type "dict", data := .dict #[] } } : Shared) = s3 at I3 ⊢
  have h3 : s2.heap.push { cls := .type "dict", data := .dict #[] } = s3.heap := by rw [← hs3]
  rw [h3] at f3 st3
  have I4 := block_start I3 ok hN f3
  have pg := hg s3 (upd H2 D (o0 D)) s3.heap.objs.size (cellsFrom (s3.heap.objs.size + 1) scope.names (cloFrom X.env.cells scope.names [])) fp
  have pt := ht s3 (upd H2 D (o0 D)) s3.heap.objs.size (cellsFrom (s3.heap.objs.size + 1) scope.names (cloFrom X.env.cells scope.names [])) fp
  have pk := hk s3 (upd H2 D (o0 D)) s3.heap.objs.size (cellsFrom (s3.heap.objs.size + 1) scope.names (cloFrom X.env.cells scope.names [])) fp
  have pe := he s3 (upd H2 D (o0 D)) s3.heap.objs.size (cellsFrom (s3.heap.objs.size + 1) scope.names (cloFrom X.env.cells scope.names [])) fp
  have pp := hp s3 (upd H2 D (o0 D)) s3.heap.objs.size (cellsFrom (s3.heap.objs.size + 1) scope.names (cloFrom X.env.cells scope.names [])) fp
  show codeAny _ _ (.compStart (.DictComp kx vx [⟨tg, iter, ifs, 0⟩] scope pos) 0 (.ref it) (.ref D) (compEnvC scope (cellsFrom (s3.heap.objs.size + 1) scope.names (cloFrom X.env.cells scope.names [])) s3.heap.objs.size X.env)) (compPost (model X.prog X.w) X.A X.xe use Qf (.ref D) s3.heap.objs.size) { s3 with heap := pushCells (s3.heap.push { cls := .type "dict", data := .dict #[] }) scope.names }
  generalize hce : compEnvC scope (cellsFrom (s3.heap.objs.size + 1) scope.names (cloFrom X.env.cells scope.names [])) s3.heap.objs.size X.env = ce at I4 pg pt pk pe pp ⊢
  have cL : ce.locals = s3.heap.objs.size := by rw [← hce]; rfl
  have nfp : ∀ b ∈ fp, upd H2 D (o0 D) b = none := fun b hb => (f3 b hb).1.1
  generalize upd H2 D (o0 D) = H3 at I3 I4 pg pt pk pe pp w0 nfp f3
  have st4 : tn 0 (pushCells (s3.heap.push { cls := .type "dict", data := .dict #[] }) scope.names) := T.keep _ _ _ st3 fun b _ o e => pushCells_keeps _ _ _ _ (Heap.get?_push_of_some _ e)
  generalize hs4 : ({ s3 with heap := pushCells (s3.heap.push { cls := .type "dict", data := .dict #[] }) scope.names } : Shared) = s4 at I4 ⊢
  have st4 : tn 0 s4.heap := by rw [← hs4]; exact st4
  generalize hY : X.blk s3 H3 scope ce fp = Y at I4 pg pt pk pe pp
  have yx : Y.ex = fp ∧ Y.pn = [] ∧ Y.prog = X.prog ∧ Y.w = X.w ∧ Y.K = X.K ∧ Y.calm = true ∧ Y.A = X.A ∧ Y.env = ce ∧ Y.xe = (fun _ _ => False) ∧ Y.fs = frs X.stack ∧ Y.H_0 = H3 ∧ Y.s_0 = s3 := by
    rw [← hY]
    exact ⟨rfl, rfl, rfl, rfl, rfl, hc, rfl, rfl, rfl, rfl, rfl, rfl⟩
  obtain ⟨y1, y2, y3, y4, y5, y6, y7, y8, y9, y10, y11, y12⟩ := yx
  have T0 := T
  have T : Turn Y.prog Y.w Y.K tg J fp it tn := by rw [y3, y4, y5]; exact T
  have stat : ∀ {σ' : L2.St} {H' : Hp} {s' : Shared}, Inv Y [] σ' H' s' → (∀ b ∈ fp, H' b = none) → ∀ b ∈ fp, FpOk Y [] H' b := fun {σ' H' s'} I' hn b hb =>
    ⟨hn b hb, (I'.ok.exf b (y1 ▸ hb)).1, I'.ok.exfs b (y1 ▸ hb), .inl (y1 ▸ hb), fun x c e => (I'.ok.exf b (y1 ▸ hb)).2 x c e, fun p hp => by rw [y2] at hp; cases hp⟩
  have loop : codeAny (model X.prog X.w) X.A (.compLoop (.DictComp kx vx [⟨tg, iter, ifs, 0⟩] scope pos) 0 (.ref it) (.ref D) ce) (compPost (model X.prog X.w) X.A X.xe use Qf (.ref D) s3.heap.objs.size) s4 := by
    refine compLoop_anyD (fun n s' => ∃ i H', Inv Y [] (wipe σ (own.map (·.2))) H' s' ∧ tn i s'.heap ∧ (∀ b ∈ fp, H' b = none) ∧ W i n H') ?_ m0 ⟨0, H3, I4, st4, nfp, w0⟩
    rw [← y3, ← y4, ← y7, ← y8]
    rintro n s5 ⟨i, H5, I5, st5, n5, w5⟩
    rcases turn i n H5 w5 with ⟨stop, qq⟩ | ⟨go, Nx, hNx, step⟩
    · refine thnF (T.done Y rfl rfl rfl y6 i [] s5 _ H5 (fun _ _ => False) I5 (stat I5 n5) st5 stop) fun r s6 ⟨hr, I6⟩ => ?_
      subst hr
      have b6 := I6.base
      rw [y10, y1, y11, y12] at b6
      have o6 := I6.os
      rw [y12] at o6
      have k6 := I6.hok
      rw [y3, y4] at k6
      have I7 : Inv X pins σ H5 s6 := I3.call' (ch := fp) o6 b6 k6 I6.bare fun b hb => ⟨(f3 b hb).1.2.2.2.1, (f3 b hb).1.2.1, (f3 b hb).1.2.2.2.2.1, (f3 b hb).1.2.2.2.2.2⟩
      have nC : H5 s3.heap.objs.size = none := by
        have z := I6.free
        rw [y8, cL] at z
        exact z
      obtain ⟨m, hn, _⟩ := I6.loc
      rw [y8, cL] at hn
      show compPost _ _ _ _ _ _ _ _ _
      rw [y3, y4, y7]
      exact hRR D s3.heap.objs.size s6 m H5 I7 qq hn (I3.fpOk (Nat.le_refl _) nC)
    · refine thnF (T.item Y rfl rfl rfl y6 i [] s5 _ H5 (fun _ _ => False) I5 (stat I5 n5) st5 go) fun r s6 ⟨u, hr, h6⟩ => ?_
      subst hr
      refine thnF h6 fun _ s7 ⟨x, H7, I7, r7, yy, st7, n7⟩ => ?_
      have I7' := I7.pinned (stat I7 n7) (T.obj _ _ st7)
      have a1 := pg.run _ s7 _ H7 x u _ I7' r7 (step x H7 yy)
      rw [y9] at a1
      refine thnF a1 fun _ s8 ⟨σ8, H8, I8, hw8, q8⟩ => ?_
      have a2 := pt.run _ s8 σ8 H8 _ I8 q8
      rw [y9] at a2
      refine thnF a2 fun b s9 ⟨H9, I9, q9⟩ => ?_
      have fin : ∀ {s' : Shared} {H' : Hp}, Inv Y ([] ++ pinsAt fp s7.heap) σ8 H' s' → Nx H' → ∃ m, m < n ∧ ∃ i H', Inv Y [] (wipe σ (own.map (·.2))) H' s' ∧ tn i s'.heap ∧ (∀ b ∈ fp, H' b = none) ∧ W i m H' := fun {s' H'} I' nx => by
        obtain ⟨m', hm, w'⟩ := hNx H' nx
        have pin' : ∀ b ∈ fp, ∀ o, s7.heap.get? b = some o → s'.heap.get? b = some o ∧ H' b = none := fun b hb o e =>
          let z := I'.pin (b, o) (List.mem_append_right _ (List.mem_append_right _ (mem_pinsAt hb e)))
          ⟨z.1, z.2.1⟩
        refine ⟨m', hm, i + 1, H', (I'.unpinned (pins := [])).weak (by rw [← wipe_length σ8 (own.map (·.2)), hw8]) (fun j v e => ?_), T.keep _ _ _ st7 fun b hb o e => (pin' b hb o e).1, fun b hb => ?_, w'⟩
        · rw [← hw8] at e
          exact (wipe_some e).1
        · obtain ⟨o, e, _⟩ := T.obj _ _ st7 b hb
          exact (pin' b hb o e).2
      cases b with
      | false =>
        simp only [Bool.false_eq_true, if_false] at q9 ⊢
        exact fin I9 q9
      | true =>
        simp only [if_true] at q9 ⊢
        have a3 := pk.run _ s9 σ8 H9 _ I9 q9
        rw [y9] at a3
        refine thnF a3 fun z s10 ⟨yk, H10, I10, r10, q10⟩ => ?_
        have a4 := pe.run _ s10 σ8 H10 _ I10 q10
        rw [y9] at a4
        refine thnF a4 fun z2 s11 ⟨yv, H11, I11, r11, q11⟩ => ?_
        exact thnF (pp _ s11 σ8 H11 D yk yv z z2 Nx I11 r10 r11 q11) fun _ s12 ⟨H12, I12, nx⟩ => fin I12 nx
  exact codeAny_compStart_dict loop (T0.self X.A 0 _ _ _ st4 loop)
theorem pe_dg {o0 : Addr → HO} {put : Addr → V → V → Hp → (Hp → Prop) → Prop} {kx vx tg iter : Expr} {ifs : List Expr} {scope : Scope} {own : List (Str × Nat)} {pos : Pos} {wi : TI} {g : TG} {tt : TT} {tk tv : TE}
    (he0 : ∀ (H : Hp) (h : Heap), sysModules < h.objs.size → ObjOk X.prog X.w H (h.push { cls := .type "dict", data := .dict #[] }) h.objs.size (o0 h.objs.size)) (hc : X.calm = true) (hN : X.N.Nodup) (hi : PI X tg iter wi) (ok : BlkOk X.N X.env.scope scope own)
    (hg : ∀ (s : Shared) (H : Hp) (C : Addr) (cl : List (Str × Addr)) (fp : List Addr), PG (X.blk s H scope (compEnvC scope cl C X.env) fp) tg g) (ht : ∀ (s : Shared) (H : Hp) (C : Addr) (cl : List (Str × Addr)) (fp : List Addr), PTs (X.blk s H scope (compEnvC scope cl C X.env) fp) ifs tt)
    (hk : ∀ (s : Shared) (H : Hp) (C : Addr) (cl : List (Str × Addr)) (fp : List Addr), PE (X.blk s H scope (compEnvC scope cl C X.env) fp) kx tk)
    (he : ∀ (s : Shared) (H : Hp) (C : Addr) (cl : List (Str × Addr)) (fp : List Addr), PE (X.blk s H scope (compEnvC scope cl C X.env) fp) vx tv)
    (hp : ∀ (s : Shared) (H : Hp) (C : Addr) (cl : List (Str × Addr)) (fp : List Addr), PutR put (X.blk s H scope (compEnvC scope cl C X.env) fp)) (hs : ∀ x, foldedSetIterable iter X.env x = pure x := by intro _; rfl) :
    PE X (.DictComp kx vx [⟨tg, iter, ifs, 0⟩] scope pos) (tDg o0 put wi g tt tk tv (own.map (·.2))) := by
  refine ⟨fun pins s σ H Q I h => ?_⟩
  rw [arm_eval_DictComp]
  refine dg_core he0 hc hN I hi ok hg ht hk he hp hs h fun D C s' m H' I' q hn ⟨f0, f1, f2, f3, f4, f5⟩ => ⟨m, hn, fun h'' sb => ?_⟩
  exact ⟨.ref D, H', I'.turned (t' := s'.toks) (fun b o hb e => (sb.2 b hb).trans e) f0 f1 f3 f4 f5, rfl, q⟩
theorem sw_dict {kx vx : Expr} {gs : List Comprehension} {scope : Scope} {pos py : Pos} {y : Str} {l : Nat} {env : Env} (hk : env.scope.kind = .function) (hy : env.scope.names.lookup y = some .local) (hl : (py.line == pos.line) = true)
    (ha : (scope.names.any fun (n, k) => n == y && (k == .local || k == .cell)) = false) : swapsWith (.DictComp kx vx gs scope pos) (some (.Name y py)) l env = pure true := by
  have h1 : env.kindOf y = some .local := hy
  have h2 : env.blockKind = .function := by unfold Env.blockKind; rw [hk]; rfl
  unfold swapsWith
  simp only [h2, h1, ha, Expr.pos, hl]
  rfl
/-- name = {..} on one line, the name a local -/
theorem ps_setDg {o0 : Addr → HO} {put : Addr → V → V → Hp → (Hp → Prop) → Prop} {i : Nat} {y : Str} {py : Pos} {kx vx tg iter : Expr} {ifs : List Expr} {scope : Scope} {own : List (Str × Nat)} {pos spos : Pos} {wi : TI} {g : TG} {tt : TT} {tk tv : TE}
    (he0 : ∀ (H : Hp) (h : Heap), sysModules < h.objs.size → ObjOk X.prog X.w H (h.push { cls := .type "dict", data := .dict #[] }) h.objs.size (o0 h.objs.size)) (hc : X.calm = true) (hN : X.N.Nodup) (hy : X.N[i]? = some y) (hyl : X.env.scope.names.lookup y = some .local)
    (hsw : swapsWith (.DictComp kx vx [⟨tg, iter, ifs, 0⟩] scope pos) (some (.Name y py)) spos.line X.env = pure true) (hi : PI X tg iter wi) (ok : BlkOk X.N X.env.scope scope own)
    (hg : ∀ (s : Shared) (H : Hp) (C : Addr) (cl : List (Str × Addr)) (fp : List Addr), PG (X.blk s H scope (compEnvC scope cl C X.env) fp) tg g) (ht : ∀ (s : Shared) (H : Hp) (C : Addr) (cl : List (Str × Addr)) (fp : List Addr), PTs (X.blk s H scope (compEnvC scope cl C X.env) fp) ifs tt)
    (hk : ∀ (s : Shared) (H : Hp) (C : Addr) (cl : List (Str × Addr)) (fp : List Addr), PE (X.blk s H scope (compEnvC scope cl C X.env) fp) kx tk)
    (he : ∀ (s : Shared) (H : Hp) (C : Addr) (cl : List (Str × Addr)) (fp : List Addr), PE (X.blk s H scope (compEnvC scope cl C X.env) fp) vx tv)
    (hp : ∀ (s : Shared) (H : Hp) (C : Addr) (cl : List (Str × Addr)) (fp : List Addr), PutR put (X.blk s H scope (compEnvC scope cl C X.env) fp)) (hs : ∀ x, foldedSetIterable iter X.env x = pure x := by intro _; rfl) :
    PS X (.Assign [.Name y py] (.DictComp kx vx [⟨tg, iter, ifs, 0⟩] scope pos) spos) (tAsg (tDg o0 put wi g tt tk tv (own.map (·.2))) (gName i)) := by
  refine ⟨fun pins s σ H D I h => ?_⟩
  rw [exec_Assign_Name_used _ _ _ _ hsw]
  refine wpAny_bind (wpAny_standAt (wpAny_bind ?_))
  show wpAny _ X.A (do let _ ← comprehension (.DictComp kx vx [⟨tg, iter, ifs, 0⟩] scope pos) scope X.env (firstIterPos [⟨tg, iter, ifs, 0⟩] pos) newDict false (eval iter X.env) (some (assign (.Name y py) X.env))) _ _ s
  have h : tDg o0 put wi g tt tk tv (own.map (·.2)) σ H (fun x H1 => gName i x σ H1 D.nx) := h
  refine wpAny_bind (thn (dg_core (Qf := fun _ s' => SP X pins D .next s') he0 hc hN I hi ok hg ht hk he hp hs h fun L C s' m H' I' q hn ⟨f0, f1, f2, f3, f4, f5⟩ => ?_) fun _ s' hq => wpAny_pure (wpAny_pure hq))
  show wpAny _ _ (assign (.Name y py) X.env (.ref L)) _ _ _
  refine wpAny_assign_Name (store_ok2 (v := V.ref L) I' hN hy (.inl hyl) rfl (fun s2 I2 ⟨a, sb, ha⟩ => ?_) (.inr hyl))
  have haC : C ≠ a := ha.elim (fun z => by rw [z]; exact f1) fun z e => f4 y a z e.symm
  exact ⟨m, hn.sameBut sb haC, fun h3 sb3 => ⟨_, H', I2.turned (t' := s2.toks) (fun b o hb e => (sb3.2 b hb).trans e) f0 f1 f3 f4 f5, q⟩⟩
/-- keys tuples of ints and texts -/
def putT (D : Addr) (y z : V) (H : Hp) (N : Hp → Prop) : Prop := ∃ (kvs : List (List Key × V)) (k : List Key) (b : Addr), y = .ref b ∧ H b = some (.tup (k.map kV)) ∧ H D = some (.dT kvs) ∧ kvs.length < sizeLine ∧ N (upd H D (.dT (putK kvs k z)))
theorem putR_T {Y : Cx} (hu : Y.A.units < cLine) : PutR putT Y := by
  intro pins s σ H D y z u r N I ry rz ⟨kvs, k, b, ey, eb, e, l, n⟩
  subst ey
  obtain rfl : u = Value.ref b := ry
  obtain ⟨zz, hd, xs, rel, dd⟩ := dt_of I.hok e
  have hz : xs.length ≤ sizeLine := by rw [← Paired.length rel]; exact zz
  have hl : (putK kvs k z).length ≤ sizeLine := by have := length_putK kvs k z; omega
  refine wpAny_dictSet_heap (hsz := hz) hu (key_of I.hok eb) dd fun h' dd' hs => ⟨_, ?_, n⟩
  obtain ⟨q, es, ep, hq, h2, h3, h4, _, h5⟩ := dd'
  refine d_write I (by rw [e]; exact True.intro) hs ⟨q, hq⟩ ⟨hl, hd, _, (rel.put k eb rz).keeps fun c ys ec => ?_, q, es, ep, hq, h2, h3, h4, h5⟩
  rw [upd_ne (ne_of ec e (fun z => nomatch z))]
  exact ec
end
end GX
/-! repr in a law's body: a def that is called by the caller alone, and the law's end for it -/
namespace GX
open PySem PySem.Spec PyProof.Rows L2 GxR
/-- repr(x), x plain data of lists and tuples -/
def rRepr (K : PySem.W.Frag) : List V → Hp → VK → Prop := fun xs H Q => ∃ (p : Addr) (d : PyData), xs = [.ref p] ∧ Dp K H (.ref p) d ∧ d.showable = true ∧ d.hasDict = false ∧ d.depth ≤ 60 ∧ d.shown.length ≤ sizeLine ∧ Q (.str d.shown) H
theorem cr_repr {X : Cx} (hg : X.A.guards = some []) (hu : X.A.units + 64 < cLine) : CallR X (.builtin "repr") (rRepr X.K) := by
  intro pins s σ H xs us Q I r ⟨p, d, ex, hd, h1, h2, h3, h4, q⟩
  subst ex
  obtain ⟨u, rfl, rx⟩ := vals1 r
  obtain ⟨as, rd⟩ := Dp.reads I d (.ref p) u hd rx
  obtain rfl : u = Value.ref p := rx
  exact repr_of_reads' (hsz := h4) rd h1 (fun z => by rw [h2] at z; cases z) hg (by omega) (fun _ _ e => e) fun h' u tk hk => ⟨.str d.shown, H, I.kept (t' := tk) hk, ⟨u, rfl⟩, q⟩
/-- what a def does when the caller calls it -/
structure FnC (P : Program) (w : World) (K : PySem.W.Frag) (mg : Str → Option Value) (base : Heap) (f : Addr) (fd : FuncData) (ps : List Str) (sp : Sp) : Prop where
  run : ∀ (s : Shared) (H : Hp) (args : Args) (us : List Value) (vs : List V) (Q : VK) (E : XK), Env0 P w K mg base callerA [] s H → BindsTo s fd args (ps.zip us) → Vals vs us → sp vs H Q E →
    codeAny (model P w) callerA (.call (.ref f) args) (CR CX0 [] P w H s Q E) s
theorem fn_C {P : Program} {w : World} {K : PySem.W.Frag} {mg : Str → Option Value} {base : Heap} {k : Nat} {f : Addr} {name qual : Str} {params : Arguments} {body : List Stmt} {scope : Scope} {dV kV doc pm cdv ct oc : Value} {an od : Option Addr}
    {osl : Array (Option Value)} {N ps : List Str} {sp : Sp} (hk : Room (k + 1) callerA) (lk : K.lookup f = some ⟨oc, od, .func (PySem.W.fnOf name qual params body scope dV kV doc pm an cdv ct), osl⟩) (hcd : PySem.W.codeIn K cdv qual = true) (S : FnScope N ps scope)
    (len : ∀ vs H Q E, sp vs H Q E → vs.length = ps.length)
    (hbody : ∀ (A : Around) (outer : List Env) (s : Shared) (H : Hp) (vs : List V) (Q : VK) (E : XK), A.guards = some [] → Room k (A.deeper (envOfC qual scope s.heap.objs.size f cdv)) → sp vs H Q E →
      ∃ t, PSs (cxOf CX0 P w K mg base N qual scope f cdv A outer s H E).nox body t ∧ t { nx := fun _ H' => Q .non H', rt := Q } (start N vs) H) :
    FnC P w K mg base f (PySem.W.fnOf name qual params body scope dV kV doc pm an cdv ct) ps sp where
  run := fun s H args us vs Q E e0 hb r hsp => by
    have bk := fun b o e => (e0.bs b o e).1
    have KX : K.In s.heap := e0.mod.kin.keeps bk
    obtain ⟨t, ht, hq⟩ := hbody callerA [] s H vs Q E rfl (hk.deeper _) hsp
    refine codeAny_call_function hk.depth (KX _ _ lk) rfl S.co S.gen rfl (PySem.W.codeRec_of KX hcd) (hb _ _ _ _ (wpAny_newFunctionEnv_cells S.kind (fun ⟨n, v⟩ hy => ?_) fun env he s1 x => ?_))
    · exact (S.par n (List.of_mem_zip hy).1).imp id fun q => ⟨q, PySem.W.cellsFrom_some _ _ _ (.inl q)⟩
    · subst he
      refine ⟨(e0.mod.nolimit.keeps bk).keeps x.toInCall.keep, codeAny_func (wpAny_mono (ht.nox.run [] s1 (start N vs) H _ (inv_start S hk.hd e0 (len _ _ _ _ hsp) r x) hq) (fun fl s' hs => ?_) fun e s' hs => hs)⟩
      cases fl with
      | ret u => exact let ⟨v, σ', H', J, rv, q⟩ := hs; ⟨v, H', J.os, J.bare, J.base, J.hok, rv, q⟩
      | next => exact let ⟨σ', H', J, q⟩ := hs; ⟨.non, H', J.os, J.bare, J.base, J.hok, rfl, q⟩
      | brk => exact let ⟨_, _, _, q⟩ := hs; q.elim
      | cont => exact let ⟨_, _, _, q⟩ := hs; q.elim
end GX
/-! the end of a law whose body the caller alone calls; ts: the tables of code objects that may grow -/
namespace GX
open PySem PySem.Spec PyProof.Rows L2 GxR
section
variable {P : Program} {w : World} {K : PySem.W.Frag} {mg mb : Str → Option Value} {fa a : Addr} {cs : List (Addr × Addr)} {fd : FuncData} {x : Str} {sp : Sp} {s₁ : Shared} {vs : List Value} {ns : List Int}
/-- what is known at the law's entry: the tables, the script where it is no object of the module -/
def atE (K : PySem.W.Frag) (cs : List (Addr × Addr)) (a : Addr) (vs : List Value) (ns : List Int) : Hp := fun b =>
  if b ∈ cs.map (·.2) then some (.tbl #[]) else if b = a ∧ K.lookup a = none then some (.frz { cls := .type "list", data := .seq vs.toArray } (.lst (ns.map V.int))) else none
theorem law_callC (KX : K.In s₁.heap) (hns : s₁.heap.Ns mainGlobals mg) (hb : s₁.heap.Ns builtinsNs mb) (hbb : ∀ x : Str, x ≠ "__name__" → mb x = bootBuiltins x) (hlim : s₁.heap.NoLimit) (hg : s₁.gens = #[])
    (hT : ∀ p ∈ cs, s₁.heap.get? p.2 = some { cls := .none, data := .fields #[] }) (nT : ∀ p ∈ cs, K.lookup p.2 = none) (C : ∀ p ∈ cs, PySem.W.CodeHd s₁.heap p.1 p.2)
    (hbm : ∃ (bm : Addr) (ob : Obj), mg "__builtins__" = some (.ref bm) ∧ bm ≠ builtinsNs ∧ s₁.heap.get? bm = some ob ∧ ob.cls = .type "module" ∧ ob.dict = some builtinsNs ∧ ob.data = .plain)
    (ha : s₁.heap.get? a = some { cls := .type "list", data := .seq vs.toArray }) (hi : IntsAre vs ns) (hl : ns.length ≤ sizeLine)
    (F : ∀ base : Heap, K.In base → base.Ns mainGlobals mg → (∀ p ∈ cs, TabB base mg p.1 p.2) → FnC P w K mg base fa fd [x] sp) (hbind : ∀ (s : Shared) (u : Value), BindsTo s fd ⟨[u], []⟩ [(x, u)])
    (hsp : ∀ H : Hp, (∀ p ∈ cs, H p.2 = some (.tbl #[])) → SqL K H a (ns.map V.int) → sp [.ref a] H (fun v _ => v = .bl true) fun _ _ _ => False) :
    codeAny (model P w) callerA (.call (.ref fa) ⟨[.ref a], []⟩) (fun r s' => r = .ok (.ret (.bool true)) ∧ OldK s₁.heap s'.heap ∧ s'.os = s₁.os ∧ AllBare s'.gens) s₁ := by
  have tabOf : ∀ b ∈ cs.map (·.2), s₁.heap.get? b = some { cls := .none, data := .fields #[] } := fun b hb => by
    obtain ⟨p, hp, rfl⟩ := List.mem_map.mp hb
    exact hT p hp
  have aOut : a ∉ cs.map (·.2) := fun z => by
    have := tabOf a z
    rw [ha] at this
    exact nomatch congrArg Obj.data (Option.some.inj this)
  have tabIn : ∀ p ∈ cs, p.2 ∈ cs.map (·.2) := fun p hp => List.mem_map.mpr ⟨p, hp, rfl⟩
  generalize hH : atE K cs a vs ns = H
  have H1 : ∀ p ∈ cs, H p.2 = some (.tbl #[]) := fun p hp => by
    rw [← hH]
    exact if_pos (tabIn p hp)
  have H2 : K.lookup a = none → H a = some (.frz { cls := .type "list", data := .seq vs.toArray } (.lst (ns.map V.int))) := fun z => by
    rw [← hH]
    exact (if_neg aOut).trans (if_pos ⟨rfl, z⟩)
  have H3 : ∀ b u, H b = some u → (b ∈ cs.map (·.2) ∧ u = .tbl #[]) ∨ (b = a ∧ K.lookup a = none ∧ u = .frz { cls := .type "list", data := .seq vs.toArray } (.lst (ns.map V.int))) := fun b u e => by
    rw [← hH] at e
    unfold atE at e
    split at e
    · rename_i z
      exact .inl ⟨z, (Option.some.inj e).symm⟩
    · split at e
      · rename_i z
        exact .inr ⟨z.1, z.2, (Option.some.inj e).symm⟩
      · cases e
  -- what is no list and no empty table is not tracked; nor is an object of the module
  have free : ∀ {b : Addr} {o : Obj}, s₁.heap.get? b = some o → (∀ vs n, o.data ≠ .seq vs n) → o.data ≠ .fields #[] → H b = none := fun {b o} e n1 n2 => by
    cases q : H b with
    | none => rfl
    | some u =>
      rcases H3 b u q with ⟨z, _⟩ | ⟨z, _⟩
      · rw [tabOf b z] at e
        cases e
        exact absurd rfl n2
      · rw [z, ha] at e
        cases e
        exact absurd rfl (n1 _ _)
  have freeK : ∀ b o, K.lookup b = some o → H b = none := fun b o e => by
    cases q : H b with
    | none => rfl
    | some u =>
      rcases H3 b u q with ⟨z, _⟩ | ⟨z, y, _⟩
      · obtain ⟨p, hp, rfl⟩ := List.mem_map.mp z
        rw [nT p hp] at e
        cases e
      · rw [z, y] at e
        cases e
  have inB : ∀ {b : Addr} {o : Obj}, s₁.heap.get? b = some o → H b = none → (hidT s₁.heap H).get? b = some o := fun e n => hidT_get e n
  have nsB : ∀ {b : Addr} {m : Str → Option Value}, s₁.heap.Ns b m → (hidT s₁.heap H).Ns b m := fun {b m} ⟨o, es, ep, e, d, r⟩ =>
    ⟨o, es, ep, inB e (free e (fun _ _ z => by rw [d] at z; cases z) fun z => by rw [d] at z; cases z), d, r⟩
  have kB : K.In (hidT s₁.heap H) := fun b o e => inB (KX b o e) (freeK b o e)
  have mo : L2.Mod K mg (hidT s₁.heap H) := ⟨kB, nsB hns, ⟨mb, nsB hb, hbb⟩, hlim.imp fun _ z => ⟨nsB z.1, z.2⟩⟩
  have okH : HOk P w H s₁.heap := fun b u e => by
    rcases H3 b u e with ⟨z, rfl⟩ | ⟨rfl, _, rfl⟩
    · exact tabOf b z
    · exact ⟨ha, by rw [List.length_map]; exact hl, vs, _, vals_ints hi, ha⟩
  have tB : ∀ p ∈ cs, TabB (hidT s₁.heap H) mg p.1 p.2 := fun p hp => by
    have gp := hT p hp
    obtain ⟨og, eg, epg, e1, d1, _⟩ := id hns
    refine ⟨?_, ?_, fun z => by rw [z, gp] at e1; cases e1; cases d1⟩
    · obtain ⟨o, us, file, tf, flags, tg, inF, text, tt, c1, r1, r2, r3, r⟩ := C p hp
      exact ⟨o, us, file, tf, flags, tg, inF, text, tt, inB c1 (free c1 (fun _ _ z => by rw [r2] at z; cases z) (fun z => by rw [r2] at z; cases z; simp at r3)), r1, r2, r3, r⟩
    · obtain ⟨bm, ob, b1, b2, b3, b4, b5, b6⟩ := hbm
      exact ⟨bm, ob, b1, b2, (fun z => by rw [z, e1] at b3; cases b3; rw [d1] at b6; cases b6), (fun z => by rw [z, gp] at b3; cases b3; cases b6), inB b3 (free b3 (fun _ _ z => by rw [b6] at z; cases z) (fun z => by rw [b6] at z; cases z)), b4, b5, b6⟩
  have sq : SqL K H a (ns.map V.int) := by
    cases e : K.lookup a with
    | none => exact .inl (.inr ⟨_, H2 e⟩)
    | some o =>
      have z := KX a o e
      rw [ha] at z
      cases z
      exact .inr ⟨_, vs.toArray, _, e, rfl, rfl, rfl, by rw [List.size_toArray, hi.length]; exact hl, by simpa using vals_ints hi⟩
  refine codeAny_mono ((F _ kB (nsB hns) tB).run s₁ H ⟨[.ref a], []⟩ [.ref a] [.ref a] _ _ ⟨rfl, mo, fun b o e => of_hidT e, Nat.le_of_eq (hidT_size _ _), trivial, (fun b z => nomatch z), okH, .of_eq hg⟩ (hbind s₁ (.ref a)) (.cons rfl .nil) (hsp H H1 sq)) fun r s' h => ?_
  match r, h with
  | .error e, h => exact False.elim h
  | .ok .next, h => exact False.elim h
  | .ok .brk, h => exact False.elim h
  | .ok .cont, h => exact False.elim h
  | .ok (.ret u), ⟨v, H', os, bare, un, ok', rv, q⟩ =>
    obtain rfl : v = .bl true := q
    obtain rfl : u = Value.bool true := rv
    have stay : ∀ b o, b ∉ cs.map (·.2) → s₁.heap.get? b = some o → s'.heap.get? b = some o := fun b o nb e => by
      cases q : H b with
      | none => exact un.keep b o e q (fun z => nomatch z) (fun z => nomatch z)
      | some y =>
        rcases H3 b y q with ⟨z, _⟩ | ⟨_, _, rfl⟩
        · exact absurd z nb
        · have e1 := (okH b _ q).1
          rw [e] at e1
          cases e1
          exact (ok' b _ (un.frzs b _ _ q)).1
    have grow : ∀ b ∈ cs.map (·.2), ∃ (p : Addr × Addr) (more : Array Value), p ∈ cs ∧ p.2 = b ∧ s'.heap.get? b = some { cls := .none, data := .fields (#[] ++ more) } := fun b hb => by
      obtain ⟨p, hp, rfl⟩ := List.mem_map.mp hb
      obtain ⟨more, z⟩ := un.tbls p.2 #[] (H1 p hp)
      exact ⟨p, more, hp, rfl, ok' p.2 _ z⟩
    refine ⟨rfl, ⟨fun b o e => ?_, fun b o e => ?_⟩, os, bare⟩
    · by_cases hb : b ∈ cs.map (·.2)
      · obtain ⟨p, more, hp, rfl, hm⟩ := grow b hb
        rw [hT p hp] at e
        cases e
        exact .inr (.inl ⟨((C p hp).tab (hT p hp)).isCodeTable, rfl, #[], more, rfl, hm⟩)
      · exact .inl (stay b o hb e)
    · by_cases hb : b ∈ cs.map (·.2)
      · obtain ⟨p, more, _, _, hm⟩ := grow b hb
        exact ⟨_, hm⟩
      · exact ⟨o, stay b o hb e⟩
end
/-- what is known of the law's promise at the head's heap h -/
def LawC (l : PySem.W.OpenLaw) (w : World) (K : PySem.W.Frag) (n : Nat) (x : Str) (mg : Str → Option Value) (fa : Addr) (h : Heap) : Prop :=
  ∃ (fd : FuncData) (cs : List (Addr × Addr)) (sp : Sp), (∀ p ∈ cs, h.get? p.2 = some { cls := .none, data := .fields #[] }) ∧ (∀ p ∈ cs, K.lookup p.2 = none) ∧ (∀ p ∈ cs, PySem.W.CodeHd h p.1 p.2) ∧ (∀ (s : Shared) (u : Value), BindsTo s fd ⟨[u], []⟩ [(x, u)]) ∧
    (∀ (H : Hp) (a : Addr) (ns : List Int), ns.length ≤ n → (∀ z ∈ ns, Builtin.Int.intBits z ≤ 1048576) → (∀ p ∈ cs, H p.2 = some (.tbl #[])) → SqL K H a (ns.map V.int) → sp [.ref a] H (fun v _ => v = .bl true) fun _ _ _ => False) ∧
    ∀ base : Heap, K.In base → base.Ns mainGlobals mg → (∀ p ∈ cs, TabB base mg p.1 p.2) → FnC l.prog w K mg base fa fd [x] sp
theorem walk_ofC {l : PySem.W.OpenLaw} {n : Nat} {q : Program} {loose : List Str} {XP : (Str → Option Value) → Heap → Prop} {YP : World → Heap → Prop} {d : DefRec} {K : Params → PySem.W.Frag} {x : Str}
    (hn : l.most = some n) (hn2 : n ≤ sizeLine) (hdf : d.params.defaults = []) (hY : ∀ (w : World) (h : Heap), YP w h → (K w.params).In h)
    (F : ∀ (w : World) (mg : Str → Option Value) (fa : Addr) (h : Heap), YP w h → (K w.params).In h → h.Ns mainGlobals mg → mg d.name = some (.ref fa) → LawC l w (K w.params) n x mg fa h) :
    PySem.W.WalkO q loose XP YP l.row.toRowW d [] (fun f vs => PySem.call f vs) := by
  refine Att.attach_callB hn hdf fun w s₀ s₁ mg mb fa o pm cd doc a vs ns G Y ho hd hcd hmg hobj hints hlen hbits hg => ?_
  have KX := hY w _ Y
  obtain ⟨fd, cs, sp, hT, nT, C, hb, hsp, hF⟩ := F w mg fa _ Y KX G.T.g hmg
  exact law_callC KX G.T.g G.T.b G.T.builtins G.T.nolimit hg hT nT C G.T.bmain hobj hints (Nat.le_trans hlen hn2) hF hb fun H hH hS => hsp H a ns hlen hbits hH hS
end GX
/-! the end of a law that the caller alone calls, where the program's own defs hold generator expressions -/
namespace GX
open PySem PySem.Spec PyProof.Rows L2 GxR
/-- each def of the view q has an empty table -/
def AllTabs (q : Program) (K : PySem.W.Frag) (mg : Str → Option Value) (h : Heap) : Prop :=
  ∀ (x : Str) (f : Addr), ((recsOf q).any fun e => e.name == x) = true → mg x = some (.ref f) → LamX.OwnTab K f h
theorem walk_tabsC {l : PySem.W.OpenLaw} {n : Nat} {q : Program} {loose : List Str} {XP : (Str → Option Value) → Heap → Prop} {YP : World → Heap → Prop} {d : DefRec} {K : Params → PySem.W.Frag} {x : Str}
    (hn : l.most = some n) (hn2 : n ≤ sizeLine) (hdf : d.params.defaults = []) (hY : ∀ (w : World) (h : Heap), YP w h → (K w.params).In h)
    (F : ∀ (w : World) (mg : Str → Option Value) (fa : Addr) (h : Heap), YP w h → (K w.params).In h → h.Ns mainGlobals mg → mg d.name = some (.ref fa) → AllTabs q (K w.params) mg h → LawC l w (K w.params) n x mg fa h) :
    PySem.W.WalkO q loose XP YP l.row.toRowW d [] (fun f vs => PySem.call f vs) := by
  refine Att.attach_callB hn hdf fun w s₀ s₁ mg mb fa o pm cd doc a vs ns G Y ho hd hcd hmg hobj hints hlen hbits hg => ?_
  have KX := hY w _ Y
  have tabs : AllTabs q (K w.params) mg s₁.heap := by
    intro y f hy hf c P o1 f1 e dd ws sl i1 i2 i3 i4 i5
    obtain ⟨r, hr, hr2⟩ := List.any_eq_true.mp hy
    have nm : r.name = y := beq_iff_eq.mp hr2
    obtain ⟨a2, o2, f2, c2, P2, j1, j2, j3, j4, j5, ⟨oc, vc, t1, _, t3, t4⟩, empty⟩ := G.T.tab r hr
    rw [nm, hf] at j1
    cases j1
    have at1 := KX _ _ i1
    rw [at1] at j2
    cases j2
    rw [i2] at j3
    cases j3
    rw [i3] at j4
    cases j4
    have at2 := KX _ _ i4
    rw [at2] at t1
    cases t1
    cases t3
    rw [i5] at t4
    cases t4
    exact empty
  obtain ⟨fd, cs, sp, hT, nT, C, hb, hsp, hF⟩ := F w mg fa _ Y KX G.T.g hmg tabs
  exact law_callC KX G.T.g G.T.b G.T.builtins G.T.nolimit hg hT nT C G.T.bmain hobj hints (Nat.le_trans hlen hn2) hF hb fun H hH hS => hsp H a ns hlen hbits hH hS
end GX
namespace K20
open PySem PySem.Spec PyProof.Rows L2 QR
/-! ### the text -/
def topS (i : Nat) : Stmt := PySem.Challenge.pw_quiltward_k95_whole_plans_with_the_fewes.main.body.getD i (.Pass ⟨0, 0, 0, 0⟩)
end K20
namespace K20
open PySem PySem.Spec PyProof.Rows L2
abbrev sState : Stmt := topS 8
abbrev sDraw : Stmt := topS 9
abbrev sPick : Stmt := topS 10
theorem scState : FnScope ["script", "seed", "cell"] ["script"] (defScope sState) := ⟨rfl, rfl, rfl, by decide +kernel, rfl, by decide +kernel, by decide +kernel⟩
theorem scDraw : FnScope ["state", "many", "cells", "value", "mixed"] ["state", "many"] (defScope sDraw) := ⟨rfl, rfl, rfl, by decide +kernel, rfl, by decide +kernel, by decide +kernel⟩
theorem scPick : FnScope ["state", "row"] ["state", "row"] (defScope sPick) := ⟨rfl, rfl, rfl, by decide +kernel, rfl, by decide +kernel, by decide +kernel⟩
/-! ### the state of the draws: a list of a list and a number -/
structure StateAt (H : Hp) (p c : Addr) : Prop where
  ex : ∃ (seed : Int) (ms : List Int), H p = some (.lst [.ref c, .int seed]) ∧ H c = some (.lst (ms.map V.int)) ∧ ms.length ≤ 63 ∧ (∀ m ∈ ms, 0 ≤ m) ∧ 0 ≤ seed ∧ seed < 4294967296
  ne : p ≠ c
/-- only the state has changed -/
def Drawn (p c : Addr) (H H' : Hp) : Prop := ∀ b, b ≠ p → b ≠ c → H' b = H b
theorem drawn_refl {p c : Addr} {H : Hp} : Drawn p c H H := fun _ _ _ => rfl
theorem drawn_trans {p c : Addr} {H H1 H2 : Hp} (a : Drawn p c H H1) (b : Drawn p c H1 H2) : Drawn p c H H2 := fun x h1 h2 => (b x h1 h2).trans (a x h1 h2)
theorem StateAt.mono {H H' : Hp} {p c : Addr} (s : StateAt H p c) (hp : ∀ o, H p = some o → H' p = some o) (hc : ∀ o, H c = some o → H' c = some o) : StateAt H' p c := by
  obtain ⟨⟨seed, ms, h1, h2, h3⟩, ne⟩ := s
  exact ⟨⟨seed, ms, hp _ h1, hc _ h2, h3⟩, ne⟩
section
variable {P : Program} {w : World} {K : PySem.W.Frag} {mg : Str → Option Value} {base : Heap}
/-! ### _law_state -/
def spState (K : PySem.W.Frag) : Sp := fun vs H Q _ => ∃ (a : Addr) (ns : List Int), vs = [.ref a] ∧ SqL K H a (ns.map V.int) ∧ ns.length ≤ 63 ∧
  ∀ H' p c, Same H H' → H p = none → H c = none → StateAt H' p c → Q (.ref p) H'
theorem abs_nn (z : Int) : 0 ≤ (if z < 0 then -z else z) := by
  split <;> omega
theorem ok_state {f : Addr} {fd : FuncData} (F : Fun K "_law_state" "_law_state" sState f fd) (ma : mg "abs" = none) (mi : mg "int" = none) : FnOk P w K mg base CX0 1 f fd ["script"] (spState K) := by
  refine F.ok scState (fun vs H Q E h => ?_) (fun cdv A outer s H vs Q E hr h => ?_)
  · obtain ⟨a, ns, rfl, _⟩ := h
    rfl
  · obtain ⟨a, ns, rfl, hS, hl, q⟩ := h
    refine ⟨_, pss_cons (ps_set (i := 1) scState.nd rfl (.inl rfl) pe_int)
      (pss_cons (ps_for PassesOwn.never rfl (pi_list (pv 0)) (pg_name (i := 2) scState.nd rfl (.inl rfl))
        (pss_one (ps_set (i := 1) scState.nd rfl (.inl rfl) (pe_op op_mod (pe_callTy call_int1 (by rfl) mi (by decide +kernel) (pa_cons (pe_op op_add (pe_op op_mul (pv 1) pe_int) (pv 2)) pa_nil)) pe_int))))
      (pss_one (ps_ret (pe_lst (pa_cons (pe_lc (own := [("cell", 2)]) (g := gName 2) (tt := tYes) rfl scState.nd (pi_list (pv 0)) (blkOk_by (N := ["script", "seed", "cell"]) (sc := defScope sState) (by decide +kernel))
          (fun _ _ _ _ _ => pg_name (i := 2) scState.nd rfl (Or.inl rfl)) (fun _ _ _ _ _ => pts_nil) (fun _ _ _ _ _ => pe_callB call_abs (by rfl) ma (by decide +kernel) (pa_cons (pv 2) pa_nil)))
        (pa_cons (pe_op op_add (pv 1) pe_int) pa_nil)))))), ?_⟩
    refine ⟨.ref a, rfl, a, rfl, ⟨_, hS⟩, for_list (xs := ns.map V.int) (fun i σ H' => ∃ (z : Int) (y : Option V), σ = [some (.ref a), some (.int z), y] ∧ 0 ≤ z ∧ z < 1000003 ∧ H' = H) ⟨7, none, rfl, by omega, by omega, rfl⟩ ?_ ?_ ?_⟩
    · rintro i σ H' _ ⟨z, y, _, _, _, rfl⟩
      exact hS
    · rintro i x σ H' hx ⟨z, y, rfl, h0, h1, rfl⟩
      obtain ⟨n, _, rfl⟩ := List.mem_map.mp (List.mem_of_getElem? hx)
      refine ⟨_, rfl, _, _, rfl, rfl, .inl ⟨by omega, by omega⟩, _, rfl, _, _, rfl, rfl, .inl ⟨_, rfl, _, _, rfl, rfl, by show (0 : Int) < 1000003; decide, ?_⟩⟩
      exact ⟨_, _, rfl, Int.emod_nonneg _ (by decide), Int.emod_lt_of_pos _ (by decide), rfl⟩
    · rintro σ H' ⟨z, y, rfl, h0, h1, rfl⟩
      refine ⟨.ref a, rfl, a, rfl, ⟨_, hS⟩, fun D nD => ?_⟩
      refine lc_list (xs := ns.map V.int) (fun i H2 => H2 = upd H' D (.lst (((ns.take i).map fun n => if n < 0 then -n else n).map V.int))) rfl ?_ ?_ ?_
      · rintro i H2 _ rfl
        exact Same.seq (fun b o e => by rw [upd_ne (ne_of_none e nD)]; exact e) hS
      · rintro i x H2 hx rfl
        have hx2 : (ns.map V.int)[i]? = some x := hx
        rw [List.getElem?_map] at hx2
        obtain ⟨n, hn, rfl⟩ := Option.map_eq_some_iff.mp hx2
        refine ⟨rfl, ?_⟩
        refine ⟨_, rfl, n, rfl, _, upd_same, ?_, ?_⟩
        · rw [List.length_map, List.length_map, List.length_take, sizeLine_eq]
          omega
        · rw [upd_upd, List.take_add_one, hn, List.map_append, List.map_append]
          rfl
      · rintro H2 rfl
        refine ⟨_, rfl, _, _, rfl, rfl, by show 2 ≤ sizeLine; rw [sizeLine_eq]; decide, fun p np => ?_⟩
        have eD : (upd H' D (.lst (((ns.take (ns.map V.int).length).map fun n => if n < 0 then -n else n).map V.int))) D = _ := upd_same
        have nDp : D ≠ p := ne_of_none eD np
        have np0 : H' p = none := by
          rw [← np, upd_ne (Ne.symm nDp)]
        refine q _ p D (fun b o e => ?_) np0 nD ⟨⟨z + 1, (ns.take (ns.map V.int).length).map fun n => if n < 0 then -n else n, upd_same, ?_, ?_, ?_, by omega, by omega⟩, Ne.symm nDp⟩
        · rw [upd_ne (ne_of_none e np0), upd_ne (ne_of_none e nD)]
          exact e
        · rw [upd_ne nDp]
          exact upd_same
        · rw [List.length_map, List.length_take]
          omega
        · intro m hm
          obtain ⟨n, _, rfl⟩ := List.mem_map.mp hm
          exact abs_nn n
end
end K20
namespace K20
open PySem PySem.Spec PyProof.Rows L2
theorem seq0 {n : Nat} (h : 0 < n) : seqIndex? 0 n = some 0 := by
  unfold seqIndex?
  simp [h]
theorem ix0 {n : Nat} (h : 0 < n) : ixN n 0 = some 0 := by
  unfold ixN
  simp [h]
section
variable {P : Program} {w : World} {K : PySem.W.Frag} {mg : Str → Option Value} {base : Heap}
/-! ### _law_draw -/
def spDraw : Sp := fun vs H Q _ => ∃ (p c : Addr) (m : Nat), vs = [.ref p, .int (m : Int)] ∧ m < 1000000000 ∧ StateAt H p c ∧
  ∀ H' (r : Nat), (m = 0 → r = 0) → (0 < m → r < m) → StateAt H' p c → Drawn p c H H' → Q (.int (r : Int)) H'
theorem ok_draw {f : Addr} {fd : FuncData} (F : Fun K "_law_draw" "_law_draw" sDraw f fd) (ml : mg "len" = none) (mi : mg "int" = none) : FnOk P w K mg base CX0 1 f fd ["state", "many"] spDraw := by
  refine F.ok scDraw (fun vs H Q E h => ?_) (fun cdv A outer s H vs Q E hr h => ?_)
  · obtain ⟨p, c, m, rfl, _⟩ := h
    rfl
  · obtain ⟨p, c, m, rfl, hm, ⟨⟨seed, ms, hp, hc, hl, h0, s0, s1⟩, npc⟩, q⟩ := h
    refine ⟨_, (pss_cons (ps_if (pt_cmpR op_lt (pv 1) pe_int (nomark _)) (pss_one (ps_ret pe_int)) pss_nil)
      (pss_cons (ps_set (i := 2) scDraw.nd rfl (.inl rfl) (pe_ix ix_list (pv 0) pe_int (fun _ _ => rfl)))
      (pss_cons (ps_while PassesOwn.never (PW.pt (pw_and (pt_cmpR op_gt (pe_callB call_len_seq (by rfl) ml PySem.boot_len (pa_cons (pv 2) pa_nil)) pe_int (nomark _)) (pw_and1 (pt_cmpR op_eq (pe_ix ix_list (pv 2) pe_int (fun _ _ => rfl)) pe_int (nomark _)))))
        (pss_one (ps_expr (pe_bm PySem.F.plainAttrs_list PySem.F.slot_list_pop PySem.F.type_list_pop mt_popAt (pv 2) (pa_cons pe_int pa_nil)))))
      (pss_cons (ps_if (pt_cmpR op_gt (pe_callB call_len_seq (by rfl) ml PySem.boot_len (pa_cons (pv 2) pa_nil)) pe_int (nomark _))
        (pss_cons (ps_set (i := 3) scDraw.nd rfl (.inl rfl) (pe_ix ix_list (pv 2) pe_int (fun _ _ => rfl)))
      (pss_cons (ps_asg (pe_op op_fdiv (pv 3) (pv 1)) (pg_sub (pv 2) pe_int set_list))
      (pss_one (ps_ret (pe_op op_mod (pe_callTy call_int1 (by rfl) mi (by decide +kernel) (pa_cons (pv 3) pa_nil)) (pv 1)))))) pss_nil)
      (pss_cons (ps_set (i := 4) scDraw.nd rfl (.inl rfl) (pe_op op_mod (pe_callTy call_int1 (by rfl) mi (by decide +kernel) (pa_cons (pe_op op_add (pe_op op_mul (pe_ix ix_list (pv 0) pe_int (fun _ _ => rfl)) pe_int) pe_int) pa_nil)) pe_int))
      (pss_cons (ps_asg (pv 4) (pg_sub (pv 0) pe_int set_list))
      (pss_one (ps_ret (pe_op op_mod (pe_callTy call_int1 (by rfl) mi (by decide +kernel) (pa_cons (pe_op op_fdiv (pv 4) pe_int) pa_nil)) (pv 1)))))))))), ?_⟩
    refine ⟨_, rfl, _, _, rfl, rfl, _, rfl, ite2 (fun h1 => ?_) (fun h1 => ?_)⟩
    · have m0 : m = 0 := by
        have := of_decide_eq_true h1
        omega
      exact q H 0 (fun _ => rfl) (fun z => by omega) ⟨⟨seed, ms, hp, hc, hl, h0, s0, s1⟩, npc⟩ drawn_refl
    have mp : 0 < m := by
      have : ¬ ((m : Nat) : Int) < 1 := fun z => h1 (decide_eq_true z)
      omega
    refine ⟨_, rfl, p, _, 0, _, rfl, rfl, SqL.of hp, atI_nat (j := 0) rfl, ?_⟩
    -- while
    refine ⟨fun n σ H' => ∃ ks : List Int, σ = [some (.ref p), some (.int (m : Int)), some (.ref c), none, none] ∧ n = ks.length ∧ Drawn p c H H' ∧ H' p = some (.lst [.ref c, .int seed]) ∧ H' c = some (.lst (ks.map V.int)) ∧ ks.length ≤ 63 ∧ (∀ k ∈ ks, 0 ≤ k),
      ⟨ms.length, ms, rfl, rfl, drawn_refl, hp, hc, hl, h0⟩, ?_⟩
    rintro n σ H' ⟨ks, rfl, rfl, dr, hp', hc', hl', h0'⟩
    refine ⟨_, rfl, c, _, rfl, .inl (SqL.of hc'), _, _, rfl, rfl, _, rfl, ite2 (fun h2 => ?_) (fun h2 => ?_)⟩
    · obtain ⟨k, r, rfl⟩ : ∃ k r, ks = k :: r := by
        cases ks with
        | nil =>
          have := of_decide_eq_true h2
          exact absurd this (by decide)
        | cons k r => exact ⟨k, r, rfl⟩
      refine ⟨_, rfl, c, _, 0, .int k, rfl, rfl, SqL.of hc', atI_nat (j := 0) rfl, rfl, _, rfl, ite2 (fun h3 => ?_) (fun h3 => ?_)⟩
      · refine ⟨fun σ' H2 => ∃ n', n' < (k :: r).length ∧ ∃ ks : List Int, σ' = [some (.ref p), some (.int (m : Int)), some (.ref c), none, none] ∧ n' = ks.length ∧ Drawn p c H H2 ∧ H2 p = some (.lst [.ref c, .int seed]) ∧ H2 c = some (.lst (ks.map V.int)) ∧ ks.length ≤ 63 ∧ (∀ k ∈ ks, 0 ≤ k), fun _ _ z => z, ?_⟩
        refine ⟨_, rfl, .inl ⟨rfl, _, SqL.of hc'⟩, c, _, 0, 0, .int k, rfl, rfl, hc', by decide, by decide, ?_, rfl, ?_⟩
        · show seqIndex? 0 ((k :: r).map V.int).length = some 0
          show seqIndex? 0 (((k :: r).map V.int).length) = some 0
          exact seq0 (by rw [List.length_map, List.length_cons]; omega)
        · refine ⟨r.length, by show r.length < r.length + 1; omega, r, rfl, rfl, ?_, ?_, ?_, ?_, ?_⟩
          · intro b h1 h2
            rw [upd_ne h2]
            exact dr b h1 h2
          · rw [upd_ne npc]
            exact hp'
          · exact upd_same
          · have : r.length + 1 ≤ 63 := hl'
            omega
          · exact fun x hx => h0' x (List.mem_cons_of_mem _ hx)
      · have kne : k ≠ 0 := fun z => h3 (by rw [z]; rfl)
        have k1 := h0' k List.mem_cons_self
        refine ⟨_, rfl, c, _, rfl, .inl (SqL.of hc'), _, _, rfl, rfl, _, rfl, ite2 (fun _ => ?_) (fun z => absurd h2 z)⟩
        refine ⟨_, rfl, c, _, 0, .int k, rfl, rfl, SqL.of hc', atI_nat (j := 0) rfl, ?_⟩
        refine ⟨_, rfl, _, rfl, k, (m : Int), rfl, rfl, ⟨by omega, by omega⟩, _, rfl, c, _, 0, 0, rfl, rfl, hc', ix0 (by rw [List.length_map, List.length_cons]; omega), ?_⟩
        refine ⟨_, rfl, .inl ⟨_, rfl, _, rfl, _, _, rfl, rfl, by show (0 : Int) < (m : Int); omega, ?_⟩⟩
        have e1 : k % (m : Int) = (((k % (m : Int)).toNat : Nat) : Int) := (Int.toNat_of_nonneg (Int.emod_nonneg _ (by omega))).symm
        have e2 := Int.emod_lt_of_pos k (show (0 : Int) < (m : Int) by omega)
        show Q (V.int (k % (m : Int))) _
        rw [e1]
        refine q _ _ (fun z => by omega) (fun _ => by omega) ⟨⟨seed, (k / (m : Int)) :: r, ?_, ?_, hl', ?_, s0, s1⟩, npc⟩ ?_
        · rw [upd_ne npc]
          exact hp'
        · exact upd_same
        · intro x hx
          rcases List.mem_cons.mp hx with rfl | hx
          · exact Int.ediv_nonneg k1 (by omega)
          · exact h0' x (List.mem_cons_of_mem _ hx)
        · intro b z1 z2
          rw [upd_ne z2]
          exact dr b z1 z2
    · have e0 : ks = [] := by
        cases ks with
        | nil => rfl
        | cons k r => exact absurd (decide_eq_true (show (0 : Int) < (((k :: r).map V.int).length : Int) by rw [List.length_map, List.length_cons]; omega)) h2
      subst e0
      refine ⟨_, rfl, c, _, rfl, .inl (SqL.of hc'), _, _, rfl, rfl, _, rfl, ite2 (fun z => absurd z h2) (fun _ => ?_)⟩
      refine ⟨_, rfl, p, _, 1, _, rfl, rfl, SqL.of hp', atI_nat (j := 1) rfl, _, _, rfl, rfl, .inl ⟨by omega, by omega⟩, _, _, rfl, rfl, .inl ⟨_, rfl, _, _, rfl, rfl, by show (0 : Int) < 2147483647; decide, ?_⟩⟩
      have b0 := Int.emod_nonneg (seed * 48271 + 12345) (show (2147483647 : Int) ≠ 0 by decide)
      have b1 := Int.emod_lt_of_pos (seed * 48271 + 12345) (show (0 : Int) < 2147483647 by decide)
      refine ⟨_, rfl, _, rfl, p, _, 1, 1, rfl, rfl, hp', rfl, ?_⟩
      refine ⟨_, rfl, _, _, rfl, rfl, ⟨by show (0 : Int) < 64; decide, by show (64 : Int) < 1073741824; decide⟩, .inl ⟨_, rfl, _, rfl, _, _, rfl, rfl, by show (0 : Int) < (m : Int); omega, ?_⟩⟩
      have e1 : (seed * 48271 + 12345) % 2147483647 / 64 % (m : Int) = ((((seed * 48271 + 12345) % 2147483647 / 64 % (m : Int)).toNat : Nat) : Int) := (Int.toNat_of_nonneg (Int.emod_nonneg _ (by omega))).symm
      have e2 := Int.emod_lt_of_pos ((seed * 48271 + 12345) % 2147483647 / 64) (show (0 : Int) < (m : Int) by omega)
      show Q (V.int ((seed * 48271 + 12345) % 2147483647 / 64 % (m : Int))) _
      rw [e1]
      refine q _ _ (fun z => by omega) (fun _ => by omega) ⟨⟨(seed * 48271 + 12345) % 2147483647, [], upd_same, ?_, by decide, (fun x hx => nomatch hx), b0, by omega⟩, npc⟩ ?_
      · rw [upd_ne (Ne.symm npc)]
        exact hc'
      · intro b z1 z2
        rw [upd_ne z1]
        exact dr b z1 z2
/-! ### _law_pick -/
def spPick : Sp := fun vs H Q _ => ∃ (p c a : Addr) (xs : List V), vs = [.ref p, .ref a] ∧ H a = some (.lst xs) ∧ a ≠ p ∧ a ≠ c ∧ 0 < xs.length ∧ xs.length < 1000 ∧ StateAt H p c ∧
  ∀ H' v, v ∈ xs → StateAt H' p c → Drawn p c H H' → Q v H'
theorem ok_pick {f fD : Addr} {fd fdD : FuncData} (F : Fun K "_law_pick" "_law_pick" sPick f fd) (GD : FnOk P w K mg base CX0 1 fD fdD ["state", "many"] spDraw) (bD : Binds K fdD ["state", "many"] []) (gD : mg "_law_draw" = some (.ref fD)) (kD : PySem.W.keepIn K (.ref fD) = true) (ml : mg "len" = none) :
    FnOk P w K mg base CX0 2 f fd ["state", "row"] spPick := by
  refine F.ok scPick (fun vs H Q E h => ?_) (fun cdv A outer s H vs Q E hr h => ?_)
  · obtain ⟨p, c, a, xs, rfl, _⟩ := h
    rfl
  · obtain ⟨p, c, a, xs, rfl, ha, np, nc, l0, l1, st, q⟩ := h
    refine ⟨_, (pss_one (ps_ret (pe_ix ix_list (pv 1) (pe_call GD hr (by rfl) gD kD bD .nil pass0 (pa_cons (pv 0) (pa_cons (pe_callB call_len_seq (by rfl) ml PySem.boot_len (pa_cons (pv 1) pa_nil)) pa_nil))) (fun _ _ => rfl)))), ?_⟩
    refine ⟨_, rfl, _, rfl, _, rfl, a, _, rfl, .inl (SqL.of ha), p, c, xs.length, rfl, by omega, st, fun H' r _ hr2 st' dr => ?_⟩
    have lt := hr2 l0
    have ha' : H' a = some (.lst xs) := (dr a np nc).trans ha
    refine ⟨a, _, _, xs[r], rfl, rfl, SqL.of ha', atI_nat (List.getElem?_eq_getElem lt), ?_⟩
    exact q H' _ (List.getElem_mem lt) st' dr
end
end K20
namespace GX
open PySem PySem.Spec PyProof.Rows L2 GxR
theorem wk_str {d : Bool} {x : Str} {g : TG} {tt : TT} {te : TE} {vs : List Nat} {σ : L2.St} {Qe Qd : Hp → Prop} {H0 : Hp} (Pv : Nat → Hp → Prop) (h0 : Pv 0 H0)
    (hs : ∀ i c H, x.cps.toList[i]? = some c → Pv i H → g (.str ⟨#[c]⟩) (wipe σ vs) H fun σ2 H2 => wipe σ2 vs = wipe σ vs ∧ tt σ2 H2 fun b H3 =>
      if b = true then te σ2 H3 fun y H4 => ∃ c, y = .bl c ∧ if c = d then Qd H4 else Pv (i + 1) H4 else Pv (i + 1) H3) (hd : ∀ H, Pv x.cps.toList.length H → Qe H) :
    ∃ W : Nat → Nat → Hp → Prop, (∃ m, W 0 m H0) ∧ Wk d (Its x) g tt te vs σ W Qe Qd := by
  refine ⟨fun i m H => m = x.cps.size - i ∧ i ≤ x.cps.size ∧ Pv i H, ⟨x.cps.size, by simp, Nat.zero_le _, h0⟩, ?_⟩
  rintro i m H ⟨rfl, hi, p⟩
  by_cases hlt : i < x.cps.size
  · refine .inr ⟨hlt, Pv (i + 1), fun H' p' => ⟨x.cps.size - (i + 1), by omega, rfl, hlt, p'⟩, fun v H' y => ?_⟩
    obtain ⟨rfl, c, hc, rfl⟩ := y
    exact hs i c _ (by rw [Array.getElem?_toList]; exact hc) p
  · have e : i = x.cps.size := by omega
    subst e
    exact .inl ⟨Nat.le_refl _, hd H p⟩
theorem wk_tup {d : Bool} {K : PySem.W.Frag} {a : Addr} {xs : List V} {g : TG} {tt : TT} {te : TE} {vs : List Nat} {σ : L2.St} {Qe Qd : Hp → Prop} {H0 : Hp} (Pv : Nat → Hp → Prop) (h0 : Pv 0 H0) (hl : ∀ i H, i ≤ xs.length → Pv i H → SqT K H a xs)
    (hs : ∀ i x H, xs[i]? = some x → Pv i H → g x (wipe σ vs) H fun σ2 H2 => wipe σ2 vs = wipe σ vs ∧ tt σ2 H2 fun b H3 =>
      if b = true then te σ2 H3 fun y H4 => ∃ c, y = .bl c ∧ if c = d then Qd H4 else Pv (i + 1) H4 else Pv (i + 1) H3) (hd : ∀ H, Pv xs.length H → Qe H) :
    ∃ W : Nat → Nat → Hp → Prop, (∃ m, W 0 m H0) ∧ Wk d (Itt K a) g tt te vs σ W Qe Qd := by
  refine ⟨fun i m H => m = xs.length - i ∧ i ≤ xs.length ∧ Pv i H, ⟨xs.length, by simp, Nat.zero_le _, h0⟩, ?_⟩
  rintro i m H ⟨rfl, hi, p⟩
  have q := hl i H hi p
  by_cases hlt : i < xs.length
  · refine .inr ⟨⟨xs, xs[i], q, by simp [hlt]⟩, Pv (i + 1), fun H' p' => ⟨xs.length - (i + 1), by omega, rfl, hlt, p'⟩, fun x H' y => ?_⟩
    obtain ⟨rfl, e⟩ := y
    exact hs i x _ (e xs q) p
  · have e : i = xs.length := by omega
    subst e
    exact .inl ⟨⟨xs, q, Nat.le_refl _⟩, hd H p⟩
end GX
namespace K20
open PySem PySem.Spec PyProof.Rows L2 TL TR QR
open GxR (TabB TabG Tabbed)
theorem same_upd {a : Addr} {H H1 : Hp} {o : HO} (e : H a = none) (s : Same H H1) : Same H (upd H1 a o) := fun b o' e' => by
  rw [upd_ne (ne_of_none e' e)]
  exact s b o' e'
theorem same_trans {H H1 H2 : Hp} (a : Same H H1) (b : Same H1 H2) : Same H H2 := fun x o e => b x o (a x o e)
theorem same_none {H H' : Hp} {a : Addr} (s : Same H H') (n : H' a = none) : H a = none := by
  cases e : H a with
  | none => rfl
  | some o =>
    rw [s a o e] at n
    cases n
theorem same_refl {H : Hp} : Same H H := fun _ _ e => e
theorem ixN_nat {n j : Nat} (h : j < n) : ixN n (j : Int) = some j := by
  unfold ixN
  rw [if_pos (by omega), if_pos (by omega), Int.toNat_natCast]
theorem atI_s {α : Type} {xs : List α} {j : Nat} {v : α} (h : xs[j + 1]? = some v) : atI xs ((j : Int) + 1) = some v := by
  have := atI_nat h
  rw [Int.natCast_add] at this
  exact this
theorem atI_end {α : Type} {xs : List α} {v : α} (h : xs[xs.length - 1]? = some v) : atI xs (-1) = some v := by
  have l := (List.getElem?_eq_some_iff.mp h).1
  have e : ixN xs.length (-1) = some (xs.length - 1) := by
    unfold ixN
    rw [if_neg (by decide), if_pos (by omega)]
    congr 1
    omega
  unfold atI
  rw [e]
  exact h
def lnV : Option Str → V
  | none => .non
  | some s => .str s
theorem scal_ln (x : Option Str) (y : Str) : scal (lnV x) (.str y) = true := by
  cases x <;> rfl
theorem dec_ln (x : Option Str) (y : Str) : decide (lnV x = V.str y) = decide (x = some y) := by
  cases x with
  | none => rfl
  | some s =>
    rw [Bool.eq_iff_iff]
    simp [lnV]
theorem get_map {α β : Type} {l : List α} {i : Nat} {x : α} (f : α → β) (h : l[i]? = some x) : (l.map f)[i]? = some (f x) := by
  rw [List.getElem?_map, h]
  rfl
theorem map_get {α β : Type} {l : List α} {i : Nat} {y : β} {f : α → β} (h : (l.map f)[i]? = some y) : ∃ x, l[i]? = some x ∧ f x = y := by
  rw [List.getElem?_map] at h
  exact Option.map_eq_some_iff.mp h
theorem flat_rep {α : Type} (n : Nat) (v : α) : (List.replicate n [v]).flatten = (List.range n).map fun _ => v := by
  induction n with
  | zero => rfl
  | succ n ih =>
    rw [List.replicate_succ', List.flatten_append, ih, List.range_succ, List.map_append]
    rfl
theorem upd_self {H : Hp} {a : Addr} {o : HO} (h : H a = some o) : upd H a o = H := by
  funext b
  by_cases e : b = a
  · rw [e, upd_same, h]
  · rw [upd_ne e]
theorem to_dec {R : Bool → Hp → Prop} {H : Hp} {x y : Bool} (e : x = y) (h : R y H) : R x H := e ▸ h
/-- a test of two parts; the parts may lay new objects -/
theorem and_dec {tA tB : TT} {σ : L2.St} {H : Hp} {Q : Bool → Hp → Prop} {p q : Prop} [Decidable p] [Decidable q] (hA : ∀ R : Bool → Hp → Prop, (∀ H1, Same H H1 → R (decide p) H1) → tA σ H R)
    (hB : p → ∀ H1, Same H H1 → ∀ R : Bool → Hp → Prop, (∀ H2, Same H1 H2 → R (decide q) H2) → tB σ H1 R) (h : ∀ H2, Same H H2 → Q (decide (p ∧ q)) H2) : tAnd tA tB σ H Q := by
  refine hA _ fun H1 s1 => ?_
  by_cases hp : p
  · show if decide p = true then tB σ H1 Q else Q false H1
    rw [decide_eq_true hp]
    refine hB hp H1 s1 Q fun H2 s2 => ?_
    have := h H2 (same_trans s1 s2)
    rw [show decide (p ∧ q) = decide q from decide_eq_decide.mpr ⟨fun z => z.2, fun z => ⟨hp, z⟩⟩] at this
    exact this
  · show if decide p = true then tB σ H1 Q else Q false H1
    rw [decide_eq_false hp]
    have := h H1 s1
    rw [decide_eq_false (fun z => hp z.1)] at this
    exact this
theorem or_dec {tA tB : TT} {σ : L2.St} {H : Hp} {Q : Bool → Hp → Prop} {p q : Prop} [Decidable p] [Decidable q] (hA : ∀ R : Bool → Hp → Prop, (∀ H1, Same H H1 → R (decide p) H1) → tA σ H R)
    (hB : ¬ p → ∀ H1, Same H H1 → ∀ R : Bool → Hp → Prop, (∀ H2, Same H1 H2 → R (decide q) H2) → tB σ H1 R) (h : ∀ H2, Same H H2 → Q (decide (p ∨ q)) H2) : tOr tA tB σ H Q := by
  refine hA _ fun H1 s1 => ?_
  by_cases hp : p
  · show if decide p = true then Q true H1 else tB σ H1 Q
    rw [decide_eq_true hp]
    have := h H1 s1
    rw [decide_eq_true (Or.inl hp)] at this
    exact this
  · show if decide p = true then Q true H1 else tB σ H1 Q
    rw [decide_eq_false hp]
    refine hB hp H1 s1 Q fun H2 s2 => ?_
    have := h H2 (same_trans s1 s2)
    rw [show decide (p ∨ q) = decide q from decide_eq_decide.mpr ⟨fun z => z.resolve_left hp, fun z => .inr z⟩] at this
    exact this
theorem dec_lt {α : Type} {i : Nat} {l : List α} {f : α → V} : decide ((i : Int) < ((l.map f).length : Int)) = decide (i < l.length) := by
  rw [List.length_map]
  exact decide_eq_decide.mpr Int.ofNat_lt
theorem dec_nat {i j : Nat} : decide ((V.int (i : Int)) = V.int (j : Int)) = decide (i = j) := by
  refine decide_eq_decide.mpr ⟨fun z => ?_, fun z => by rw [z]⟩
  have := V.int.inj z
  omega
/-- draws were made, objects laid: the state stands, the others stand as before -/
structure Dr (p c : Addr) (H H' : Hp) : Prop where
  st : StateAt H' p c
  ou : ∀ b o, b ≠ p → b ≠ c → H b = some o → H' b = some o
theorem StateAt.some {H : Hp} {p c : Addr} (s : StateAt H p c) : (∃ o, H p = Option.some (.lst o)) ∧ ∃ o, H c = Option.some (.lst o) := by
  obtain ⟨⟨seed, ms, h1, h2, _⟩, _⟩ := s
  exact ⟨⟨_, h1⟩, ⟨_, h2⟩⟩
theorem StateAt.same {H H' : Hp} {p c : Addr} (s : StateAt H p c) (k : Same H H') : StateAt H' p c := s.mono (fun o e => k _ _ e) (fun o e => k _ _ e)
theorem Dr.refl {p c : Addr} {H : Hp} (s : StateAt H p c) : Dr p c H H := ⟨s, fun _ _ _ _ e => e⟩
theorem Dr.trans {p c : Addr} {H H1 H2 : Hp} (a : Dr p c H H1) (b : Dr p c H1 H2) : Dr p c H H2 := ⟨b.st, fun x o n1 n2 e => b.ou x o n1 n2 (a.ou x o n1 n2 e)⟩
theorem Dr.same {p c : Addr} {H H1 H2 : Hp} (a : Dr p c H H1) (b : Same H1 H2) : Dr p c H H2 := ⟨a.st.same b, fun x o n1 n2 e => b _ _ (a.ou x o n1 n2 e)⟩
theorem Dr.drawn {p c : Addr} {H H1 H2 : Hp} (a : Dr p c H H1) (s : StateAt H2 p c) (b : Drawn p c H1 H2) : Dr p c H H2 := ⟨s, fun x o n1 n2 e => (b x n1 n2).trans (a.ou x o n1 n2 e)⟩
theorem Dr.none {p c : Addr} {H H1 : Hp} {x : Addr} (a : Dr p c H H1) (n : H1 x = none) : H x = none := by
  obtain ⟨⟨_, e1⟩, ⟨_, e2⟩⟩ := a.st.some
  cases e : H x with
  | none => rfl
  | some o =>
    have n1 : x ≠ p := fun z => by rw [z, e1] at n; cases n
    have n2 : x ≠ c := fun z => by rw [z, e2] at n; cases n
    rw [a.ou x o n1 n2 e] at n
    cases n
theorem StateAt.new {H : Hp} {p c x : Addr} (s : StateAt H p c) (n : H x = none) : x ≠ p ∧ x ≠ c := by
  obtain ⟨⟨_, e1⟩, ⟨_, e2⟩⟩ := s.some
  exact ⟨fun z => (by rw [z, e1] at n; cases n), fun z => (by rw [z, e2] at n; cases n)⟩
theorem StateAt.upd {H : Hp} {p c x : Addr} {o : HO} (s : StateAt H p c) (n : x ≠ p ∧ x ≠ c) : StateAt (L2.upd H x o) p c :=
  s.mono (fun q e => by rw [upd_ne (Ne.symm n.1)]; exact e) (fun q e => by rw [upd_ne (Ne.symm n.2)]; exact e)
theorem tab_ne {H : Hp} {T b : Addr} {o : HO} (g : TabG H T) (e : H b = some o) (n : ∀ ps, o ≠ .tbl ps) : b ≠ T := fun z => by
  obtain ⟨ps, e1, _⟩ := g
  rw [z, e1] at e
  exact n ps (Option.some.inj e).symm
theorem tab_same {H H' : Hp} {T : Addr} (g : TabG H T) (s : Same H H') : TabG H' T := by
  obtain ⟨ps, e1, e2⟩ := g
  exact ⟨ps, s _ _ e1, e2⟩
/-- the tables stand -/
def TG (Ts : List Addr) (H : Hp) : Prop := ∀ T ∈ Ts, TabG H T
/-- what stood stands, but for the tables -/
structure Tbs (Ts : List Addr) (H H' : Hp) : Prop where
  sm : ∀ b o, b ∉ Ts → H b = some o → H' b = some o
  tg : TG Ts H'
theorem TG.same {Ts : List Addr} {H H' : Hp} (g : TG Ts H) (s : Same H H') : TG Ts H' := fun T hT => tab_same (g T hT) s
theorem Tbs.refl {Ts : List Addr} {H : Hp} (g : TG Ts H) : Tbs Ts H H := ⟨fun _ _ _ e => e, g⟩
theorem Tbs.trans {Ts : List Addr} {H H1 H2 : Hp} (a : Tbs Ts H H1) (b : Tbs Ts H1 H2) : Tbs Ts H H2 := ⟨fun x o n e => b.sm x o n (a.sm x o n e), b.tg⟩
theorem Tbs.same {Ts : List Addr} {H H1 H2 : Hp} (a : Tbs Ts H H1) (s : Same H1 H2) : Tbs Ts H H2 := ⟨fun x o n e => s _ _ (a.sm x o n e), a.tg.same s⟩
theorem Tbs.tab {Ts : List Addr} {H H1 H2 : Hp} {T : Addr} (a : Tbs Ts H H1) (t : Tabbed T H1 H2) (hT : T ∈ Ts) : Tbs Ts H H2 := by
  refine ⟨fun x o n e => (t.2 x fun z => n (z ▸ hT)).trans (a.sm x o n e), fun T' h' => ?_⟩
  by_cases z : T' = T
  · rw [z]
    exact t.1
  · obtain ⟨ps, e1, e2⟩ := a.tg T' h'
    exact ⟨ps, (t.2 T' z).trans e1, e2⟩
theorem Tbs.at_ {Ts : List Addr} {H H' : Hp} (h : Tbs Ts H H') (g : TG Ts H) {b : Addr} {o : HO} (e : H b = some o) (n : ∀ ps, o ≠ .tbl ps) : H' b = some o := h.sm b o (fun z => tab_ne (g b z) e n rfl) e
theorem Tbs.tup {Ts : List Addr} {H H' : Hp} (h : Tbs Ts H H') (g : TG Ts H) {b : Addr} {xs : List V} (e : H b = some (.tup xs)) : H' b = some (.tup xs) := h.at_ g e fun _ z => nomatch z
theorem Tbs.lst {Ts : List Addr} {H H' : Hp} (h : Tbs Ts H H') (g : TG Ts H) {b : Addr} {xs : List V} (e : H b = some (.lst xs)) : H' b = some (.lst xs) := h.at_ g e fun _ z => nomatch z
end K20
/-! names, vertices, changes, patches: on the heap, as data (k20's, k21's) -/
namespace K20
open PySem PySem.Spec PyProof.Rows L2 TL TR QR
open GxR (TabB TabG Tabbed)
abbrev Lab := Nat × List Nat
abbrev Nm := Lab × List Nat × Nat
abbrev Vx := Nm × Nat × Nat
abbrev Path := List (List Nat)
abbrev strV (ps : Path) : List V := ps.map fun l => V.str (Sg l)
def LabAt (H : Hp) (v : V) (l : Lab) : Prop := ∃ la ma, v = .ref la ∧ H la = some (.tup [.str "label", .int (l.1 : Int), .ref ma]) ∧ H ma = some (.tup (l.2.map fun m : Nat => V.int (m : Int)))
def NmAt (H : Hp) (v : V) (n : Nm) : Prop := ∃ na lv, v = .ref na ∧ H na = some (.tup [lv, .str (Sg n.2.1), .int (n.2.2 : Int)]) ∧ LabAt H lv n.1
def VxAt (H : Hp) (v : V) (x : Vx) : Prop := ∃ va nv, v = .ref va ∧ H va = some (.tup [nv, .int (x.2.1 : Int), .int (x.2.2 : Int)]) ∧ NmAt H nv x.1
def PathAt (H : Hp) (v : V) (ps : Path) : Prop := ∃ a, v = .ref a ∧ H a = some (.tup (strV ps))
def OptR {α : Type} (R : Hp → V → α → Prop) (H : Hp) (v : V) : Option α → Prop
  | none => v = .non
  | some a => R H v a
/-- tuples stay -/
def TS (H H' : Hp) : Prop := ∀ b xs, H b = some (.tup xs) → H' b = some (.tup xs)
theorem TS.refl {H : Hp} : TS H H := fun _ _ e => e
theorem TS.trans {H H1 H2 : Hp} (a : TS H H1) (b : TS H1 H2) : TS H H2 := fun x o e => b x o (a x o e)
theorem Same.ts {H H' : Hp} (s : Same H H') : TS H H' := fun b _ e => s b _ e
theorem Tbs.ts {Ts : List Addr} {H H' : Hp} (t : Tbs Ts H H') (g : TG Ts H) : TS H H' := fun b _ e => t.tup g e
theorem Dr.ts {p c : Addr} {H H' : Hp} (st : StateAt H p c) (d : Dr p c H H') : TS H H' := fun b xs e => by
  obtain ⟨⟨_, e1⟩, ⟨_, e2⟩⟩ := st.some
  exact d.ou b _ (fun z => by rw [z, e1] at e; cases e) (fun z => by rw [z, e2] at e; cases e) e
theorem LabAt.ts {H H' : Hp} {v : V} {l : Lab} (s : TS H H') : LabAt H v l → LabAt H' v l := fun ⟨la, ma, e, a, b⟩ => ⟨la, ma, e, s _ _ a, s _ _ b⟩
theorem NmAt.ts {H H' : Hp} {v : V} {l : Nm} (s : TS H H') : NmAt H v l → NmAt H' v l := fun ⟨na, lv, e, a, b⟩ => ⟨na, lv, e, s _ _ a, b.ts s⟩
theorem VxAt.ts {H H' : Hp} {v : V} {l : Vx} (s : TS H H') : VxAt H v l → VxAt H' v l := fun ⟨na, lv, e, a, b⟩ => ⟨na, lv, e, s _ _ a, b.ts s⟩
theorem PathAt.ts {H H' : Hp} {v : V} {l : Path} (s : TS H H') : PathAt H v l → PathAt H' v l := fun ⟨a, e, h⟩ => ⟨a, e, s _ _ h⟩
theorem OptR.ts {α : Type} {R : Hp → V → α → Prop} {H H' : Hp} {v : V} {o : Option α} (s : TS H H') (h : ∀ a, R H v a → R H' v a) : OptR R H v o → OptR R H' v o := fun z => by
  cases o with
  | none => exact z
  | some a => exact h a z
theorem sg_num (n : Nat) : Str.ofString (toString (n : Int)) = Sg (numL n) := ext_tl (tl_num n)
theorem num_five {n : Nat} (h : n ≤ 99999) : (numL n).length ≤ 5 := numL_len (by decide) (by omega)
theorem log2_60 {i : Int} {n : Nat} (h : i.natAbs < 2 ^ n) (hn : 0 < n) (h2 : n ≤ 1920) : i.natAbs.log2 < 1920 := Nat.lt_of_lt_of_le (PySem.Flt.log2_lt_of hn h) h2
theorem num_small {n : Nat} (h : n ≤ 99999) : (n : Int).natAbs.log2 < 1920 := log2_60 (n := 60) (by omega) (by decide) (by decide)
section
open PySem.W (Datum)
def labD (l : Lab) : PyData := .tuple [.str "label", .int (l.1 : Int), .tuple (l.2.map fun m : Nat => PyData.int (m : Int))]
def pathD (ps : Path) : PyData := .tuple (ps.map fun l => PyData.str (Sg l))
def nmD (n : Nm) : PyData := .tuple [labD n.1, .str (Sg n.2.1), .int (n.2.2 : Int)]
def vxD (x : Vx) : PyData := .tuple [nmD x.1, .int (x.2.1 : Int), .int (x.2.2 : Int)]
variable {K : PySem.W.Frag} {H : Hp} {v : V}
theorem dp_ints : ∀ l : List Nat, DpAll K H (l.map fun m : Nat => V.int (m : Int)) (l.map fun m : Nat => PyData.int (m : Int))
  | [] => .nil
  | m :: r => .cons (.int _) (dp_ints r)
theorem dp_strs : ∀ l : Path, DpAll K H (strV l) (l.map fun l => PyData.str (Sg l))
  | [] => .nil
  | m :: r => .cons (.str _) (dp_strs r)
theorem dp_lab {l : Lab} : LabAt H v l → Dp K H v (labD l) := fun ⟨la, ma, e, a, b⟩ => by
  rw [e]
  exact .tup (SqT.of a) (.cons (.str _) (.cons (.int _) (.cons (.tup (SqT.of b) (dp_ints _)) .nil)))
theorem dp_path {ps : Path} : PathAt H v ps → Dp K H v (pathD ps) := fun ⟨a, e, h⟩ => by
  rw [e]
  exact .tup (SqT.of h) (dp_strs _)
theorem dp_nm {n : Nm} : NmAt H v n → Dp K H v (nmD n) := fun ⟨na, lv, e, a, b⟩ => by
  rw [e]
  exact .tup (SqT.of a) (.cons (dp_lab b) (.cons (.str _) (.cons (.int _) .nil)))
theorem dp_vx {n : Vx} : VxAt H v n → Dp K H v (vxD n) := fun ⟨na, lv, e, a, b⟩ => by
  rw [e]
  exact .tup (SqT.of a) (.cons (dp_nm b) (.cons (.int _) (.cons (.int _) .nil)))
theorem plain_ints : ∀ l : List Nat, PyData.plainAll (l.map fun m : Nat => PyData.int (m : Int)) = true ∧ PyData.depthAll (l.map fun m : Nat => PyData.int (m : Int)) = 0
  | [] => ⟨rfl, rfl⟩
  | m :: r => by
    obtain ⟨a, b⟩ := plain_ints r
    exact ⟨by simp [PyData.plainAll, PyData.plain, a], by simp [PyData.depthAll, PyData.depth, b]⟩
theorem plain_strs : ∀ l : Path, PyData.plainAll (l.map fun l => PyData.str (Sg l)) = true ∧ PyData.depthAll (l.map fun l => PyData.str (Sg l)) = 0
  | [] => ⟨rfl, rfl⟩
  | m :: r => by
    obtain ⟨a, b⟩ := plain_strs r
    exact ⟨by simp [PyData.plainAll, PyData.plain, a], by simp [PyData.depthAll, PyData.depth, b]⟩
end
/-! ### the data: equality and order -/
mutual
def solid : PyData → Bool
  | .int _ => true
  | .str _ => true
  | .list xs => solidAll xs
  | .tuple xs => solidAll xs
  | _ => false
def solidAll : List PyData → Bool
  | [] => true
  | x :: xs => solid x && solidAll xs
end
theorem solidAll_cons {x : PyData} {xs : List PyData} (h : solidAll (x :: xs) = true) : solid x = true ∧ solidAll xs = true := by
  rw [solidAll, Bool.and_eq_true] at h
  exact h
mutual
theorem eqv_solid : ∀ d e : PyData, solid d = true → solid e = true → PyData.eqv d e = true → d = e
  | .none, _, h, _, _ => by simp [solid] at h
  | .bool _, _, h, _, _ => by simp [solid] at h
  | .dict _, _, h, _, _ => by simp [solid] at h
  | .int i, e, h, g, q => by
    cases e with
    | int j => simp [PyData.eqv] at q; rw [q]
    | bool b => simp [solid] at g
    | _ => simp [PyData.eqv] at q
  | .str i, e, h, g, q => by
    cases e with
    | str j => simp [PyData.eqv] at q; rw [q]
    | _ => simp [PyData.eqv] at q
  | .list xs, e, h, g, q => by
    cases e with
    | list ys =>
      rw [PyData.eqv] at q
      rw [eqvAll_solid xs ys (by rw [solid] at h; exact h) (by rw [solid] at g; exact g) q]
    | _ => simp [PyData.eqv] at q
  | .tuple xs, e, h, g, q => by
    cases e with
    | tuple ys =>
      rw [PyData.eqv] at q
      rw [eqvAll_solid xs ys (by rw [solid] at h; exact h) (by rw [solid] at g; exact g) q]
    | _ => simp [PyData.eqv] at q
theorem eqvAll_solid : ∀ xs ys : List PyData, solidAll xs = true → solidAll ys = true → PyData.eqvAll xs ys = true → xs = ys
  | [], [], _, _, _ => rfl
  | [], _ :: _, _, _, q => by simp [PyData.eqvAll] at q
  | _ :: _, [], _, _, q => by simp [PyData.eqvAll] at q
  | x :: xs, y :: ys, h, g, q => by
    obtain ⟨h1, h2⟩ := solidAll_cons h
    obtain ⟨g1, g2⟩ := solidAll_cons g
    rw [PyData.eqvAll, Bool.and_eq_true] at q
    rw [eqv_solid x y h1 g1 q.1, eqvAll_solid xs ys h2 g2 q.2]
end
mutual
theorem solid_plain : ∀ d : PyData, solid d = true → d.plain = true
  | .none, h => by simp [solid] at h
  | .bool _, h => by simp [solid] at h
  | .dict _, h => by simp [solid] at h
  | .int _, _ => rfl
  | .str _, _ => rfl
  | .list xs, h => by
    rw [PyData.plain]
    exact solidAll_plain xs (by rw [solid] at h; exact h)
  | .tuple xs, h => by
    rw [PyData.plain]
    exact solidAll_plain xs (by rw [solid] at h; exact h)
theorem solidAll_plain : ∀ xs : List PyData, solidAll xs = true → PyData.plainAll xs = true
  | [], _ => rfl
  | x :: xs, h => by
    obtain ⟨h1, h2⟩ := solidAll_cons h
    rw [PyData.plainAll, solid_plain x h1, solidAll_plain xs h2]
    rfl
end
theorem eqv_iff {d e : PyData} (h : solid d = true) (g : solid e = true) : PyData.eqv d e = true ↔ d = e :=
  ⟨eqv_solid d e h g, fun z => by rw [← z]; exact PySem.SeqAt.eqv_refl_plain d (solid_plain d h)⟩
theorem solid_ints : ∀ l : List Nat, solidAll (l.map fun m : Nat => PyData.int (m : Int)) = true
  | [] => rfl
  | m :: r => by rw [List.map_cons, solidAll, solid_ints r]; rfl
theorem solid_strs : ∀ l : Path, solidAll (l.map fun l => PyData.str (Sg l)) = true
  | [] => rfl
  | m :: r => by rw [List.map_cons, solidAll, solid_strs r]; rfl
theorem solid_lab (l : Lab) : solid (labD l) = true := by
  unfold labD
  simp [solid, solidAll, solid_ints]
theorem solid_path (l : Path) : solid (pathD l) = true := by
  unfold pathD
  rw [solid]
  exact solid_strs l
theorem solid_nm (n : Nm) : solid (nmD n) = true := by
  unfold nmD
  simp [solid, solidAll, solid_lab]
theorem solid_vx (n : Vx) : solid (vxD n) = true := by
  unfold vxD
  simp [solid, solidAll, solid_nm]
theorem ints_inj : ∀ {a b : List Nat}, (a.map fun m : Nat => PyData.int (m : Int)) = (b.map fun m : Nat => PyData.int (m : Int)) → a = b
  | [], [], _ => rfl
  | [], _ :: _, h => by cases h
  | _ :: _, [], h => by cases h
  | x :: a, y :: b, h => by
    have h1 := (List.cons.inj h).1
    have h2 := ints_inj (List.cons.inj h).2
    have h3 := PyData.int.inj h1
    rw [h2, show x = y by omega]
theorem sg_inj {a b : List Nat} (h : Sg a = Sg b) : a = b := congrArg tl h
theorem strs_inj : ∀ {a b : Path}, (a.map fun l => PyData.str (Sg l)) = (b.map fun l => PyData.str (Sg l)) → a = b
  | [], [], _ => rfl
  | [], _ :: _, h => by cases h
  | _ :: _, [], h => by cases h
  | x :: a, y :: b, h => by
    rw [strs_inj (List.cons.inj h).2, sg_inj (PyData.str.inj (List.cons.inj h).1)]
theorem lab_inj {a b : Lab} (h : labD a = labD b) : a = b := by
  unfold labD at h
  injection h with h
  injection h with _ h
  injection h with h1 h
  injection h with h2 _
  injection h1 with h1
  injection h2 with h2
  exact Prod.ext (by omega) (ints_inj h2)
theorem path_inj {a b : Path} (h : pathD a = pathD b) : a = b := by
  unfold pathD at h
  injection h with h
  exact strs_inj h
theorem nm_inj {a b : Nm} (h : nmD a = nmD b) : a = b := by
  unfold nmD at h
  injection h with h
  injection h with h0 h
  injection h with h1 h
  injection h with h2 _
  injection h1 with h1
  injection h2 with h2
  exact Prod.ext (lab_inj h0) (Prod.ext (sg_inj h1) (by show a.2.2 = b.2.2; omega))
theorem vx_inj {a b : Vx} (h : vxD a = vxD b) : a = b := by
  unfold vxD at h
  injection h with h
  injection h with h0 h
  injection h with h1 h
  injection h with h2 _
  injection h1 with h1
  injection h2 with h2
  exact Prod.ext (nm_inj h0) (Prod.ext (by show a.2.1 = b.2.1; omega) (by show a.2.2 = b.2.2; omega))
theorem vxs_inj : ∀ {a b : List Vx}, a.map vxD = b.map vxD → a = b
  | [], [], _ => rfl
  | [], _ :: _, h => by cases h
  | _ :: _, [], h => by cases h
  | x :: a, y :: b, h => by rw [vxs_inj (List.cons.inj h).2, vx_inj (List.cons.inj h).1]
theorem solid_vxs : ∀ l : List Vx, solidAll (l.map vxD) = true
  | [] => rfl
  | m :: r => by rw [List.map_cons, solidAll, solid_vx, solid_vxs r]; rfl
theorem alike_ints : ∀ a b : List Nat, PySem.W.alikeAll (a.map fun m : Nat => PyData.int (m : Int)) (b.map fun m : Nat => PyData.int (m : Int)) = true
  | [], _ => by rw [List.map_nil, PySem.W.alikeAll]
  | _ :: _, [] => by rw [List.map_nil, List.map_cons, PySem.W.alikeAll]
  | x :: a, y :: b => by
    rw [List.map_cons, List.map_cons, PySem.W.alikeAll, alike_ints a b]
    simp [PySem.W.alike]
theorem alike_vx (a b : Vx) : PySem.W.alike (vxD a) (vxD b) = true := by
  unfold vxD nmD labD
  simp [PySem.W.alike, PySem.W.alikeAll, alike_ints]
theorem vx_depth (x : Vx) : (vxD x).depth = 4 := by
  unfold vxD nmD labD
  simp [PyData.depth, PyData.depthAll, (plain_ints x.1.1.2).2]
/-- before, in the order of the vertices -/
def vlt (a b : Vx) : Bool := PySem.W.dataLt (vxD a) (vxD b)
theorem vlt_total {a b : Vx} (ne : a ≠ b) (h : vlt b a = false) : vlt a b = true := by
  cases h2 : vlt a b with
  | true => rfl
  | false =>
    exfalso
    have e : PySem.W.keyToks (vxD a) = PySem.W.keyToks (vxD b) := PyProof.Rows.lex_total _ _ h2 h
    have q : PyData.eqv (vxD a) (vxD b) = false := Bool.eq_false_iff.mpr fun z => ne (vx_inj ((eqv_iff (solid_vx a) (solid_vx b)).mp z))
    have t := (PySem.W.toks_eqv _ _ (alike_vx a b)).2 q [] [Sum.inl 0]
    rw [e, PySem.W.lex_pre] at t
    rw [PyProof.Rows.lex_irrefl] at t
    cases t
/-- ascending, each once -/
def Ris (xs : List Vx) : Prop := ∀ (k : Nat) (x y : Vx), xs[k]? = some x → xs[k + 1]? = some y → vlt x y = true
theorem ris_sort {bs : List Vx} (nd : bs.Nodup) : Ris (bs.mergeSort (PySem.W.dataLe false vxD)) := by
  have pw := PySem.W.sort_pairwise (le := PySem.W.dataLe false vxD) (PySem.W.sortLe_total _ _ _) bs
  have pm := List.mergeSort_perm bs (PySem.W.dataLe false vxD)
  have nd2 : (bs.mergeSort (PySem.W.dataLe false vxD)).Nodup := pm.nodup_iff.mpr nd
  generalize bs.mergeSort (PySem.W.dataLe false vxD) = ys at pw nd2
  intro k x y hx hy
  obtain ⟨lx, ex⟩ := List.getElem?_eq_some_iff.mp hx
  obtain ⟨ly, ey⟩ := List.getElem?_eq_some_iff.mp hy
  have a := List.pairwise_iff_getElem.mp pw k (k + 1) lx ly (by omega)
  have b := List.pairwise_iff_getElem.mp nd2 k (k + 1) lx ly (by omega)
  rw [ex, ey] at a b
  refine vlt_total b ?_
  have a : (!vlt y x) = true := a
  rwa [Bool.not_eq_true'] at a
inductive Chg where
  | add (p : Path)
  | back (n : Nm)
  | drop (f : Vx) (xs : List Vx)
  | move (f : Vx) (p : Path) (xs : List Vx)
  | cut (f : Vx) (xs : List Vx)
  | order (f a b : Vx)
  | lines (f : Vx) (xs ys : List Vx) (ts : Path)
structure Pat where
  nm : Nm
  chs : List Chg
  note : List Nat
open PySem.W (EachIs)
/-- tuples stay, and the lists at N -/
structure LF (N : Addr → Prop) (H H' : Hp) : Prop where
  ts : TS H H'
  ls : ∀ a xs, N a → H a = some (.lst xs) → H' a = some (.lst xs)
theorem LF.refl {N : Addr → Prop} {H : Hp} : LF N H H := ⟨TS.refl, fun _ _ _ e => e⟩
theorem LF.trans {N : Addr → Prop} {H H1 H2 : Hp} (a : LF N H H1) (b : LF N H1 H2) : LF N H H2 := ⟨a.ts.trans b.ts, fun x o n e => b.ls x o n (a.ls x o n e)⟩
theorem Same.lf {N : Addr → Prop} {H H' : Hp} (s : Same H H') : LF N H H' := ⟨Same.ts s, fun a xs _ e => s _ _ e⟩
theorem Tbs.lf {N : Addr → Prop} {Ts : List Addr} {H H' : Hp} (t : Tbs Ts H H') (g : TG Ts H) : LF N H H' := ⟨t.ts g, fun a xs _ e => t.lst g e⟩
theorem Dr.lf {p c : Addr} {N : Addr → Prop} {H H' : Hp} (st : StateAt H p c) (d : Dr p c H H') (h : ∀ a, N a → a ≠ p ∧ a ≠ c) : LF N H H' := ⟨d.ts st, fun a xs n e => d.ou a _ (h a n).1 (h a n).2 e⟩
theorem lf_upd {N : Addr → Prop} {H : Hp} {D : Addr} {xs : List V} {o : HO} (e : H D = some (.lst xs)) (h : ¬ N D) : LF N H (upd H D o) := by
  refine ⟨fun b ys q => ?_, fun a ys n q => ?_⟩
  · rw [upd_ne fun z => (by rw [z, e] at q; cases q)]
    exact q
  · rw [upd_ne (fun z : a = D => h (by rw [← z]; exact n))]
    exact q
theorem each_vx {H H' : Hp} (s : TS H H') {ws : List V} {xs : List Vx} (e : EachIs (VxAt H) ws xs) : EachIs (VxAt H') ws xs := e.mono fun _ _ h => h.ts s
theorem each_at {α : Type} {R : V → α → Prop} : ∀ {ws : List V} {xs : List α} {i : Nat} {w : V}, EachIs R ws xs → ws[i]? = some w → ∃ x, xs[i]? = some x ∧ R w x
  | _, _, 0, _, .cons h _, e => ⟨_, rfl, by cases e; exact h⟩
  | _, _, i + 1, _, .cons _ t, e => each_at (i := i) t e
theorem each_get {α : Type} {R : V → α → Prop} : ∀ {ws : List V} {xs : List α} {i : Nat} {x : α}, EachIs R ws xs → xs[i]? = some x → ∃ w, ws[i]? = some w ∧ R w x
  | _, _, 0, _, .cons h _, e => ⟨_, rfl, by cases e; exact h⟩
  | _, _, i + 1, _, .cons _ t, e => each_get (i := i) t e
theorem each_app {α : Type} {R : V → α → Prop} {ws us : List V} {xs ys : List α} : EachIs R ws xs → EachIs R us ys → EachIs R (ws ++ us) (xs ++ ys)
  | .nil, b => b
  | .cons h t, b => .cons h (each_app t b)
theorem each_snoc {α : Type} {R : V → α → Prop} {ws : List V} {xs : List α} {w : V} {x : α} (a : EachIs R ws xs) (b : R w x) : EachIs R (ws ++ [w]) (xs ++ [x]) := each_app a (.cons b .nil)
theorem each_rep {α : Type} {R : V → α → Prop} {w : V} {x : α} (h : R w x) : ∀ n : Nat, EachIs R (List.replicate n w) (List.replicate n x)
  | 0 => .nil
  | n + 1 => .cons h (each_rep h n)
def VsAt (N : Addr → Prop) (H : Hp) (v : V) (xs : List Vx) : Prop := ∃ a ws, v = .ref a ∧ N a ∧ H a = some (.lst ws) ∧ EachIs (VxAt H) ws xs
def TsAt (N : Addr → Prop) (H : Hp) (v : V) (ts : Path) : Prop := ∃ a, v = .ref a ∧ N a ∧ H a = some (.lst (strV ts))
def ChgAt (N : Addr → Prop) (H : Hp) (v : V) : Chg → Prop
  | .add p => ∃ a pv, v = .ref a ∧ H a = some (.tup [.str "add", pv]) ∧ PathAt H pv p
  | .back n => ∃ a nv, v = .ref a ∧ H a = some (.tup [.str "back", nv]) ∧ NmAt H nv n
  | .drop f xs => ∃ a fv xv, v = .ref a ∧ H a = some (.tup [.str "drop", fv, xv]) ∧ VxAt H fv f ∧ VsAt N H xv xs
  | .move f p xs => ∃ a fv pv xv, v = .ref a ∧ H a = some (.tup [.str "move", fv, pv, xv]) ∧ VxAt H fv f ∧ PathAt H pv p ∧ VsAt N H xv xs
  | .cut f xs => ∃ a fv xv, v = .ref a ∧ H a = some (.tup [.str "cut", fv, xv]) ∧ VxAt H fv f ∧ VsAt N H xv xs
  | .order f x y => ∃ a fv xv yv, v = .ref a ∧ H a = some (.tup [.str "order", fv, xv, yv]) ∧ VxAt H fv f ∧ VxAt H xv x ∧ VxAt H yv y
  | .lines f xs ys ts => ∃ a fv xv yv tv, v = .ref a ∧ H a = some (.tup [.str "lines", fv, xv, yv, tv]) ∧ VxAt H fv f ∧ VsAt N H xv xs ∧ VsAt N H yv ys ∧ TsAt N H tv ts
def PatAt (N : Addr → Prop) (H : Hp) (v : V) (P : Pat) : Prop := ∃ a nv ca cs, v = .ref a ∧ H a = some (.tup [.str "patch", nv, .ref ca, .str (Sg P.note)]) ∧ NmAt H nv P.nm ∧ N ca ∧ H ca = some (.lst cs) ∧ EachIs (ChgAt N H) cs P.chs
section
variable {N N' : Addr → Prop} {H H' : Hp} {v : V}
theorem VsAt.lf (s : LF N H H') {xs : List Vx} : VsAt N H v xs → VsAt N H' v xs := fun ⟨a, ws, e, n, h, q⟩ => ⟨a, ws, e, n, s.ls _ _ n h, each_vx s.ts q⟩
theorem VsAt.imp (k : ∀ a, N a → N' a) {xs : List Vx} : VsAt N H v xs → VsAt N' H v xs := fun ⟨a, ws, e, n, h, q⟩ => ⟨a, ws, e, k a n, h, q⟩
theorem TsAt.lf (s : LF N H H') {xs : Path} : TsAt N H v xs → TsAt N H' v xs := fun ⟨a, e, n, h⟩ => ⟨a, e, n, s.ls _ _ n h⟩
theorem TsAt.imp (k : ∀ a, N a → N' a) {xs : Path} : TsAt N H v xs → TsAt N' H v xs := fun ⟨a, e, n, h⟩ => ⟨a, e, k a n, h⟩
theorem ChgAt.lf (s : LF N H H') {c : Chg} (h : ChgAt N H v c) : ChgAt N H' v c := by
  cases c with
  | add p => exact let ⟨a, pv, e, h1, h2⟩ := h; ⟨a, pv, e, s.ts _ _ h1, h2.ts s.ts⟩
  | back p => exact let ⟨a, pv, e, h1, h2⟩ := h; ⟨a, pv, e, s.ts _ _ h1, h2.ts s.ts⟩
  | drop f xs => exact let ⟨a, fv, xv, e, h1, h2, h3⟩ := h; ⟨a, fv, xv, e, s.ts _ _ h1, h2.ts s.ts, h3.lf s⟩
  | move f p xs => exact let ⟨a, fv, pv, xv, e, h1, h2, h3, h4⟩ := h; ⟨a, fv, pv, xv, e, s.ts _ _ h1, h2.ts s.ts, h3.ts s.ts, h4.lf s⟩
  | cut f xs => exact let ⟨a, fv, xv, e, h1, h2, h3⟩ := h; ⟨a, fv, xv, e, s.ts _ _ h1, h2.ts s.ts, h3.lf s⟩
  | order f x y => exact let ⟨a, fv, pv, xv, e, h1, h2, h3, h4⟩ := h; ⟨a, fv, pv, xv, e, s.ts _ _ h1, h2.ts s.ts, h3.ts s.ts, h4.ts s.ts⟩
  | lines f xs ys ts => exact let ⟨a, fv, xv, yv, tv, e, h1, h2, h3, h4, h5⟩ := h; ⟨a, fv, xv, yv, tv, e, s.ts _ _ h1, h2.ts s.ts, h3.lf s, h4.lf s, h5.lf s⟩
theorem ChgAt.imp (k : ∀ a, N a → N' a) {c : Chg} (h : ChgAt N H v c) : ChgAt N' H v c := by
  cases c with
  | add p => exact h
  | back p => exact h
  | drop f xs => exact let ⟨a, fv, xv, e, h1, h2, h3⟩ := h; ⟨a, fv, xv, e, h1, h2, h3.imp k⟩
  | move f p xs => exact let ⟨a, fv, pv, xv, e, h1, h2, h3, h4⟩ := h; ⟨a, fv, pv, xv, e, h1, h2, h3, h4.imp k⟩
  | cut f xs => exact let ⟨a, fv, xv, e, h1, h2, h3⟩ := h; ⟨a, fv, xv, e, h1, h2, h3.imp k⟩
  | order f x y => exact h
  | lines f xs ys ts => exact let ⟨a, fv, xv, yv, tv, e, h1, h2, h3, h4, h5⟩ := h; ⟨a, fv, xv, yv, tv, e, h1, h2, h3.imp k, h4.imp k, h5.imp k⟩
theorem PatAt.lf (s : LF N H H') {P : Pat} : PatAt N H v P → PatAt N H' v P := fun ⟨a, nv, ca, cs, e, h1, h2, n, h3, h4⟩ => ⟨a, nv, ca, cs, e, s.ts _ _ h1, h2.ts s.ts, n, s.ls _ _ n h3, h4.mono fun _ _ h => h.lf s⟩
theorem PatAt.imp (k : ∀ a, N a → N' a) {P : Pat} : PatAt N H v P → PatAt N' H v P := fun ⟨a, nv, ca, cs, e, h1, h2, n, h3, h4⟩ => ⟨a, nv, ca, cs, e, h1, h2, k _ n, h3, h4.mono fun _ _ h => h.imp k⟩
end
/-! ### as data -/
def vsD (xs : List Vx) : PyData := .list (xs.map vxD)
def tsD (ts : Path) : PyData := .list (ts.map fun l => PyData.str (Sg l))
def chgD : Chg → PyData
  | .add p => .tuple [.str "add", pathD p]
  | .back n => .tuple [.str "back", nmD n]
  | .drop f xs => .tuple [.str "drop", vxD f, vsD xs]
  | .move f p xs => .tuple [.str "move", vxD f, pathD p, vsD xs]
  | .cut f xs => .tuple [.str "cut", vxD f, vsD xs]
  | .order f x y => .tuple [.str "order", vxD f, vxD x, vxD y]
  | .lines f xs ys ts => .tuple [.str "lines", vxD f, vsD xs, vsD ys, tsD ts]
def patD (P : Pat) : PyData := .tuple [.str "patch", nmD P.nm, .list (P.chs.map chgD), .str (Sg P.note)]
section
variable {N : Addr → Prop} {K : PySem.W.Frag} {H : Hp} {v : V}
theorem dp_each {α : Type} {R : V → α → Prop} {f : α → PyData} (h : ∀ v x, R v x → Dp K H v (f x)) : ∀ {ws : List V} {xs : List α}, EachIs R ws xs → DpAll K H ws (xs.map f)
  | _, _, .nil => .nil
  | _, _, .cons a t => .cons (h _ _ a) (dp_each h t)
theorem dp_vs {xs : List Vx} : VsAt N H v xs → Dp K H v (vsD xs) := fun ⟨a, ws, e, _, h, q⟩ => by
  rw [e]
  exact .lst (SqL.of h) (dp_each (fun _ _ h => dp_vx h) q)
theorem dp_ts {xs : Path} : TsAt N H v xs → Dp K H v (tsD xs) := fun ⟨a, e, _, h⟩ => by
  rw [e]
  exact .lst (SqL.of h) (dp_strs _)
theorem dp_chg {c : Chg} (h : ChgAt N H v c) : Dp K H v (chgD c) := by
  cases c with
  | add p => obtain ⟨a, pv, e, h1, h2⟩ := h; rw [e]; exact .tup (SqT.of h1) (.cons (.str _) (.cons (dp_path h2) .nil))
  | back p => obtain ⟨a, pv, e, h1, h2⟩ := h; rw [e]; exact .tup (SqT.of h1) (.cons (.str _) (.cons (dp_nm h2) .nil))
  | drop f xs => obtain ⟨a, fv, xv, e, h1, h2, h3⟩ := h; rw [e]; exact .tup (SqT.of h1) (.cons (.str _) (.cons (dp_vx h2) (.cons (dp_vs h3) .nil)))
  | move f p xs => obtain ⟨a, fv, pv, xv, e, h1, h2, h3, h4⟩ := h; rw [e]; exact .tup (SqT.of h1) (.cons (.str _) (.cons (dp_vx h2) (.cons (dp_path h3) (.cons (dp_vs h4) .nil))))
  | cut f xs => obtain ⟨a, fv, xv, e, h1, h2, h3⟩ := h; rw [e]; exact .tup (SqT.of h1) (.cons (.str _) (.cons (dp_vx h2) (.cons (dp_vs h3) .nil)))
  | order f x y => obtain ⟨a, fv, pv, xv, e, h1, h2, h3, h4⟩ := h; rw [e]; exact .tup (SqT.of h1) (.cons (.str _) (.cons (dp_vx h2) (.cons (dp_vx h3) (.cons (dp_vx h4) .nil))))
  | lines f xs ys ts => obtain ⟨a, fv, xv, yv, tv, e, h1, h2, h3, h4, h5⟩ := h; rw [e]; exact .tup (SqT.of h1) (.cons (.str _) (.cons (dp_vx h2) (.cons (dp_vs h3) (.cons (dp_vs h4) (.cons (dp_ts h5) .nil)))))
theorem dp_pat {P : Pat} : PatAt N H v P → Dp K H v (patD P) := fun ⟨a, nv, ca, cs, e, h1, h2, _, h3, h4⟩ => by
  rw [e]
  exact .tup (SqT.of h1) (.cons (.str _) (.cons (dp_nm h2) (.cons (.lst (SqL.of h3) (dp_each (fun _ _ h => dp_chg h) h4)) (.cons (.str _) .nil))))
end
theorem solid_vs (xs : List Vx) : solid (vsD xs) = true := by
  unfold vsD
  rw [solid]
  exact solid_vxs xs
theorem solid_ts (xs : Path) : solid (tsD xs) = true := by
  unfold tsD
  rw [solid]
  exact solid_strs xs
theorem solid_chg (c : Chg) : solid (chgD c) = true := by
  cases c <;> simp [chgD, solid, solidAll, solid_vs, solid_ts, solid_vx, solid_nm, solid_path]
theorem solid_map {α : Type} {f : α → PyData} (h : ∀ x, solid (f x) = true) : ∀ xs : List α, solidAll (xs.map f) = true
  | [] => rfl
  | x :: xs => by rw [List.map_cons, solidAll, h x, solid_map h xs]; rfl
theorem solid_pat (P : Pat) : solid (patD P) = true := by
  simp [patD, solid, solidAll, solid_nm, solid_map solid_chg]
theorem vs_injD {a b : List Vx} (h : vsD a = vsD b) : a = b := vxs_inj (PyData.list.inj h)
theorem ts_injD {a b : Path} (h : tsD a = tsD b) : a = b := strs_inj (PyData.list.inj h)
theorem chg_inj {a b : Chg} (h : chgD a = chgD b) : a = b := by
  have n1 : ∀ {x y : String}, x ≠ y → (Str.ofString x = Str.ofString y → False) → True := fun _ _ => trivial
  cases a <;> cases b <;> simp only [chgD, PyData.tuple.injEq, List.cons.injEq, PyData.str.injEq, and_true, reduceCtorEq, and_false, false_and] at h
  all_goals first
    | (exact absurd h.1 (by decide +kernel))
    | skip
  · rw [path_inj h.2]
  · rw [nm_inj h.2]
  · rw [vx_inj h.2.1, vs_injD h.2.2]
  · rw [vx_inj h.2.1, path_inj h.2.2.1, vs_injD h.2.2.2]
  · rw [vx_inj h.2.1, vs_injD h.2.2]
  · rw [vx_inj h.2.1, vx_inj h.2.2.1, vx_inj h.2.2.2]
  · rw [vx_inj h.2.1, vs_injD h.2.2.1, vs_injD h.2.2.2.1, ts_injD h.2.2.2.2]
theorem map_injD {α : Type} {f : α → PyData} (hf : ∀ a b, f a = f b → a = b) : ∀ {xs ys : List α}, xs.map f = ys.map f → xs = ys
  | [], [], _ => rfl
  | [], _ :: _, h => by cases h
  | _ :: _, [], h => by cases h
  | x :: a, y :: b, h => by rw [map_injD hf (List.cons.inj h).2, hf _ _ (List.cons.inj h).1]
theorem pat_inj {a b : Pat} (h : patD a = patD b) : a = b := by
  obtain ⟨n, cs, t⟩ := a
  obtain ⟨n', cs', t'⟩ := b
  simp only [patD, PyData.tuple.injEq, List.cons.injEq, PyData.str.injEq, PyData.list.injEq, and_true, true_and] at h
  rw [nm_inj h.1, map_injD (fun a b => chg_inj) h.2.1, sg_inj h.2.2]
theorem pat_eqv (a b : Pat) : PyData.eqv (patD a) (patD b) = true ↔ a = b := (eqv_iff (solid_pat a) (solid_pat b)).trans ⟨pat_inj, fun z => by rw [z]⟩
theorem strs_eqv (a b : Path) : PyData.eqv (tsD a) (tsD b) = true ↔ a = b := (eqv_iff (solid_ts a) (solid_ts b)).trans ⟨ts_injD, fun z => by rw [z]⟩
/-! ### their repr -/
structure Rp (b k : Nat) (d : PyData) : Prop where
  l : d.leavesShort 8 = true
  s : d.showable = true
  h : d.hasDict = false
  b : d.bulk ≤ b
  k : d.depth ≤ k
structure RpAll (b k : Nat) (ds : List PyData) : Prop where
  l : PyData.leavesShortAll 8 ds = true
  s : PyData.showableAll ds = true
  h : PyData.hasDictAll ds = false
  b : PyData.bulkAll ds ≤ b
  k : PyData.depthAll ds ≤ k
theorem RpAll.nil {b k : Nat} : RpAll b k [] := ⟨rfl, rfl, rfl, Nat.zero_le _, Nat.zero_le _⟩
theorem RpAll.cons {a b k : Nat} {d : PyData} {ds : List PyData} (x : Rp a k d) (y : RpAll b k ds) : RpAll (a + 1 + b) k (d :: ds) :=
  ⟨by rw [PyData.leavesShortAll, x.l, y.l]; rfl, by rw [PyData.showableAll, x.s, y.s]; rfl, by rw [PyData.hasDictAll, x.h, y.h]; rfl, by rw [PyData.bulkAll]; have := x.b; have := y.b; omega, by rw [PyData.depthAll]; have := x.k; have := y.k; omega⟩
theorem RpAll.lst {b k : Nat} {ds : List PyData} (y : RpAll b k ds) : Rp b (k + 1) (.list ds) :=
  ⟨by rw [PyData.leavesShort]; exact y.l, by rw [PyData.showable]; exact y.s, by rw [PyData.hasDict]; exact y.h, by rw [PyData.bulk]; exact y.b, by rw [PyData.depth]; have := y.k; omega⟩
theorem RpAll.tup {b k : Nat} {ds : List PyData} (y : RpAll b k ds) : Rp b (k + 1) (.tuple ds) :=
  ⟨by rw [PyData.leavesShort]; exact y.l, by rw [PyData.showable]; exact y.s, by rw [PyData.hasDict]; exact y.h, by rw [PyData.bulk]; exact y.b, by rw [PyData.depth]; have := y.k; omega⟩
theorem RpAll.map {α : Type} {b k : Nat} {f : α → PyData} : ∀ {xs : List α}, (∀ x ∈ xs, Rp b k (f x)) → RpAll ((b + 1) * xs.length) k (xs.map f)
  | [], _ => .nil
  | x :: xs, h => by
    have a := RpAll.cons (h x List.mem_cons_self) (RpAll.map fun y hy => h y (List.mem_cons_of_mem _ hy))
    rw [List.length_cons, Nat.mul_succ, Nat.add_comm]
    exact a
theorem Rp.mono {a b j k : Nat} {d : PyData} (x : Rp a j d) (h1 : a ≤ b) (h2 : j ≤ k) : Rp b k d := ⟨x.l, x.s, x.h, Nat.le_trans x.b h1, Nat.le_trans x.k h2⟩
theorem RpAll.mono {a b j k : Nat} {d : List PyData} (x : RpAll a j d) (h1 : a ≤ b) (h2 : j ≤ k) : RpAll b k d := ⟨x.l, x.s, x.h, Nat.le_trans x.b h1, Nat.le_trans x.k h2⟩
theorem rp_str {l : List Nat} {b k : Nat} (h : ∀ c ∈ l, c ≤ 122 ∨ c ≤ 126) (hl : l.length ≤ b) : Rp b k (.str (Sg l)) :=
  ⟨by
    rw [PyData.leavesShort, List.all_eq_true]
    exact fun c hc => decide_eq_true (by have := h c hc; omega), rfl, rfl, hl, Nat.zero_le _⟩
theorem rp_kw {s : String} {b k : Nat} (h1 : (PyData.str (Str.ofString s)).leavesShort 8 = true) (h2 : (Str.ofString s).cps.size ≤ b) : Rp b k (.str (Str.ofString s)) := ⟨h1, rfl, rfl, h2, Nat.zero_le _⟩
theorem rp_int {n b k : Nat} (h : n ≤ 99999) : Rp b k (.int (n : Int)) := by
  have e : PyData.shown (.int (n : Int)) = Str.ofString (toString (n : Int)) := rfl
  refine ⟨?_, ?_, rfl, Nat.zero_le _, Nat.zero_le _⟩
  · rw [PyData.leavesShort, e, sg_num]
    exact decide_eq_true (Nat.le_trans (num_five h) (by decide))
  · rw [PyData.showable]
    exact decide_eq_true (num_small h)
end K20
/-! rules of my own: < of data, not in, sorted of data, d.get of a written dict, s.startswith -/
namespace GX
open PySem PySem.Spec PyProof.Rows L2 GxR
section
variable {X : Cx}
def rLtP (K : PySem.W.Frag) : R2 := fun x y H Q => ∃ d e, Dp K H x d ∧ Dp K H y e ∧ PySem.W.alike d e = true ∧ d ≠ .none ∧ d.depth ≤ 60 ∧ Q (.bl (PySem.W.dataLt d e)) H
theorem op_ltP (hu : X.A.units + 64 < cLine) : OpR X (compareOp .Lt) (rLtP X.K) := fun pins s σ H x y v u Q I rx ry ⟨d, e, hd, he, al, nn, dd, q⟩ => by
  obtain ⟨as, r1⟩ := Dp.reads I d x v hd rx
  obtain ⟨bs, r2⟩ := Dp.reads I e y u he ry
  exact PySem.W.lt_data r1 r2 al nn (by omega) ⟨.bl _, H, I, rfl, q⟩
/-- x not in xs, xs a list of plain data -/
def rNotInP (K : PySem.W.Frag) : R2 := fun x y H Q => ∃ (xs : List PyData) (d : PyData), Dp K H y (.list xs) ∧ Dp K H x d ∧ PyData.plainAll xs = true ∧ d.plain = true ∧ d.depth ≤ 60 ∧ Q (.bl (!xs.any fun y => PyData.eqv y d)) H
theorem op_notInP (hu : X.A.units + 64 < cLine) : OpR X (compareOp .NotIn) (rNotInP X.K) := fun pins s σ H x y v u Q I rx ry ⟨xs, d, hy, hx, px, pd, dd, q⟩ => by
  obtain ⟨as, r1⟩ := Dp.reads I _ y u hy ry
  obtain ⟨bs, r2⟩ := Dp.reads I d x v hx rx
  exact PySem.SeqAt.notIn_list_data r1 r2 px pd (by omega) ⟨.bl _, H, I, rfl, q⟩
theorem each_pull {β : Type} {R : V → β → Prop} : ∀ {us : List Value} {bs : List β}, PySem.W.EachIs (fun u b => ∃ v, RelV v u ∧ R v b) us bs → ∃ vs, Vals vs us ∧ PySem.W.EachIs R vs bs
  | _, _, .nil => ⟨[], .nil, .nil⟩
  | _, _, .cons ⟨v, r, h⟩ t => let ⟨vs, a, b⟩ := each_pull t; ⟨v :: vs, .cons r a, .cons h b⟩
theorem each_push {β : Type} {R : V → β → Prop} : ∀ {us : List Value} {vs : List V} {bs : List β}, Vals vs us → PySem.W.EachIs R vs bs → PySem.W.EachIs (fun u b => ∃ v, RelV v u ∧ R v b) us bs
  | _, _, _, .nil, .nil => .nil
  | _, _, _, .cons r a, .cons h b => .cons ⟨_, r, h⟩ (each_push a b)
/-- sorted(xs), xs a list of data that can be compared -/
def rSortedD (K : PySem.W.Frag) : List V → Hp → VK → Prop := fun vs H Q => ∃ (a : Addr) (xs : List V) (β : Type) (bs : List β) (enc : β → PyData) (R : V → β → Prop), vs = [V.ref a] ∧ SqL K H a xs ∧ PySem.W.EachIs R xs bs ∧ (∀ v b, R v b → Dp K H v (enc b)) ∧
  PySem.W.AllAlike (bs.map enc) ∧ PySem.W.Sortable (bs.map enc) ∧ (∀ b ∈ bs, (enc b).depth ≤ 60) ∧ ∀ ys p, PySem.W.EachIs R ys (bs.mergeSort (PySem.W.dataLe false enc)) → H p = none → Q (.ref p) (upd H p (.lst ys))
theorem cr_sortedD (hu : X.A.units + 64 < cLine) : CallR X (.builtin "sorted") (rSortedD X.K) := by
  intro pins s σ H vs us Q I r h
  obtain ⟨a, xs, β, bs, enc, R, rfl, hs, he, hR, al, so, dp, q⟩ := h
  obtain ⟨its, rv, hl, hz⟩ := I.list hs
  obtain ⟨u, rfl, ru⟩ := vals1 r
  obtain rfl : u = Value.ref a := ru
  have hz' : bs.length ≤ sizeLine := by rw [← he.length]; exact hz
  have e := each_push rv he
  refine PySem.W.sorted_data (R := fun u b => ∃ v, RelV v u ∧ R v b) hl.isList e (e.mono fun u b ⟨v, r1, r2⟩ => Dp.reads I _ v u (hR v b r2) r1) al so hz' (fun b hb => by have := dp b hb; omega) fun out lo eo => ?_
  obtain ⟨ys, vy, ey⟩ := each_pull eo
  obtain ⟨n, hn⟩ := sortedAll_at s.heap its (List.toArray out)
  have I2 := I.laid (t' := s.toks) (o := .lst ys) (h' := sortedAll s.heap its (List.toArray out)) (fun b o e => sortedAll_old e) (Nat.le_succ _) ⟨by rw [ey.length, List.length_mergeSort]; exact hz', out, n, vy, hn⟩
  exact ⟨.ref (s.heap.objs.size + 1), _, I2, rfl, q ys _ ey (I.hok.fresh (Nat.le_succ _))⟩
/-- d.get(k), d a dict of the module, k a text that is there -/
def tKGet (K : PySem.W.Frag) (w : World) (td ty : TE) : TE := fun σ H Q => td σ H fun x H1 => ∃ a, x = .ref a ∧ (∃ es n, K.lookup a = some ⟨.type "dict", none, .dict es n, #[]⟩ ∧ PySem.W.KeysLit w.params es.toList) ∧ (a == sysModules) = false ∧
  ty σ H1 fun y H2 => ∃ z v, y = .str z ∧ KDct K w a z v ∧ Q v H2
theorem pe_kget {o e : Expr} {apos cpos : Pos} {td ty : TE} (ho : PE X o td) (he : PE X e ty) (m : M1 X o "get" apos e cpos) : PE X (.Call (.Attribute o "get" apos) [e] [] cpos) (tKGet X.K X.w td ty) := by
  refine ⟨fun pins s σ H Q I h => ?_⟩
  refine wpAny_Call_method m.base m.few m.line PySem.F.plainAttrs_dict PySem.F.slot_dict_get PySem.F.type_dict_get (thn (ho.run pins s σ H _ I h) fun u s1 ⟨x, H1, I1, rx, a, ex, ⟨es, n, hl, hk⟩, hd, q1⟩ => ?_)
  subst ex
  obtain rfl : u = Value.ref a := rx
  have hm := PySem.W.mapOf_K (prog := X.prog) (w := X.w) I1.kIn hl hk
  refine ⟨hm.typeIs, fun b q => by cases q; exact ⟨_, I1.kIn _ _ hl, rfl⟩, ?_⟩
  rw [m.trees]
  refine Calls.callWith_builtin rfl (Calls.evalArgs_plain (Calls.spliced_cons (thn (he.run pins s1 σ H1 _ I1 q1) fun iv s2 ⟨y, H2, I2, ry, z, v, ey, ⟨es', n', u0, hl', hk', e0, ru⟩, q2⟩ => Calls.spliced_nil ?_)))
  subst ey
  obtain ⟨t, rfl⟩ := ry
  have hm2 := PySem.W.mapOf_K (prog := X.prog) (w := X.w) I2.kIn hl' hk'
  refine call_meetsIn PySem.F.slot_dict_get hm2.typeIs PySem.F.entry_dict_get (PySem.F.args_dict_get_2 _ _) (meets_dict_get (strKind X.prog X.w) a (strKind_is X.prog X.w z t) hd) ⟨_, hm2, ?_⟩
  rw [PySem.W.find_K hl' e0]
  exact ⟨v, H2, I2.tok _, ru, q2⟩
end
end GX
/-! dicts keyed by nested tuples of ints and texts: the object (dNO), its lookups, `in`, d[k], d[k] = v -/
namespace GX
open PySem PySem.Spec PyProof.Rows L2 GxR
mutual
/-- data of ints, texts and tuples of such -/
def kd : PyData → Bool
  | .int _ => true
  | .str _ => true
  | .tuple xs => kdAll xs
  | _ => false
def kdAll : List PyData → Bool
  | [] => true
  | x :: xs => kd x && kdAll xs
end
mutual
def keyN : PyData → NestedKey
  | .int i => .num i
  | .str x => .text x
  | .tuple xs => .tup (keyNs xs)
  | _ => .none
def keyNs : List PyData → List NestedKey
  | [] => []
  | x :: xs => keyN x :: keyNs xs
end
mutual
theorem keyN_inj : ∀ (d e : PyData), kd d = true → kd e = true → keyN d = keyN e → d = e
  | .int i, e, _, he, h => by
    cases e with
    | int j =>
      simp only [keyN, NestedKey.num.injEq] at h
      rw [h]
    | str y => simp [keyN] at h
    | tuple ys => simp [keyN] at h
    | _ => simp [kd] at he
  | .str x, e, _, he, h => by
    cases e with
    | int j => simp [keyN] at h
    | str y =>
      simp only [keyN, NestedKey.text.injEq] at h
      rw [h]
    | tuple ys => simp [keyN] at h
    | _ => simp [kd] at he
  | .tuple xs, e, hd, he, h => by
    cases e with
    | int j => simp [keyN] at h
    | str y => simp [keyN] at h
    | tuple ys =>
      simp only [keyN, NestedKey.tup.injEq] at h
      rw [kd] at hd he
      rw [keyNs_inj xs ys hd he h]
    | _ => simp [kd] at he
  | .none, _, hd, _, _ => by simp [kd] at hd
  | .bool _, _, hd, _, _ => by simp [kd] at hd
  | .list _, _, hd, _, _ => by simp [kd] at hd
  | .dict _, _, hd, _, _ => by simp [kd] at hd
theorem keyNs_inj : ∀ (xs ys : List PyData), kdAll xs = true → kdAll ys = true → keyNs xs = keyNs ys → xs = ys
  | [], [], _, _, _ => rfl
  | [], y :: ys, _, _, h => by simp [keyNs] at h
  | x :: xs, [], _, _, h => by simp [keyNs] at h
  | x :: xs, y :: ys, hx, hy, h => by
    rw [kdAll, Bool.and_eq_true] at hx hy
    rw [keyNs, keyNs] at h
    rw [keyN_inj x y hx.1 hy.1 (List.cons.inj h).1, keyNs_inj xs ys hx.2 hy.2 (List.cons.inj h).2]
end
mutual
theorem keyN_depth : ∀ d : PyData, kd d = true → (keyN d).depth = d.depth
  | .int _, _ => by rw [keyN, NestedKey.depth, PyData.depth]
  | .str _, _ => by rw [keyN, NestedKey.depth, PyData.depth]
  | .tuple xs, h => by
    rw [kd] at h
    rw [keyN, NestedKey.depth, PyData.depth, keyNs_depth xs h]
  | .none, h => by simp [kd] at h
  | .bool _, h => by simp [kd] at h
  | .list _, h => by simp [kd] at h
  | .dict _, h => by simp [kd] at h
theorem keyNs_depth : ∀ xs : List PyData, kdAll xs = true → NestedKey.depthAll (keyNs xs) = PyData.depthAll xs
  | [], _ => by rw [keyNs, NestedKey.depthAll, PyData.depthAll]
  | x :: xs, h => by
    rw [kdAll, Bool.and_eq_true] at h
    rw [keyNs, NestedKey.depthAll, PyData.depthAll, keyN_depth x h.1, keyNs_depth xs h.2]
end
section
variable {X : Cx} {pins : List (Addr × Obj)} {σ : L2.St} {H : Hp} {s : Shared}
mutual
theorem dp_nested (I : Inv X pins σ H s) : ∀ (d : PyData) (v : V) (u : Value), Dp X.K H v d → kd d = true → RelV v u → NestedIs s.heap (keyN d) u
  | .int i, _, _, h, _, r => by
    cases h
    obtain ⟨t, rfl⟩ := r
    rw [keyN]
    exact .int i t
  | .str x, _, _, h, _, r => by
    cases h
    obtain ⟨t, rfl⟩ := r
    rw [keyN]
    exact .text x t
  | .tuple ds, _, _, h, k, r => by
    cases h with
    | tup hs ha =>
      cases r
      obtain ⟨its, rv, ⟨o, ho, hc, n, hd⟩, _⟩ := I.tuple hs
      rw [kd] at k
      rw [keyN]
      exact .tup ho hc hd (dp_nestedAll I ds _ its ha k rv)
  | .none, _, _, _, k, _ => by simp [kd] at k
  | .bool _, _, _, _, k, _ => by simp [kd] at k
  | .list _, _, _, _, k, _ => by simp [kd] at k
  | .dict _, _, _, _, k, _ => by simp [kd] at k
theorem dp_nestedAll (I : Inv X pins σ H s) : ∀ (ds : List PyData) (vs : List V) (us : List Value), DpAll X.K H vs ds → kdAll ds = true → Vals vs us → NestedAll s.heap (keyNs ds) us
  | [], _, _, h, _, r => by
    cases h
    cases r
    rw [keyNs]
    exact .nil
  | d :: ds, _, _, h, k, r => by
    cases h with
    | cons h1 h2 =>
      cases r with
      | cons r1 r2 =>
        rw [kdAll, Bool.and_eq_true] at k
        rw [keyNs]
        exact .cons (dp_nested I d _ _ h1 k.1 r1) (dp_nestedAll I ds _ _ h2 k.2 r2)
end
end
/-- a kind of keys: how they are data -/
structure KT (κ : Type) where
  enc : κ → PyData
  kd : ∀ k, kd (enc k) = true
  inj : ∀ {a b}, enc a = enc b → a = b
  dp : ∀ k, (enc k).depth ≤ 8
section
variable {κ : Type} [DecidableEq κ] (T : KT κ)
theorem KT.eqN {T : KT κ} {a b : κ} : keyN (T.enc a) = keyN (T.enc b) ↔ a = b := ⟨fun h => T.inj (keyN_inj _ _ (T.kd a) (T.kd b) h), fun h => by rw [h]⟩
/-- the entries with the values that stand there -/
def rowsN (es : List (κ × Addr × V)) (us : List Value) : List (NestedKey × Addr × Value) := (es.zip us).map fun p => (keyN (T.enc p.1.1), p.1.2.1, p.2)
def DN0 (P : Program) (w : World) (h : Heap) (a : Addr) (es : List (κ × Addr × V)) : Prop :=
  (a == sysModules) = false ∧ es.length ≤ sizeLine ∧ (es.map (·.1)).Nodup ∧ ∃ o ds ep us, h.get? a = some o ∧ o.ExactDict ∧ o.data = .dict ds ep ∧ Vals (es.map (·.2.2)) us ∧ ds.toList = (rowsN T es us).map (entryOfKey (nestedKind P w))
def dNO (P : Program) (w : World) (a : Addr) (es : List (κ × Addr × V)) : HO := .ext fun h => DN0 T P w h a es
theorem dNO_ok {P : Program} {w : World} {H : Hp} {h : Heap} {a : Addr} {es : List (κ × Addr × V)} (R : DN0 T P w h a es) : ObjOk P w H h a (dNO T P w a es) := by
  have ⟨_, _, _, o, ds, ep, us, ho, _⟩ := R
  refine ⟨R, ⟨o, ho⟩, fun h1 h2 p k => ?_⟩
  obtain ⟨z, l, n, o', ds', ep', us', ho', r'⟩ := p
  exact ⟨z, l, n, o', ds', ep', us', k o' ho', r'⟩
variable {T}
theorem rows_find {k : κ} : ∀ {es : List (κ × Addr × V)} {us : List Value}, Vals (es.map (·.2.2)) us → (atKey (rowsN T es us) (keyN (T.enc k)) = none ∧ (es.find? fun e => decide (e.1 = k)) = none) ∨ ∃ e u, (es.find? fun e => decide (e.1 = k)) = some e ∧ atKey (rowsN T es us) (keyN (T.enc k)) = some (e.2.1, u) ∧ RelV e.2.2 u
  | [], _, .nil => .inl ⟨rfl, rfl⟩
  | e :: es, _, .cons r t => by
    by_cases h : e.1 = k
    · refine .inr ⟨e, _, ?_, ?_, r⟩
      · simp [List.find?_cons, h]
      · unfold atKey rowsN
        rw [List.zip_cons_cons, List.map_cons]
        simp [List.find?_cons, h]
    · have hn : ¬ keyN (T.enc e.1) = keyN (T.enc k) := fun z => h (KT.eqN.mp z)
      have e1 : ((e :: es).find? fun e => decide (e.1 = k)) = es.find? fun e => decide (e.1 = k) := by simp [List.find?_cons, h]
      have e2 : ∀ u us, atKey (rowsN T (e :: es) (u :: us)) (keyN (T.enc k)) = atKey (rowsN T es us) (keyN (T.enc k)) := fun u us => by
        unfold atKey rowsN
        rw [List.zip_cons_cons, List.map_cons]
        simp [List.find?_cons, hn]
      rw [e1, e2]
      exact rows_find t
theorem rows_nodup {es : List (κ × Addr × V)} {us : List Value} (h : Vals (es.map (·.2.2)) us) (n : (es.map (·.1)).Nodup) : ((rowsN T es us).map (·.1)).Nodup := by
  have l : us.length = es.length := by rw [← h.length, List.length_map]
  have e : (rowsN T es us).map (·.1) = (es.map (·.1)).map fun k => keyN (T.enc k) := by
    unfold rowsN
    rw [List.map_map, List.map_map]
    have : es = (es.zip us).map Prod.fst := (List.map_fst_zip (by omega)).symm
    conv => rhs; rw [this]
    rw [List.map_map]
    rfl
  rw [e]
  exact List.Pairwise.map _ (fun a b ne z => ne (KT.eqN.mp z)) n
end
section
variable {κ : Type} [DecidableEq κ] {T : KT κ} {X : Cx} {pins : List (Addr × Obj)} {σ : L2.St} {H : Hp} {s : Shared}
/-- the keys of the entries stand in the heap -/
def KeysAt (T : KT κ) (K : PySem.W.Frag) (H : Hp) (es : List (κ × Addr × V)) : Prop := ∀ e ∈ es, Dp K H (.ref e.2.1) (T.enc e.1)
theorem dn0_of {a : Addr} {es : List (κ × Addr × V)} (I : Inv X pins σ H s) (ha : Rd H a (dNO T X.prog X.w a es)) : DN0 T X.prog X.w s.heap a es := by
  rcases ha with ha | ⟨o, ha⟩
  · exact (I.hok a _ ha).1
  · exact (I.hok a _ ha).2.1
theorem dict_of {a : Addr} {es : List (κ × Addr × V)} (I : Inv X pins σ H s) (ha : Rd H a (dNO T X.prog X.w a es)) (hk : KeysAt T X.K H es) :
    (a == sysModules) = false ∧ es.length ≤ sizeLine ∧ ∃ us, Vals (es.map (·.2.2)) us ∧ s.heap.DictOfH (nestedKind X.prog X.w) a (rowsN T es us) := by
  obtain ⟨z, l, n, o, ds, ep, us, ho, hx, hd, hv, hr⟩ := dn0_of I ha
  refine ⟨z, l, us, hv, o, ds, ep, ho, hx, hd, hr, fun x hxm => ?_, rows_nodup hv n⟩
  obtain ⟨p, hp, rfl⟩ := List.mem_map.mp hxm
  have he : p.1 ∈ es := (List.of_mem_zip hp).1
  exact ⟨dp_nested I _ _ _ (hk _ he) (T.kd _) rfl, by rw [keyN_depth _ (T.kd _)]; exact T.dp _⟩
theorem key_of {v : V} {k : κ} {u : Value} (I : Inv X pins σ H s) (h : Dp X.K H v (T.enc k)) (r : RelV v u) (b : Addr) (e : u = .ref b) : (nestedKind X.prog X.w).is s.heap (keyN (T.enc k)) b := by
  subst e
  exact ⟨dp_nested I _ _ _ h (T.kd _) r, by rw [keyN_depth _ (T.kd _)]; exact T.dp _⟩
/-- k in d -/
def rInN (T : KT κ) (P : Program) (w : World) (K : PySem.W.Frag) : R2 := fun x y H Q => ∃ (a b : Addr) (es : List (κ × Addr × V)) (k : κ), y = .ref a ∧ x = .ref b ∧ Rd H a (dNO T P w a es) ∧ KeysAt T K H es ∧ Dp K H (.ref b) (T.enc k) ∧ Q (.bl (es.find? fun e => decide (e.1 = k)).isSome) H
theorem op_inN (hu : X.A.units + 64 < cLine) : OpR X (compareOp .In) (rInN T X.prog X.w X.K) := fun pins s σ H x y v u Q I rx ry h => by
  obtain ⟨a, b, es, k, rfl, rfl, ha, hk, hb, q⟩ := h
  cases rx
  cases ry
  obtain ⟨z, l, us, hv, hm⟩ := dict_of I ha hk
  refine wpAny_in_heap (knd := nestedKind X.prog X.w) (by show X.A.units + 1 + 8 < cLine; omega) (key_of I hb rfl b rfl) z hm ?_
  refine ⟨.bl (es.find? fun e => decide (e.1 = k)).isSome, H, I.tok _, ?_, q⟩
  rcases rows_find (T := T) (k := k) hv with ⟨e1, e2⟩ | ⟨e, u, e1, e2, _⟩
  · rw [e1, e2]
    rfl
  · rw [e1, e2]
    rfl
/-- k not in d -/
def rNotInN (T : KT κ) (P : Program) (w : World) (K : PySem.W.Frag) : R2 := fun x y H Q => ∃ (a b : Addr) (es : List (κ × Addr × V)) (k : κ), y = .ref a ∧ x = .ref b ∧ Rd H a (dNO T P w a es) ∧ KeysAt T K H es ∧ Dp K H (.ref b) (T.enc k) ∧ Q (.bl (!(es.find? fun e => decide (e.1 = k)).isSome)) H
theorem op_notInN (hu : X.A.units + 64 < cLine) : OpR X (compareOp .NotIn) (rNotInN T X.prog X.w X.K) := fun pins s σ H x y v u Q I rx ry h => by
  obtain ⟨a, b, es, k, rfl, rfl, ha, hk, hb, q⟩ := h
  cases rx
  cases ry
  obtain ⟨z, l, us, hv, hm⟩ := dict_of I ha hk
  refine wpAny_notIn_heap (knd := nestedKind X.prog X.w) (by show X.A.units + 1 + 8 < cLine; omega) (key_of I hb rfl b rfl) z hm ?_
  refine ⟨.bl (!(es.find? fun e => decide (e.1 = k)).isSome), H, I.tok _, ?_, q⟩
  rcases rows_find (T := T) (k := k) hv with ⟨e1, e2⟩ | ⟨e, u, e1, e2, _⟩
  · rw [e1, e2]
    rfl
  · rw [e1, e2]
    rfl
/-- d[k], k there -/
def rIxN (T : KT κ) (P : Program) (w : World) (K : PySem.W.Frag) : R2 := fun x y H Q => ∃ (a b : Addr) (es : List (κ × Addr × V)) (k : κ) (e : κ × Addr × V), x = .ref a ∧ y = .ref b ∧ Rd H a (dNO T P w a es) ∧ KeysAt T K H es ∧ Dp K H (.ref b) (T.enc k) ∧ (es.find? fun e => decide (e.1 = k)) = some e ∧ Q e.2.2 H
theorem ix_N (hu : X.A.units + 64 < cLine) : IxR X (rIxN T X.prog X.w X.K) := by
  intro value slice pins s σ H x y v u Q I rx ry h hs
  obtain ⟨a, b, es, k, e, rfl, rfl, ha, hk, hb, he, q⟩ := h
  cases rx
  cases ry
  obtain ⟨z, l, us, hv, hm⟩ := dict_of I ha hk
  rcases rows_find (T := T) (k := k) hv with ⟨_, e2⟩ | ⟨e', u, e1, e2, r⟩
  · rw [he] at e2
    cases e2
  · rw [he] at e1
    cases e1
    exact subscriptTail_builtinR (x := u) hm.typeIs slot_dict_getitem.lookup (wpAny_getItem_heap (Q := fun r s' => r = u ∧ EP X pins σ Q r s') (knd := nestedKind X.prog X.w) (by show X.A.units + 1 + 8 < cLine; omega) (key_of I hb rfl b rfl) hm e2 ⟨rfl, e.2.2, H, I.tok _, r, q⟩) hs
/-- d[k] = v -/
def dSt (es : List (κ × Addr × V)) (k : κ) (b : Addr) (v : V) : List (κ × Addr × V) := if (es.find? fun e => decide (e.1 = k)).isSome = true then es.map fun e => if e.1 = k then (e.1, e.2.1, v) else e else es ++ [(k, b, v)]
theorem rows_app {es fs : List (κ × Addr × V)} {us vs : List Value} (l : es.length = us.length) : rowsN T (es ++ fs) (us ++ vs) = rowsN T es us ++ rowsN T fs vs := by
  unfold rowsN
  rw [List.zip_append l, List.map_append]
theorem rows_put {k : κ} {v : V} {u : Value} (r : RelV v u) : ∀ {es : List (κ × Addr × V)} {us : List Value}, Vals (es.map (·.2.2)) us → ∃ us', Vals ((es.map fun e => if e.1 = k then (e.1, e.2.1, v) else e).map (·.2.2)) us' ∧ (rowsN T es us).map (putAt (keyN (T.enc k)) u) = rowsN T (es.map fun e => if e.1 = k then (e.1, e.2.1, v) else e) us'
  | [], _, .nil => ⟨[], .nil, rfl⟩
  | e :: es, u0 :: us, .cons r0 t => by
    obtain ⟨us', h1, h2⟩ := rows_put r t
    have step : ∀ (e' : κ × Addr × V) (u' : Value), rowsN T (e' :: es.map fun e => if e.1 = k then (e.1, e.2.1, v) else e) (u' :: us') = (keyN (T.enc e'.1), e'.2.1, u') :: (rowsN T es us).map (putAt (keyN (T.enc k)) u) := fun e' u' => by
      rw [h2]
      rfl
    have lhs : (rowsN T (e :: es) (u0 :: us)).map (putAt (keyN (T.enc k)) u) = putAt (keyN (T.enc k)) u (keyN (T.enc e.1), e.2.1, u0) :: (rowsN T es us).map (putAt (keyN (T.enc k)) u) := rfl
    by_cases h : e.1 = k
    · refine ⟨u :: us', ?_, ?_⟩
      · rw [List.map_cons, if_pos h, List.map_cons]
        exact .cons r h1
      · rw [List.map_cons, if_pos h, step, lhs]
        unfold putAt
        rw [if_pos (by rw [h])]
    · refine ⟨u0 :: us', ?_, ?_⟩
      · rw [List.map_cons, if_neg h, List.map_cons]
        exact .cons r0 h1
      · rw [List.map_cons, if_neg h, step, lhs]
        unfold putAt
        rw [if_neg fun z => h (KT.eqN.mp z)]
theorem rows_st {es : List (κ × Addr × V)} {us : List Value} {k : κ} {b : Addr} {v : V} {u : Value} (h : Vals (es.map (·.2.2)) us) (r : RelV v u) : ∃ us', Vals ((dSt es k b v).map (·.2.2)) us' ∧ storedH (rowsN T es us) (keyN (T.enc k)) b u = rowsN T (dSt es k b v) us' := by
  rcases rows_find (T := T) (k := k) h with ⟨e1, e2⟩ | ⟨e, u', e1, e2, _⟩
  · refine ⟨us ++ [u], ?_, ?_⟩
    · unfold dSt
      rw [e2, if_neg (by simp), List.map_append]
      exact h.append (.cons r .nil)
    · rw [storedH_new e1]
      unfold dSt
      rw [e2, if_neg (by simp), rows_app (by rw [← h.length, List.length_map])]
      rfl
  · obtain ⟨us', h1, h2⟩ := rows_put (T := T) (k := k) (v := v) (u := u) r h
    refine ⟨us', ?_, ?_⟩
    · unfold dSt
      rw [e1, if_pos (show (some e).isSome = true from rfl)]
      exact h1
    · rw [storedH_old e2]
      unfold dSt
      rw [e1, if_pos (show (some e).isSome = true from rfl)]
      exact h2
theorem st_nodup {es : List (κ × Addr × V)} {k : κ} {b : Addr} {v : V} (n : (es.map (·.1)).Nodup) : ((dSt es k b v).map (·.1)).Nodup := by
  unfold dSt
  by_cases h : (es.find? fun e => decide (e.1 = k)).isSome = true
  · rw [if_pos h, List.map_map]
    have e : ((fun x : κ × Addr × V => x.1) ∘ fun e : κ × Addr × V => if e.1 = k then (e.1, e.2.1, v) else e) = fun e => e.1 := by
      funext e
      show (if e.1 = k then (e.1, e.2.1, v) else e).1 = e.1
      split <;> rfl
    rw [e]
    exact n
  · rw [if_neg h, List.map_append, List.nodup_append]
    refine ⟨n, (by simp : [k].Nodup), fun x hx y hy z => h ?_⟩
    rw [List.mem_singleton.mp hy] at z
    obtain ⟨e, he, rfl⟩ := List.mem_map.mp hx
    rw [List.find?_isSome]
    exact ⟨e, he, decide_eq_true z⟩
theorem st_len {es : List (κ × Addr × V)} {k : κ} {b : Addr} {v : V} : (dSt es k b v).length ≤ es.length + 1 := by
  unfold dSt
  split
  · rw [List.length_map]
    exact Nat.le_succ _
  · rw [List.length_append]
    exact Nat.le_refl _
theorem st_keys {K : PySem.W.Frag} {es : List (κ × Addr × V)} {k : κ} {b : Addr} {v : V} (h : KeysAt T K H es) (hb : Dp K H (.ref b) (T.enc k)) : KeysAt T K H (dSt es k b v) := fun e he => by
  unfold dSt at he
  split at he
  · obtain ⟨e', he', rfl⟩ := List.mem_map.mp he
    have := h e' he'
    split
    · exact this
    · exact this
  · rcases List.mem_append.mp he with z | z
    · exact h e z
    · rw [List.mem_singleton.mp z]
      exact hb
def rSetN (T : KT κ) (P : Program) (w : World) (K : PySem.W.Frag) : V → V → V → Hp → (Hp → Prop) → Prop := fun o i v H Q => ∃ (a b : Addr) (es : List (κ × Addr × V)) (k : κ), o = .ref a ∧ i = .ref b ∧ H a = some (dNO T P w a es) ∧ KeysAt T K H es ∧ Dp K H (.ref b) (T.enc k) ∧ es.length < sizeLine ∧ Q (upd H a (dNO T P w a (dSt es k b v)))
theorem set_N (hu : X.A.units + 64 < cLine) : PSet X (rSetN T X.prog X.w X.K) := by
  intro pins s σ H o i v ov iv u Q I ro ri rv h
  obtain ⟨a, b, es, k, rfl, rfl, ha, hk, hb, hl, q⟩ := h
  cases ro
  cases ri
  obtain ⟨z, l, us, hv, hm⟩ := dict_of I (.inl ha) hk
  obtain ⟨_, _, nd, _⟩ := (I.hok a _ ha).1
  have ls : (rowsN T es us).length = es.length := by
    unfold rowsN
    rw [List.length_map, List.length_zip, ← hv.length, List.length_map, Nat.min_self]
  obtain ⟨us', h1, h2⟩ := rows_st (T := T) (k := k) (b := b) (v := v) (u := u) hv rv
  refine wpAny_setItem_heap (hsz := by rw [ls]; exact l) (knd := nestedKind X.prog X.w) (by show X.A.units + 1 + 8 < cLine; omega) (key_of I hb rfl b rfl) hm fun h' hm' sb => ?_
  rw [h2] at hm'
  obtain ⟨o', ds, ep, ho, hx, hd, hr, _, _⟩ := hm'
  have R : DN0 T X.prog X.w h' a (dSt es k b v) := ⟨z, Nat.le_trans st_len hl, st_nodup nd, o', ds, ep, us', ho, hx, hd, h1, hr⟩
  exact ⟨_, I.write (by rw [ha]; trivial) (.inl rfl) (fun c w hc e => (sb.2 c hc).trans e) ⟨_, ho⟩ (dNO_ok T R), q⟩
/-- {} -/
theorem dn0_empty {P : Program} {w : World} (h : Heap) (z : (h.objs.size == sysModules) = false) : DN0 T P w (h.push { cls := .type "dict", data := .dict #[] }) h.objs.size ([] : List (κ × Addr × V)) :=
  ⟨z, Nat.zero_le _, .nil, _, _, _, [], Heap.get?_push_size _ rfl, ⟨rfl, rfl, rfl⟩, rfl, .nil, rfl⟩
def tDNewN (T : KT κ) (P : Program) (w : World) : TE := fun _ H Q => ∀ p, H p = none → Q (.ref p) (upd H p (dNO T P w p []))
theorem pe_dnewN {pos : Pos} : PE X (.Dict [] [] pos) (tDNewN T X.prog X.w) := ⟨fun pins s σ H Q I h => by
  have z : (s.heap.objs.size == sysModules) = false := beq_eq_false_iff_ne.mpr (Nat.ne_of_gt I.big)
  exact wpAny_Dict_empty ⟨.ref s.heap.objs.size, _, I.laid (t' := s.toks) (fun _ _ q => Heap.get?_push_of_some _ q) (Nat.le_refl _) (dNO_ok T (dn0_empty s.heap z)), rfl, h _ (I.hok.fresh (Nat.le_refl _))⟩⟩
/-- d.get(k, v) -/
def rGetN (T : KT κ) (P : Program) (w : World) (K : PySem.W.Frag) : V → List V → Hp → VK → Prop := fun x xs H Q => ∃ (a b : Addr) (es : List (κ × Addr × V)) (k : κ) (v : V), x = .ref a ∧ xs = [.ref b, v] ∧ Rd H a (dNO T P w a es) ∧ KeysAt T K H es ∧ Dp K H (.ref b) (T.enc k) ∧ Q (((es.find? fun e => decide (e.1 = k)).map (·.2.2)).getD v) H
theorem mt_getN (hu : X.A.units + 64 < cLine) : MtR X "dict.get" (rGetN T X.prog X.w X.K) := by
  intro pins s σ H x xs v us Q I rx r h
  obtain ⟨a, b, es, k, y, rfl, rfl, ha, hk, hb, q⟩ := h
  cases rx
  obtain ⟨u1, u2, rfl, r1, r2⟩ := r.two
  cases r1
  obtain ⟨z, l, us, hv, hm⟩ := dict_of I ha hk
  refine call_meetsIn PySem.F.slot_dict_get hm.typeIs PySem.F.entry_dict_get (PySem.F.args_dict_get_3 _ _ _) (meetsH_dict_get_default (nestedKind X.prog X.w) a b z u2) ⟨by show X.A.units + 1 + 8 < cLine; omega, _, _, key_of I hb rfl b rfl, hm, ?_⟩
  rcases rows_find (T := T) (k := k) hv with ⟨e1, e2⟩ | ⟨e, u, e1, e2, r⟩
  · rw [e1]
    rw [e2] at q
    exact ⟨y, H, I.tok _, r2, q⟩
  · rw [e2]
    rw [e1] at q
    exact ⟨e.2.2, H, I.tok _, r, q⟩
/-- d.setdefault(k, v) -/
def rSetdefN (T : KT κ) (P : Program) (w : World) (K : PySem.W.Frag) : V → List V → Hp → VK → Prop := fun x xs H Q => ∃ (a b : Addr) (es : List (κ × Addr × V)) (k : κ) (v : V), x = .ref a ∧ xs = [.ref b, v] ∧ H a = some (dNO T P w a es) ∧ KeysAt T K H es ∧ Dp K H (.ref b) (T.enc k) ∧ es.length < sizeLine ∧
  (∀ e, (es.find? fun e => decide (e.1 = k)) = some e → Q e.2.2 H) ∧ ((es.find? fun e => decide (e.1 = k)) = none → Q v (upd H a (dNO T P w a (es ++ [(k, b, v)]))))
theorem mt_setdefN (hu : X.A.units + 64 < cLine) : MtR X "dict.setdefault" (rSetdefN T X.prog X.w X.K) := by
  intro pins s σ H x xs v us Q I rx r h
  obtain ⟨a, b, es, k, y, rfl, rfl, ha, hk, hb, hl, q1, q2⟩ := h
  cases rx
  obtain ⟨u1, u2, rfl, r1, r2⟩ := r.two
  cases r1
  obtain ⟨z, l, us, hv, hm⟩ := dict_of I (.inl ha) hk
  obtain ⟨_, _, nd, _⟩ := (I.hok a _ ha).1
  have ls : (rowsN T es us).length = es.length := by
    unfold rowsN
    rw [List.length_map, List.length_zip, ← hv.length, List.length_map, Nat.min_self]
  rcases rows_find (T := T) (k := k) hv with ⟨e1, e2⟩ | ⟨e, u, e1, e2, r⟩
  · refine call_setdefault_heap (hsz := by rw [ls]; exact l) (knd := nestedKind X.prog X.w) (by show X.A.units + 1 + 8 < cLine; omega) (key_of I hb rfl b rfl) z hm (fun p hp => by rw [e1] at hp; cases hp) fun _ h' hm' sb => ?_
    obtain ⟨us', h1, h2⟩ := rows_st (T := T) (k := k) (b := b) (v := y) (u := u2) hv r2
    have ed : dSt es k b y = es ++ [(k, b, y)] := by
      unfold dSt
      rw [e2, if_neg (by simp)]
    rw [h2] at hm'
    obtain ⟨o', ds, ep, ho, hx, hd, hr, _, _⟩ := hm'
    have R : DN0 T X.prog X.w h' a (dSt es k b y) := ⟨z, Nat.le_trans st_len hl, st_nodup nd, o', ds, ep, us', ho, hx, hd, h1, hr⟩
    have J := I.write (t' := s.toks + (nestedKind X.prog X.w).draws (keyN (T.enc k))) (by rw [ha]; trivial) (.inl rfl) (fun c w hc e => (sb.2 c hc).trans e) ⟨_, ho⟩ (dNO_ok T R)
    rw [ed] at J
    exact ⟨y, _, J, r2, q2 e2⟩
  · refine call_setdefault_heap (hsz := by rw [ls]; exact l) (knd := nestedKind X.prog X.w) (by show X.A.units + 1 + 8 < cLine; omega) (key_of I hb rfl b rfl) z hm (fun p hp => ?_) fun hn => by rw [e2] at hn; cases hn
    rw [e2] at hp
    cases hp
    exact ⟨e.2.2, H, I.tok _, r, q1 e e1⟩
theorem dn_frz {d : Addr} {o : Obj} {es : List (κ × Addr × V)} (I : Inv X pins σ H s) (h : H d = some (.frz o (dNO T X.prog X.w d es))) :
    (d == sysModules) = false ∧ s.heap.get? d = some o ∧ o.ExactDict ∧ ∃ (ds : Array DictEntry) (ep : Nat), o.data = .dict ds ep ∧ ds.size = es.length ∧ ∀ (i : Nat) (e : κ × Addr × V), es[i]? = some e → ∃ en : DictEntry, ds[i]? = some en ∧ en.key = .ref e.2.1 := by
  obtain ⟨hg, ⟨z, l, n, o', ds, ep, us, ho, hx, hd, hv, hr⟩, _⟩ := I.hok d _ h
  rw [hg] at ho
  cases ho
  have lu : us.length = es.length := by rw [← hv.length, List.length_map]
  have ld : ds.size = es.length := by
    rw [← Array.length_toList, hr, List.length_map]
    unfold rowsN
    rw [List.length_map, List.length_zip, lu, Nat.min_self]
  refine ⟨z, hg, hx, ds, ep, hd, ld, fun i e he => ?_⟩
  have hi : i < us.length := by rw [lu]; exact (List.getElem?_eq_some_iff.mp he).1
  have hz : (es.zip us)[i]? = some (e, us[i]) := by rw [List.getElem?_zip_eq_some]; exact ⟨he, List.getElem?_eq_getElem hi⟩
  refine ⟨entryOfKey (nestedKind X.prog X.w) (keyN (T.enc e.1), e.2.1, us[i]), ?_, rfl⟩
  rw [← Array.getElem?_toList, hr]
  unfold rowsN
  rw [List.getElem?_map, List.getElem?_map, hz]
  rfl
/-- the keys of the locked dict at d -/
def Itn (T : KT κ) (P : Program) (w : World) (d : Addr) (o : Obj) (es : List (κ × Addr × V)) : It :=
  ⟨fun i H => H d = some (.frz o (dNO T P w d es)) ∧ i < es.length, fun i H x H' => H' = H ∧ ∃ e, es[i]? = some e ∧ x = .ref e.2.1, fun i H => H d = some (.frz o (dNO T P w d es)) ∧ es.length ≤ i⟩
theorem turn_N {P : Program} {w : World} {K : PySem.W.Frag} {tg : Expr} {d : Addr} {o : Obj} {ds : Array DictEntry} {ep : Nat} {es : List (κ × Addr × V)} (it : Addr) (hod : o.data = .dict ds ep) :
    Turn P w K tg (Itn T P w d o es) [it] it (fun i h => h.IsKeyIter it d i es.length ep) where
  mem := List.mem_singleton.mpr rfl
  obj := fun i h st b hb => by
    rw [List.mem_singleton.mp hb]
    obtain ⟨oi, e, _, dd⟩ := st
    exact ⟨oi, e, fun v z => by rw [dd] at z; cases z⟩
  keep := fun i h h' st k => st.at fun oi e => k it (List.mem_singleton.mpr rfl) oi e
  item := by
    rintro X rfl rfl rfl hc i pins s σ H E I hf st ⟨hd, hi⟩
    have fp := hf it (List.mem_singleton.mpr rfl)
    obtain ⟨hs, hgd, hx, ds', ep', hdt, hsz, ent⟩ := dn_frz I hd
    obtain ⟨rfl, rfl⟩ := dict_ep hod hdt
    have he : es[i]? = some es[i] := List.getElem?_eq_getElem hi
    obtain ⟨en, hen, hkey⟩ := ent i _ he
    refine next_key_item st hgd hdt hsz hen fun h' st' sb => ?_
    obtain ⟨oi, e, c, dd⟩ := id st'
    exact ⟨en.key, rfl, go_of (s := { s with heap := h' }) e c dd (by decide) ⟨.ref es[i].2.1, H, I.turned (t' := s.toks) (fun b ob hb e => (sb.2 b hb).trans e) fp.1 fp.2.1 fp.2.2.2.1 fp.2.2.2.2.1 fp.2.2.2.2.2, hkey, ⟨rfl, _, he, rfl⟩, st', fun b hb => (hf b hb).1⟩⟩
  done := by
    rintro X rfl rfl rfl hc i pins s σ H E I hf st ⟨hd, hi⟩
    have fp := hf it (List.mem_singleton.mpr rfl)
    obtain ⟨hs, hgd, hx, ds', ep', hdt, hsz, ent⟩ := dn_frz I hd
    obtain ⟨rfl, rfl⟩ := dict_ep hod hdt
    exact next_key_end (I.ok.hd hc) st hgd hdt hsz hi fun h' eb => ⟨rfl, I.turned (t' := s.toks) (fun b ob hb e => eb b ob hb e) fp.1 fp.2.1 fp.2.2.2.1 fp.2.2.2.2.1 fp.2.2.2.2.2⟩
  self := fun A i s Q E st h => by
    refine wpAny_pyIter_slot st.typeIs PySem.F.slot_dict_keyiterator_iter (wpAny_call_entry PySem.F.slot_dict_keyiterator_iter st.typeIs PySem.F.entry_dict_keyiterator_iter ?_ (PySem.F.args_dict_keyiterator_iter_1 _))
    exact wpAny_pure ⟨_, rfl, "dict_keyiterator", _, st.typeIs, PySem.F.slot_dict_keyiterator_next.lookup, h⟩
/-- for k in d, d locked -/
def iKeysN (T : KT κ) (P : Program) (w : World) (td : TE) : TI := fun σ H R => td σ H fun x H1 => ∃ d o es, x = .ref d ∧ H1 d = some (.frz o (dNO T P w d es)) ∧ R (Itn T P w d o es) H1
theorem pi_keysN {tg e : Expr} {td : TE} (he : PE X e td) : PI X tg e (iKeysN T X.prog X.w td) := by
  refine ⟨fun pins s σ H R I h => thn (he.run pins s σ H _ I h) fun u s1 ⟨x, H1, I1, rx, d, o, es, ex, hd, q⟩ => ?_⟩
  subst ex
  cases rx
  obtain ⟨hs, hgd, hx, ds, ep, hdt, hsz, ent⟩ := dn_frz I1 hd
  refine iter_keys hs hgd hx hdt (pi_one (tk := s1.toks) I1 _ (turn_N _ hdt) ⟨_, Heap.get?_push_size _ rfl, rfl, ?_⟩ q)
  rw [hsz] <;> rfl
theorem walk_N {P : Program} {w : World} {d : Addr} {o : Obj} {es : List (κ × Addr × V)} : Walk (Itn T P w d o es) es.length (fun H => H d = some (.frz o (dNO T P w d es))) (fun i H x H' => H' = H ∧ ∃ e, es[i]? = some e ∧ x = .ref e.2.1) :=
  ⟨fun _ _ hi q => ⟨q, hi⟩, fun _ q => ⟨q, Nat.le_refl _⟩, fun _ _ _ _ _ _ y => y⟩
/-- len(d) -/
theorem cr_lenN : CallR X (.builtin "len") (fun xs H Q => ∃ (a : Addr) (es : List (κ × Addr × V)), xs = [.ref a] ∧ Rd H a (dNO T X.prog X.w a es) ∧ KeysAt T X.K H es ∧ Q (.int (es.length : Int)) H) := by
  intro pins s σ H xs us Q I r h
  obtain ⟨a, es, rfl, ha, hk, q⟩ := h
  obtain ⟨u, rfl, ru⟩ := vals1 r
  cases ru
  obtain ⟨z, l, us, hv, hm⟩ := dict_of I ha hk
  have ls : (rowsN T es us).length = es.length := by
    unfold rowsN
    rw [List.length_map, List.length_zip, ← hv.length, List.length_map, Nat.min_self]
  have h63 := line63
  refine call_len_dictH z hm (by rw [ls]; omega) ⟨.int (es.length : Int), H, ?_, ⟨_, by rw [ls]⟩, q⟩
  exact (I.tok (s.toks + 1 + 1))
/-- a store in a comprehension's dict -/
def putN (T : KT κ) (P : Program) (w : World) (K : PySem.W.Frag) (D : Addr) (y z : V) (H : Hp) (N : Hp → Prop) : Prop := ∃ (es : List (κ × Addr × V)) (k : κ) (b : Addr), y = .ref b ∧ H D = some (dNO T P w D es) ∧ KeysAt T K H es ∧ Dp K H (.ref b) (T.enc k) ∧ es.length < sizeLine ∧ N (upd H D (dNO T P w D (dSt es k b z)))
theorem putR_N {Y : Cx} (hu : Y.A.units + 64 < cLine) : PutR (putN T Y.prog Y.w Y.K) Y := by
  intro pins s σ H D y z u r N I ry rz ⟨es, k, b, ey, ha, hk, hb, hl, n⟩
  subst ey
  cases ry
  obtain ⟨zz, l, us, hv, hm⟩ := dict_of I (.inl ha) hk
  obtain ⟨_, _, nd, _⟩ := (I.hok D _ ha).1
  have ls : (rowsN T es us).length = es.length := by
    unfold rowsN
    rw [List.length_map, List.length_zip, ← hv.length, List.length_map, Nat.min_self]
  obtain ⟨us', h1, h2⟩ := rows_st (T := T) (k := k) (b := b) (v := z) (u := r) hv rz
  refine wpAny_dictSet_heap (hsz := by rw [ls]; exact l) (knd := nestedKind Y.prog Y.w) (by show Y.A.units + 8 < cLine; omega) (key_of I hb rfl b rfl) hm fun h' hm' sb => ?_
  rw [h2] at hm'
  obtain ⟨o', ds, ep, ho, hx, hd, hr, _, _⟩ := hm'
  have R : DN0 T Y.prog Y.w h' D (dSt es k b z) := ⟨zz, Nat.le_trans st_len hl, st_nodup nd, o', ds, ep, us', ho, hx, hd, h1, hr⟩
  exact ⟨_, I.write (by rw [ha]; trivial) (.inl rfl) (fun c w hc e => (sb.2 c hc).trans e) ⟨_, ho⟩ (dNO_ok T R), n⟩
theorem dg_empty (H : Hp) (h : Heap) (hb : sysModules < h.objs.size) : ObjOk X.prog X.w H (h.push { cls := .type "dict", data := .dict #[] }) h.objs.size ((fun D => dNO T X.prog X.w D []) h.objs.size) :=
  dNO_ok T (dn0_empty h (beq_eq_false_iff_ne.mpr (Nat.ne_of_gt hb)))
end
end GX
/-! the truth of a dict keyed by nested tuples; its deletion -/
namespace GX
open PySem PySem.Spec PyProof.Rows L2 GxR
section
variable {κ : Type} [DecidableEq κ] {T : KT κ} {X : Cx}
def tTruN (T : KT κ) (P : Program) (w : World) (K : PySem.W.Frag) (ta : TE) : TT := fun σ H Q => ta σ H fun x H1 => ∃ (a : Addr) (es : List (κ × Addr × V)), x = .ref a ∧ Rd H1 a (dNO T P w a es) ∧ KeysAt T K H1 es ∧ Q (!es.isEmpty) H1
theorem pt_truN {e : Expr} {ta : TE} (ha : PE X e ta) (he : ∀ whole, isTrue e X.env whole = (do let v ← whole; standAt e.pos; holding [v] (truthy v))) : PT X e (tTruN T X.prog X.w X.K ta) := by
  refine ⟨fun pins s σ H Q I h => ?_⟩
  refine isTrue_plain (thn (ha.run pins s σ H _ I h) fun v s1 ⟨x, H1, I1, r1, a, es, ex, e1, hk, q⟩ => ?_) (he _)
  subst ex
  obtain rfl : v = Value.ref a := r1
  obtain ⟨z, l, us, hv, hm⟩ := dict_of I1 e1 hk
  have ls : (rowsN T es us).length = es.length := by
    unfold rowsN
    rw [List.length_map, List.length_zip, ← hv.length, List.length_map, Nat.min_self]
  have h63 := line63
  have ee : (rowsN T es us).isEmpty = es.isEmpty := by
    rw [Bool.eq_iff_iff, List.isEmpty_iff_length_eq_zero, List.isEmpty_iff_length_eq_zero, ls]
  exact truthy_dictH z hm (by rw [ls]; omega) ⟨H1, I1.tok _, by rw [ee]; exact q⟩
end
end GX
/-! list(d) of a dict keyed by nested tuples -/
namespace GX
open PySem PySem.Spec PyProof.Rows L2 GxR
section
variable {κ : Type} [DecidableEq κ] {T : KT κ} {X : Cx} {pins : List (Addr × Obj)} {σ : L2.St} {H : Hp} {s : Shared}
theorem dn_raw {a : Addr} {es : List (κ × Addr × V)} (I : Inv X pins σ H s) (ha : Rd H a (dNO T X.prog X.w a es)) :
    (a == sysModules) = false ∧ es.length ≤ sizeLine ∧ ∃ (ds : Array DictEntry) (ep : Nat), s.heap.DictRaw a ds ep ∧ ds.size = es.length ∧ ∀ (i : Nat) (e : κ × Addr × V), es[i]? = some e → ∃ en : DictEntry, ds[i]? = some en ∧ en.key = .ref e.2.1 := by
  obtain ⟨z, l, n, o, ds, ep, us, ho, hx, hd, hv, hr⟩ := dn0_of I ha
  have lu : us.length = es.length := by rw [← hv.length, List.length_map]
  have ld : ds.size = es.length := by
    rw [← Array.length_toList, hr, List.length_map]
    unfold rowsN
    rw [List.length_map, List.length_zip, lu, Nat.min_self]
  refine ⟨z, l, ds, ep, ⟨o, ho, hx, hd⟩, ld, fun i e he => ?_⟩
  have hi : i < us.length := by rw [lu]; exact (List.getElem?_eq_some_iff.mp he).1
  have hz : (es.zip us)[i]? = some (e, us[i]) := by rw [List.getElem?_zip_eq_some]; exact ⟨he, List.getElem?_eq_getElem hi⟩
  refine ⟨entryOfKey (nestedKind X.prog X.w) (keyN (T.enc e.1), e.2.1, us[i]), ?_, rfl⟩
  rw [← Array.getElem?_toList, hr]
  unfold rowsN
  rw [List.getElem?_map, List.getElem?_map, hz]
  rfl
theorem refs_keys : ∀ es : List (κ × Addr × V), Vals (es.map fun e => V.ref e.2.1) (es.map fun e => Value.ref e.2.1)
  | [] => .nil
  | e :: es => .cons rfl (refs_keys es)
theorem raw_keys {es : List (κ × Addr × V)} {ds : Array DictEntry} {acc : Array Value} (ld : ds.size = es.length) (hk : ∀ (i : Nat) (e : κ × Addr × V), es[i]? = some e → ∃ en : DictEntry, ds[i]? = some en ∧ en.key = .ref e.2.1)
    (h1 : acc.size = ds.size) (h2 : ∀ (j : Nat) (v : Value), acc[j]? = some v → ∃ hi : j < ds.size, v = ds[j].key) : acc.toList = es.map fun e => Value.ref e.2.1 := by
  refine List.ext_getElem? fun j => ?_
  rw [Array.getElem?_toList, List.getElem?_map]
  cases e1 : es[j]? with
  | none =>
    have : es.length ≤ j := List.getElem?_eq_none_iff.mp e1
    rw [Array.getElem?_eq_none (by omega)]
    rfl
  | some e =>
    have hj : j < es.length := (List.getElem?_eq_some_iff.mp e1).1
    have hja : j < acc.size := by omega
    obtain ⟨hi, hv⟩ := h2 j acc[j] (Array.getElem?_eq_getElem hja)
    obtain ⟨en, g1, g2⟩ := hk j e e1
    rw [Array.getElem?_eq_getElem hi] at g1
    cases g1
    rw [Array.getElem?_eq_getElem hja, hv, g2]
    rfl
/-- list(d): its keys -/
theorem cr_listN (hcalm : X.calm = true) : CallR X (.type "list") (fun xs H Q => ∃ (a : Addr) (es : List (κ × Addr × V)), xs = [.ref a] ∧ Rd H a (dNO T X.prog X.w a es) ∧ ∀ p, H p = none → Q (.ref p) (upd H p (.lst (es.map fun e => V.ref e.2.1)))) := by
  intro pins s σ H xs us Q I r q
  obtain ⟨a, es, ex, hd, q⟩ := q
  subst ex
  obtain ⟨u, eu, rx⟩ := vals1 r
  subst eu
  cases rx
  obtain ⟨z, l, ds, ep, raw, ld, hk⟩ := dn_raw I hd
  refine PySem.W.kdl_call (KdlSrc.rawDict (es := ds) (ep := ep) z) (I.ok.hd hcalm) raw (by rw [ld]; exact l) fun h' tk acc c' hk' hD hacc => ?_
  have ea := raw_keys ld hk hacc.1 hacc.2
  refine ⟨.ref s.heap.objs.size, upd H s.heap.objs.size (.lst (es.map fun e => V.ref e.2.1)), I.laid (t' := tk) hk' (Nat.le_refl _)
    (show ObjOk X.prog X.w _ _ _ (.lst (es.map fun e => V.ref e.2.1)) from ⟨by rw [List.length_map]; exact l, acc.toList, c', by rw [ea]; exact refs_keys es, by rw [Array.toArray_toList]; exact hD⟩), rfl, q _ (I.hok.fresh (Nat.le_refl _))⟩
end
end GX
/-! sorted(d) of a dict keyed by nested tuples -/
namespace GX
open PySem PySem.Spec PyProof.Rows L2 GxR
section
variable {κ : Type} [DecidableEq κ] {T : KT κ} {X : Cx}
theorem each_keys : ∀ es : List (κ × Addr × V), PySem.W.EachIs (fun (u : Value) (e : κ × Addr × V) => u = Value.ref e.2.1) (es.map fun e => Value.ref e.2.1) es
  | [] => .nil
  | _ :: es => .cons rfl (each_keys es)
theorem keys_each : ∀ {us : List Value} {es : List (κ × Addr × V)}, PySem.W.EachIs (fun (u : Value) (e : κ × Addr × V) => u = Value.ref e.2.1) us es → us = es.map fun e => Value.ref e.2.1
  | _, _, .nil => rfl
  | _, _, .cons h t => by rw [h, keys_each t]; rfl
/-- the entries in the order of their keys -/
def sortN (T : KT κ) (es : List (κ × Addr × V)) : List (κ × Addr × V) := es.mergeSort (PySem.W.dataLe false fun e => T.enc e.1)
theorem cr_sortedN (hcalm : X.calm = true) (hu : X.A.units + 64 < cLine) : CallR X (.builtin "sorted") (fun xs H Q => ∃ (a : Addr) (es : List (κ × Addr × V)), xs = [.ref a] ∧ Rd H a (dNO T X.prog X.w a es) ∧ KeysAt T X.K H es ∧ PySem.W.AllAlike (es.map fun e => T.enc e.1) ∧ PySem.W.Sortable (es.map fun e => T.enc e.1) ∧
    ∀ p, H p = none → Q (.ref p) (upd H p (.lst ((sortN T es).map fun e => V.ref e.2.1)))) := by
  intro pins s σ H xs us Q I r q
  obtain ⟨a, es, ex, hd, hk, al, so, q⟩ := q
  subst ex
  obtain ⟨u, eu, rx⟩ := vals1 r
  subst eu
  cases rx
  obtain ⟨z, l, ds, ep, raw, ld, hkk⟩ := dn_raw I hd
  refine Calls.call_function_entry PyProof.Rows.kind_sorted PyProof.Rows.plain_sorted PyProof.Rows.entry_sorted (PyProof.Rows.args_sorted1 _) ?_
  unfold Builtin.«sorted»
  refine wpAny_bind (m := checkCount "sorted" 1 1 _) (wpAny_pure ?_)
  refine wpAny_bind (PySem.W.kdu_collect (A := X.A.in1) (KdlSrc.rawDict (es := ds) (ep := ep) z) (I.ok.hd hcalm) raw (by rw [ld]; exact l) fun h' tk acc hk' hacc => ?_)
  have ea := raw_keys ld hkk hacc.1 hacc.2
  have I1 : Inv X pins σ H { s with heap := h', toks := tk } := I.kept hk'
  have hla : acc.toList.length = es.length := by rw [ea, List.length_map]
  refine wpAny_bind (wpAny_newList ?_ (by rw [hla]; exact l))
  have hoL : (h'.push (seqObj "list" acc.toList.toArray 0)).get? h'.objs.size = some (seqObj "list" acc.toList.toArray 0) := Heap.get?_push_size _ rfl
  have hE : PySem.W.EachIs (fun (u : Value) (e : κ × Addr × V) => u = Value.ref e.2.1) acc.toList es := by rw [ea]; exact each_keys es
  have er : PySem.W.EachIs (fun (v : Value) (b : κ × Addr × V) => ∃ as, Reads (h'.push (seqObj "list" acc.toList.toArray 0)) v (T.enc b.1) as ∧ h'.objs.size ∉ as) acc.toList es := (PySem.W.each_mem hE).mono fun v b ⟨e, hb⟩ => by
    subst e
    obtain ⟨as, rr⟩ := Dp.reads I1 _ (V.ref b.2.1) _ (hk b hb) rfl
    exact ⟨as, PyProof.Rows.Reads.keeps (fun b o e => Heap.get?_push_of_some _ e) rr, fun hm => by
      obtain ⟨o, ho⟩ := PyProof.On.reads_mem_get rr _ hm
      exact Nat.lt_irrefl _ (Heap.lt_size ho)⟩
  show wpAny _ _ _ _ _ { s with heap := h'.push (seqObj "list" acc.toList.toArray 0), toks := tk }
  refine wpAny_bind (wpAny_holding (PySem.W.list_sort_data (s := { s with heap := h'.push (seqObj "list" acc.toList.toArray 0), toks := tk }) hoL hE er al so l (fun b hb => by
    have := T.dp b.1
    show X.A.units + 1 + 1 + _ < cLine
    omega) fun out lo eo => ?_))
  have eo' : out = (sortN T es).map fun e => Value.ref e.2.1 := keys_each eo
  obtain ⟨e', he'⟩ := PyProof.Rows.sortedHeap_at (vs := acc.toList) (out := List.toArray out) hoL
  have hlen : ((sortN T es).map fun e => V.ref e.2.1).length ≤ sizeLine := by
    rw [List.length_map, sortN, List.length_mergeSort]
    exact l
  refine wpAny_pure ⟨_, rfl, .ref h'.objs.size, upd H h'.objs.size (.lst ((sortN T es).map fun e => V.ref e.2.1)), I1.laid (t' := tk) (fun b u e => ?_) (Nat.le_refl _)
    (show ObjOk X.prog X.w _ _ _ (.lst ((sortN T es).map fun e => V.ref e.2.1)) from ⟨hlen, out, e', by rw [eo']; exact refs_keys _, he'⟩), rfl, q _ (I1.hok.fresh (Nat.le_refl _))⟩
  have hb : b < h'.objs.size := Heap.lt_size e
  rw [PyProof.Rows.sortedHeap_old (Nat.ne_of_lt hb) (by rw [size_push']; exact Nat.lt_succ_of_lt hb)]
  exact Heap.get?_push_of_some _ e
end
end GX
/-! keys (x, y, i), i a small number, have hashes of their own in every world -/
namespace GX
open PySem PySem.Spec PyProof.Rows L2 GxR
/-- one lane of a tuple's hash -/
def laneH (A i : Nat) : Nat := ((((A + i * 14029467366897019727) % 2 ^ 64 * 2 ^ 31) % 2 ^ 64 + (A + i * 14029467366897019727) % 2 ^ 64 / 2 ^ 33) * 11400714785074694791) % 2 ^ 64
def lastH (f : Nat) : Nat := (f + 2870177450013471925) % 2 ^ 64
def toldH (f : Nat) : Int := if f == 2 ^ 64 - 1 then 1546275796 else if f < 2 ^ 63 then f else (f : Int) - (2 ^ 64 : Nat)
theorem rot_back {a b : Nat} (ha : a < 2 ^ 64) (hb : b = (a * 2 ^ 31) % 2 ^ 64 + a / 2 ^ 33) : b < 2 ^ 64 ∧ b / 2 ^ 31 + b % 2 ^ 31 * 2 ^ 33 = a := by
  have e1 : a * 2 ^ 31 % 2 ^ 64 = a % 2 ^ 33 * 2 ^ 31 := by omega
  rw [e1] at hb
  omega
theorem gmul {m P Q K b : Nat} (e : P * Q = m * K + 1) (hb : b < m) : (b * P) % m * Q % m = b := by
  rw [Nat.mod_mul_mod, Nat.mul_assoc, e, Nat.mul_add, Nat.mul_one, Nat.mul_left_comm, Nat.mul_add_mod]
  exact Nat.mod_eq_of_lt hb
theorem gadd {m P Q K : Nat} (e : P * Q = m * K + 1) (A i : Nat) : (A + i * P) % m * Q % m = (A * Q + i) % m := by
  rw [Nat.mod_mul_mod, Nat.add_mul, Nat.mul_assoc, e, Nat.mul_add, Nat.mul_one, Nat.mul_left_comm, Nat.add_left_comm, Nat.mul_add_mod]
theorem mul_back {b : Nat} (hb : b < 2 ^ 64) : (b * 11400714785074694791) % 2 ^ 64 * 614540362697595703 % 2 ^ 64 = b := gmul (K := 379806830464837242) (by decide +kernel) hb
/-- the lane's sum, out of the hash -/
def backH (f : Nat) : Nat := ((f + (2 ^ 64 - 2870177450013471925)) % 2 ^ 64 * 614540362697595703 % 2 ^ 64) / 2 ^ 31 + ((f + (2 ^ 64 - 2870177450013471925)) % 2 ^ 64 * 614540362697595703 % 2 ^ 64) % 2 ^ 31 * 2 ^ 33
theorem addC {c : Nat} (h : c < 2 ^ 64) : ((c + 2870177450013471925) % 2 ^ 64 + (2 ^ 64 - 2870177450013471925)) % 2 ^ 64 = c := by omega
theorem lane_core {a b : Nat} (h : b < 2 ^ 64 ∧ b / 2 ^ 31 + b % 2 ^ 31 * 2 ^ 33 = a) : backH (lastH (b * 11400714785074694791 % 2 ^ 64)) = a := by
  unfold backH lastH
  rw [addC (Nat.mod_lt _ (by decide)), mul_back h.1]
  exact h.2
theorem lane_back (A i : Nat) : backH (lastH (laneH A i)) = (A + i * 14029467366897019727) % 2 ^ 64 := by
  unfold laneH
  exact lane_core (rot_back (Nat.mod_lt _ (by decide)) rfl)
theorem add_back (A i : Nat) : (A + i * 14029467366897019727) % 2 ^ 64 * 839798700976720815 % 2 ^ 64 = (A * 839798700976720815 + i) % 2 ^ 64 := gadd (K := 638699622168397319) (by decide +kernel) A i
theorem told_inj {f g : Nat} (hf : f < 2 ^ 64) (hg : g < 2 ^ 64) (h : toldH f = toldH g) : f = g ∨ (f = 2 ^ 64 - 1 ∧ g = 1546275796) ∨ (g = 2 ^ 64 - 1 ∧ f = 1546275796) := by
  unfold toldH at h
  by_cases a : f = 2 ^ 64 - 1
  · by_cases b : g = 2 ^ 64 - 1
    · exact .inl (a.trans b.symm)
    · rw [if_pos (beq_iff_eq.mpr a), if_neg (fun z => b (beq_iff_eq.mp z))] at h
      split at h
      · omega
      · omega
  · rw [if_neg (fun z => a (beq_iff_eq.mp z))] at h
    by_cases b : g = 2 ^ 64 - 1
    · rw [if_pos (beq_iff_eq.mpr b)] at h
      split at h
      · omega
      · omega
    · rw [if_neg (fun z => b (beq_iff_eq.mp z))] at h
      split at h
      · split at h
        · omega
        · omega
      · split at h
        · omega
        · omega
theorem fin0 {a i j : Nat} (hi : i < 4096) (hj : j < 4096) (h : (a + i) % 2 ^ 64 = (a + j) % 2 ^ 64) : i = j := by omega
theorem fin1 {a i j : Nat} (hi : i < 4096) (hj : j < 4096) (h1 : 16680575644954319924 = (a + i) % 2 ^ 64) (h2 : 7868393759306762799 = (a + j) % 2 ^ 64) : i = j := by omega
theorem lanes_apart {A i j : Nat} (hi : i < 4096) (hj : j < 4096) (h : toldH (lastH (laneH A i)) = toldH (lastH (laneH A j))) : i = j := by
  have b1 : backH (2 ^ 64 - 1) * 839798700976720815 % 2 ^ 64 = 16680575644954319924 := by decide +kernel
  have b2 : backH 1546275796 * 839798700976720815 % 2 ^ 64 = 7868393759306762799 := by decide +kernel
  have ei : backH (lastH (laneH A i)) * 839798700976720815 % 2 ^ 64 = (A * 839798700976720815 + i) % 2 ^ 64 := by rw [lane_back]; exact add_back A i
  have ej : backH (lastH (laneH A j)) * 839798700976720815 % 2 ^ 64 = (A * 839798700976720815 + j) % 2 ^ 64 := by rw [lane_back]; exact add_back A j
  rcases told_inj (Nat.mod_lt _ (by decide)) (Nat.mod_lt _ (by decide)) h with e | ⟨e1, e2⟩ | ⟨e1, e2⟩
  · rw [show lastH (laneH A i) = lastH (laneH A j) from e, ej] at ei
    exact (fin0 hj hi ei).symm
  · rw [show lastH (laneH A i) = 2 ^ 64 - 1 from e1, b1] at ei
    rw [show lastH (laneH A j) = 1546275796 from e2, b2] at ej
    exact fin1 hi hj ei ej
  · rw [show lastH (laneH A i) = 1546275796 from e2, b2] at ei
    rw [show lastH (laneH A j) = 2 ^ 64 - 1 from e1, b1] at ej
    exact (fin1 hj hi ej ei).symm
end GX
/-! keys (x, y, i), i below 4096: their hashes differ in every world -/
namespace GX
open PySem PySem.Spec PyProof.Rows L2 GxR
def accG (m p1 p2 : Nat) (a : Nat) (h : Int) : Nat := (((a + (h % (m : Int)).toNat * p2) % m * 2 ^ 31) % m + (a + (h % (m : Int)).toNat * p2) % m / 2 ^ 33) * p1 % m
def finG (m a x : Nat) : Int := if (a + x) % m == m - 1 then 1546275796 else if (a + x) % m < 2 ^ 63 then ((a + x) % m : Nat) else (((a + x) % m : Nat) : Int) - m
def tupG (m p1 p2 p5 x : Nat) (hs : List Int) : Int := finG m (hs.foldl (accG m p1 p2) p5) (hs.length ^^^ (p5 ^^^ x))
theorem tup_eq (hs : List Int) : Builtin.Tuple.tupleHashOf hs = tupG (2 ^ 64) 11400714785074694791 14029467366897019727 2870177450012600261 3527539 hs := by
  unfold Builtin.Tuple.tupleHashOf tupG finG accG
  dsimp only
theorem tup3 (m p1 p2 p5 x : Nat) (a b c : Int) : tupG m p1 p2 p5 x [a, b, c] = finG m (accG m p1 p2 (accG m p1 p2 (accG m p1 p2 p5 a) b) c) (3 ^^^ (p5 ^^^ x)) := by
  unfold tupG
  rw [List.foldl_cons, List.foldl_cons, List.foldl_cons, List.foldl_nil, List.length_cons, List.length_cons, List.length_cons, List.length_nil]
theorem xor3 : (3 ^^^ (2870177450012600261 ^^^ 3527539) : Nat) = 2870177450013471925 := by decide +kernel
theorem acc_lane {A i : Nat} (hi : i < 4096) : accG (2 ^ 64) 11400714785074694791 14029467366897019727 A (i : Int) = laneH A i := by
  unfold accG laneH
  have e : (((i : Int)) % ((2 ^ 64 : Nat) : Int)).toNat = i := by omega
  rw [e]
theorem fin_told (a : Nat) : finG (2 ^ 64) a 2870177450013471925 = toldH (lastH a) := rfl
theorem hash_small {i : Nat} (h : i < 4096) : hashInt (i : Int) = (i : Int) := by
  have k : ∀ i < 4096, hashInt ((i : Nat) : Int) = ((i : Nat) : Int) := by decide +kernel
  exact k i h
theorem told_range (f : Nat) (h : f < 2 ^ 64) : -(2 ^ 63 : Int) ≤ toldH f ∧ toldH f < 2 ^ 63 ∧ toldH f ≠ -1 := by
  unfold toldH
  by_cases a : f = 2 ^ 64 - 1
  · rw [if_pos (beq_iff_eq.mpr a)]
    decide
  · rw [if_neg (fun z => a (beq_iff_eq.mp z))]
    split
    · omega
    · omega
theorem reduce_told (f : Nat) (h : f < 2 ^ 64) : reduceHash (toldH f) = toldH f := by
  obtain ⟨h1, h2, h3⟩ := told_range f h
  unfold reduceHash
  rw [if_pos (by rw [Bool.and_eq_true, decide_eq_true_eq, decide_eq_true_eq]; exact ⟨h1, h2⟩), if_neg (fun z => h3 (beq_iff_eq.mp z))]
/-- the keys (x, y, i) and (x, y, j) hash apart -/
theorem hash_apart {w : World} {x y : NestedKey} {i j : Nat} (hi : i < 4096) (hj : j < 4096) (h : NestedKey.hash w (.tup [x, y, .num (i : Int)]) = NestedKey.hash w (.tup [x, y, .num (j : Int)])) : i = j := by
  have key : ∀ i < 4096, NestedKey.hash w (.tup [x, y, .num ((i : Nat) : Int)]) = toldH (lastH (laneH (accG (2 ^ 64) 11400714785074694791 14029467366897019727 (accG (2 ^ 64) 11400714785074694791 14029467366897019727 2870177450012600261 (x.hash w)) (y.hash w)) i)) := fun i hi => by
    have e : NestedKey.hashes w [x, y, .num (i : Int)] = [x.hash w, y.hash w, (i : Int)] := by
      rw [NestedKey.hashes, NestedKey.hashes, NestedKey.hashes, NestedKey.hashes, NestedKey.hash, hash_small hi]
    rw [NestedKey.hash, e, tup_eq, tup3, xor3, acc_lane hi, fin_told]
    exact reduce_told _ (Nat.mod_lt _ (by decide))
  rw [key i hi, key j hj] at h
  exact lanes_apart hi hj h
end GX
/-! dict(d), d == e of dicts keyed by nested tuples; what can be read stays -/
namespace GX
open PySem PySem.Spec PyProof.Rows L2 GxR
/-- what can be read can be read later too (objects of own classes aside) -/
def RS (H H' : Hp) : Prop := ∀ a u, (∀ o v, u ≠ .frz o v) → (∀ C dx fs, u ≠ .ins C dx fs) → (∀ ps, u ≠ .tbl ps) → Rd H a u → Rd H' a u
theorem RS.refl {H : Hp} : RS H H := fun _ _ _ _ _ h => h
theorem RS.trans {H H1 H2 : Hp} (a : RS H H1) (b : RS H1 H2) : RS H H2 := fun x u n m t h => b x u n m t (a x u n m t h)
theorem rs_same {H H' : Hp} (s : Same H H') : RS H H' := fun a u _ _ _ h => by
  rcases h with h | ⟨o, h⟩
  · exact .inl (s a _ h)
  · exact .inr ⟨o, s a _ h⟩
theorem rs_lock {H : Hp} {d : Addr} {u : HO} {o : Obj} (h : H d = some u) (n : ∀ o v, u ≠ .frz o v) : RS H (upd H d (.frz o u)) := fun a v _ _ _ r => by
  by_cases e : a = d
  · subst e
    rcases r with r | ⟨o', r⟩
    · rw [h] at r
      cases r
      exact .inr ⟨o, upd_same⟩
    · rw [h] at r
      cases r
      exact absurd rfl (n o' v)
  · rcases r with r | ⟨o', r⟩
    · exact .inl ((upd_ne e).trans r)
    · exact .inr ⟨o', (upd_ne e).trans r⟩
theorem rs_unlock {H : Hp} {d : Addr} {u : HO} {o : Obj} (h : H d = some (.frz o u)) : RS H (upd H d u) := fun a v n _ _ r => by
  by_cases e : a = d
  · subst e
    rcases r with r | ⟨o', r⟩
    · rw [h] at r
      cases r
      exact absurd rfl (n o u)
    · rw [h] at r
      cases r
      exact .inl upd_same
  · rcases r with r | ⟨o', r⟩
    · exact .inl ((upd_ne e).trans r)
    · exact .inr ⟨o', (upd_ne e).trans r⟩
theorem rs_ins {H : Hp} {x C dx : Addr} {fs : List (Str × V)} {o : HO} (h : H x = some (.ins C dx fs)) : RS H (upd H x o) := fun a v _ m _ r => by
  by_cases e : a = x
  · subst e
    rcases r with r | ⟨o', r⟩
    · rw [h] at r
      cases r
      exact absurd rfl (m C dx fs)
    · rw [h] at r
      cases r
  · rcases r with r | ⟨o', r⟩
    · exact .inl ((upd_ne e).trans r)
    · exact .inr ⟨o', (upd_ne e).trans r⟩
/-- a table of generators changes, nothing else that stood -/
theorem rs_tb {H H' : Hp} {T : Addr} (hT : ∃ ps, H T = some (.tbl ps)) (h : ∀ b o, b ≠ T → H b = some o → H' b = some o) : RS H H' := fun a v _ _ t r => by
  obtain ⟨ps, hT⟩ := hT
  by_cases e : a = T
  · subst e
    rcases r with r | ⟨o', r⟩
    · rw [hT] at r
      cases r
      exact absurd rfl (t ps)
    · rw [hT] at r
      cases r
  · rcases r with r | ⟨o', r⟩
    · exact .inl (h _ _ e r)
    · exact .inr ⟨o', h _ _ e r⟩
theorem RS.dn {κ : Type} [DecidableEq κ] {T : KT κ} {P : Program} {w : World} {H H' : Hp} {a : Addr} {es : List (κ × Addr × V)} (s : RS H H') (h : Rd H a (dNO T P w a es)) : Rd H' a (dNO T P w a es) := s _ _ (fun _ _ h => nomatch h) (fun _ _ _ h => nomatch h) (fun _ h => nomatch h) h
section
variable {K : PySem.W.Frag} {H H' : Hp}
theorem RS.sqt (s : RS H H') {a : Addr} {xs : List V} (h : SqT K H a xs) : SqT K H' a xs := h.imp (s _ _ (fun _ _ h => nomatch h) (fun _ _ _ h => nomatch h) (fun _ h => nomatch h)) id
theorem RS.sql (s : RS H H') {a : Addr} {xs : List V} (h : SqL K H a xs) : SqL K H' a xs := h.imp (s _ _ (fun _ _ h => nomatch h) (fun _ _ _ h => nomatch h) (fun _ h => nomatch h)) id
mutual
theorem Dp.rs (s : RS H H') : ∀ (d : PyData) (v : V), Dp K H v d → Dp K H' v d
  | .none, _, h => by cases h; exact .non
  | .bool b, _, h => by cases h; exact .bl b
  | .int i, _, h => by cases h; exact .int i
  | .str x, _, h => by cases h; exact .str x
  | .list ds, _, h => by
    cases h with
    | lst hs ha => exact .lst (s.sql hs) (Dp.rsAll s ds _ ha)
  | .tuple ds, _, h => by
    cases h with
    | tup hs ha => exact .tup (s.sqt hs) (Dp.rsAll s ds _ ha)
  | .dict _, _, h => nomatch h
theorem Dp.rsAll (s : RS H H') : ∀ (ds : List PyData) (vs : List V), DpAll K H vs ds → DpAll K H' vs ds
  | [], _, h => by cases h; exact .nil
  | d :: ds, _, h => by
    cases h with
    | cons h1 h2 => exact .cons (Dp.rs s d _ h1) (Dp.rsAll s ds _ h2)
end
end
/-- tuples stay: enough for data of ints, texts and tuples -/
def TSt (K : PySem.W.Frag) (H H' : Hp) : Prop := ∀ x ys, SqT K H x ys → SqT K H' x ys
section
variable {K : PySem.W.Frag} {H H' : Hp}
theorem RS.tst (s : RS H H') : TSt K H H' := fun _ _ h => s.sqt h
theorem TSt.refl : TSt K H H := fun _ _ h => h
theorem TSt.trans {H2 : Hp} (a : TSt K H H') (b : TSt K H' H2) : TSt K H H2 := fun x ys h => b x ys (a x ys h)
/-- something that is no tuple is written -/
theorem tst_upd {E : Addr} {o o' : HO} (e : H E = some o) (n : ∀ xs, o ≠ .tup xs) (n' : ∀ p xs, o ≠ .frz p (.tup xs)) : TSt K H (upd H E o') := fun x zs h => by
  rcases h with r | r
  · by_cases q : x = E
    · subst q
      rcases r with r | ⟨p, r⟩
      · rw [e] at r
        cases r
        exact absurd rfl (n zs)
      · rw [e] at r
        cases r
        exact absurd rfl (n' p zs)
    · rcases r with r | ⟨p, r⟩
      · exact .inl (.inl ((upd_ne q).trans r))
      · exact .inl (.inr ⟨p, (upd_ne q).trans r⟩)
  · exact .inr r
mutual
theorem Dp.tst (s : TSt K H H') : ∀ (d : PyData) (v : V), kd d = true → Dp K H v d → Dp K H' v d
  | .int i, _, _, h => by cases h; exact .int i
  | .str x, _, _, h => by cases h; exact .str x
  | .tuple ds, _, k, h => by
    cases h with
    | tup hs ha => exact .tup (s _ _ hs) (Dp.tstAll s ds _ (by rw [kd] at k; exact k) ha)
  | .none, _, k, _ => by simp [kd] at k
  | .bool _, _, k, _ => by simp [kd] at k
  | .list _, _, k, _ => by simp [kd] at k
  | .dict _, _, k, _ => by simp [kd] at k
theorem Dp.tstAll (s : TSt K H H') : ∀ (ds : List PyData) (vs : List V), kdAll ds = true → DpAll K H vs ds → DpAll K H' vs ds
  | [], _, _, h => by cases h; exact .nil
  | d :: ds, _, k, h => by
    rw [kdAll, Bool.and_eq_true] at k
    cases h with
    | cons h1 h2 => exact .cons (Dp.tst s d _ k.1 h1) (Dp.tstAll s ds _ k.2 h2)
end
end
section
variable {κ : Type} [DecidableEq κ] {T : KT κ} {K : PySem.W.Frag} {H H' : Hp}
theorem KT.ts {v : V} {k : κ} (s : TSt K H H') (h : Dp K H v (T.enc k)) : Dp K H' v (T.enc k) := Dp.tst s _ _ (T.kd k) h
theorem KeysAt.ts {es : List (κ × Addr × V)} (s : TSt K H H') (h : KeysAt T K H es) : KeysAt T K H' es := fun e he => KT.ts s (h e he)
end
section
variable {κ : Type} [DecidableEq κ] {T : KT κ} {X : Cx} {pins : List (Addr × Obj)} {σ : L2.St} {H : Hp} {s : Shared}
theorem call_dict_H {prog : Program} {w : World} {κ' : Type} [DecidableEq κ'] {knd : HeapKind prog w κ'} {A : Around} {E : Value → Shared → Prop} {s : Shared} {o : Addr} {more : List (κ' × Addr × Value)} {Q : Value → Shared → Prop} (hu : knd.room A.in1.in1) (hoS : (o == sysModules) = false) (ho : s.heap.DictOfH knd o more) (ho' : (s.heap.push { cls := .type "dict", data := .dict #[] }).DictOfH knd o more)
    (hap : (∀ x ∈ more, Shared.TypeIs { s with heap := s.heap.push { cls := .type "dict", data := .dict #[] } } (.ref x.2.1) "tuple") ∧ (more.map fun x => knd.hash x.1).Nodup) (hsz : more.length ≤ sizeLine)
    (h : ∀ h', h'.DictOfH knd s.heap.objs.size more → Heap.SameBut s.heap.objs.size (s.heap.push { cls := .type "dict", data := .dict #[] }) h' → Q (.ref s.heap.objs.size) { s with heap := h' }) :
    wpAny (model prog w) A (call (.type "dict") [.ref o]) Q E s := by
  refine callType_codes (Q₁ := fun obj s₁ => obj = .ref s.heap.objs.size ∧ s₁ = { s with heap := s.heap.push { cls := .type "dict", data := .dict #[] } }) F.kt_called_dict (F.kt_typeCall_dict_1 _) F.entry_dict_init (kt_code_dict_new _ ⟨rfl, rfl⟩) ?_
  rintro obj s₁ ⟨rfl, rfl⟩
  have hnew : (s.heap.push { cls := .type "dict", data := .dict #[] }).DictOfH knd s.heap.objs.size [] := Heap.DictOfH.new s.heap
  have hdo : s.heap.objs.size ≠ o := by
    obtain ⟨_, _, _, hg, _⟩ := ho
    exact fun e => absurd (Heap.lt_size hg) (by rw [e]; exact Nat.lt_irrefl _)
  have hn := ho.nodup
  have hT : Shared.TypeIs { s with heap := s.heap.push { cls := .type "dict", data := .dict #[] } } (.ref s.heap.objs.size) "dict" := ⟨_, Heap.get?_push_size _ rfl, rfl⟩
  refine ⟨hT, F.args_dict_init_2 _ _, ?_⟩
  unfold Builtin.«dict.__init__»
  refine wpAny_bind ?_
  unfold Builtin.Dict.selfAndRest
  refine wpAny_bind (wpAny_notOrdered_dict hT ?_)
  show wpAny _ _ (pure (s.heap.objs.size, [Value.ref o])) _ _ _
  refine wpAny_pure ?_
  show wpAny _ _ (Builtin.Dict.updateFrom "dict.__init__" s.heap.objs.size (.ref o) [] .none) _ _ _
  refine updateFrom_dictH (A := A.in1) .none hu hdo hoS hnew ho' (.inr hap) (by simpa using hsz) fun h' hd' _ hs' => ?_
  rw [storedAllH_nil_of_nodup more hn] at hd'
  exact ⟨rfl, h h' hd' hs'⟩
/-- dict(d) -/
theorem cr_dictN (hu : X.A.units + 64 < cLine) : CallR X (.type "dict") (fun xs H Q => ∃ (a : Addr) (es : List (κ × Addr × V)), xs = [.ref a] ∧ Rd H a (dNO T X.prog X.w a es) ∧ KeysAt T X.K H es ∧ (es.map fun e => NestedKey.hash X.w (keyN (T.enc e.1))).Nodup ∧ ∀ p, H p = none → Q (.ref p) (upd H p (dNO T X.prog X.w p es))) := by
  intro pins s σ H xs us Q I r q
  obtain ⟨a, es, ex, hd, hk, hh, q⟩ := q
  subst ex
  obtain ⟨u, eu, rx⟩ := vals1 r
  subst eu
  cases rx
  obtain ⟨z, l, us, hv, hm⟩ := dict_of I hd hk
  have ls : (rowsN T es us).length = es.length := by
    unfold rowsN
    rw [List.length_map, List.length_zip, ← hv.length, List.length_map, Nat.min_self]
  obtain ⟨_, _, nd, _⟩ := dn0_of I hd
  have lu : us.length = es.length := by rw [← hv.length, List.length_map]
  have eh : ((rowsN T es us).map fun x => (nestedKind X.prog X.w).hash x.1) = es.map fun e => NestedKey.hash X.w (keyN (T.enc e.1)) := by
    unfold rowsN
    rw [List.map_map]
    conv => rhs; rw [show es = (es.zip us).map Prod.fst from (List.map_fst_zip (by omega)).symm, List.map_map]
    rfl
  have h63 := line63
  have hm' : (s.heap.push { cls := .type "dict", data := .dict #[] }).DictOfH (nestedKind X.prog X.w) a (rowsN T es us) := by
    obtain ⟨o, ds, ep, g1, g2, g3, g4, g5, g6⟩ := id hm
    exact ⟨o, ds, ep, Heap.get?_push_of_some _ g1, g2, g3, g4, fun x hx => nestedKind_stays.stays (fun b o _ _ e _ => Heap.get?_push_of_some _ e) (g5 x hx), g6⟩
  refine call_dict_H (knd := nestedKind X.prog X.w) (by show X.A.units + 1 + 1 + 8 < cLine; omega) z hm hm' ⟨fun x hx => ?_, by rw [eh]; exact hh⟩ (by rw [ls]; omega) fun h' hd' hs' => ?_
  · obtain ⟨_, _, _, _, _, _, _, g5, _⟩ := hm'
    exact nestedKind_stays.tuple (g5 x hx)
  · have z' : (s.heap.objs.size == sysModules) = false := beq_eq_false_iff_ne.mpr (Nat.ne_of_gt I.big)
    obtain ⟨o', ds, ep, ho, hx, hdd, hr, _, _⟩ := hd'
    have R : DN0 T X.prog X.w h' s.heap.objs.size es := ⟨z', l, nd, o', ds, ep, us, ho, hx, hdd, hv, hr⟩
    exact ⟨.ref s.heap.objs.size, _, I.laid (t' := s.toks) (fun b u e => (hs'.2 b (Nat.ne_of_lt (Heap.lt_size e))).trans (Heap.get?_push_of_some _ e)) (Nat.le_refl _) (dNO_ok T R), rfl, q _ (I.hok.fresh (Nat.le_refl _))⟩
end
end GX
/-! d == e of dicts keyed by nested tuples -/
namespace GX
open PySem PySem.Spec PyProof.Rows PyProof.V L2 GxR
section
variable {prog : Program} {w : World} {K : Type} [DecidableEq K] {knd : HeapKind prog w K} {A : Around} {E : Value → Shared → Prop} {s : Shared}
inductive HitsH {K : Type} [DecidableEq K] (prog : Program) (w : World) (A : Around) (s : Shared) (kb : List (K × Addr × Value)) : List (K × Addr × Value) → Bool → Prop
  | nil : HitsH prog w A s kb [] true
  | miss {k : K} {a : Addr} {v : Value} {r : List (K × Addr × Value)} : atKey kb k = none → HitsH prog w A s kb ((k, a, v) :: r) false
  | hit {k : K} {a b : Addr} {v y : Value} {r : List (K × Addr × Value)} {e c : Bool} : atKey kb k = some (b, y) → SeqAt.EqP prog w A s v y e → HitsH prog w A s kb r c → HitsH prog w A s kb ((k, a, v) :: r) (e && c)
theorem HitsH.inv {kb : List (K × Addr × Value)} {k : K} {a : Addr} {v : Value} {r : List (K × Addr × Value)} {b : Bool} (h : HitsH prog w A s kb ((k, a, v) :: r) b) :
    (atKey kb k = none ∧ b = false) ∨ ∃ c y e b', atKey kb k = some (c, y) ∧ SeqAt.EqP prog w A s v y e ∧ HitsH prog w A s kb r b' ∧ b = (e && b') := by
  cases h with
  | miss hn => exact .inl ⟨hn, rfl⟩
  | hit hy he hr => exact .inr ⟨_, _, _, _, hy, he, hr, rfl⟩
theorem at_of_get {ys : List (K × Addr × Value)} {k : K} {j : Nat} {p : Addr × Value} (n : (ys.map (·.1)).Nodup) (h : ys[j]? = some (k, p)) : atKey ys k = some p := by
  induction ys generalizing j with
  | nil => cases h
  | cons y ys ih =>
    rw [List.map_cons, List.nodup_cons] at n
    cases j with
    | zero =>
      simp only [List.getElem?_cons_zero, Option.some.injEq] at h
      subst h
      unfold atKey
      simp
    | succ j =>
      rw [List.getElem?_cons_succ] at h
      have := ih n.2 h
      have hm : k ∈ ys.map (·.1) := List.mem_map.mpr ⟨(k, p), List.mem_of_getElem? h, rfl⟩
      have hk : y.1 ≠ k := fun e => n.1 (by rw [e]; exact hm)
      unfold atKey at this ⊢
      simp only [List.find?_cons]
      rw [show decide (y.1 = k) = false from decide_eq_false hk]
      exact this
theorem at_none {ys : List (K × Addr × Value)} {k : K} (h : ∀ (j : Nat) (p : Addr × Value), ys[j]? ≠ some (k, p)) : atKey ys k = none := by
  unfold atKey
  cases e : ys.find? fun x => decide (x.1 = k) with
  | none => rfl
  | some x =>
    obtain ⟨j, hj⟩ := List.getElem?_of_mem (List.mem_of_find?_eq_some e)
    have hk : x.1 = k := of_decide_eq_true (List.find?_some (p := fun x : K × Addr × Value => decide (x.1 = k)) e)
    exact absurd (by rw [hj, ← hk]) (h j x.2)
theorem samePairsH {nm : String} {a b : Addr} {ka kb : List (K × Addr × Value)} {r : Bool} {Q : Bool → Shared → Prop} (hu : knd.room A) (ha : (a == sysModules) = false) (hb : (b == sysModules) = false)
    (da : s.heap.DictOfH knd a ka) (db : s.heap.DictOfH knd b kb) (hits : ka.length = kb.length → HitsH prog w A s kb ka r) (h : Q (ka.length == kb.length && r) s) :
    wpAny (model prog w) A (Builtin.Dict.samePairs nm a b) Q E s := by
  obtain ⟨oa, es, ep, hoa, _, hda, hea, hia, hna⟩ := da
  obtain ⟨ob, es', ep', hob, _, hdb, heb, hib, hnb⟩ := db
  have hla : ka.length = es.size := (size_of_entries hea).symm
  have hlb : kb.length = es'.size := (size_of_entries heb).symm
  rw [hla, hlb] at h
  unfold Builtin.Dict.samePairs Builtin.Dict.showsAll
  rw [if_neg (show ¬ (a == sysModules) = true by rw [ha]; exact Bool.false_ne_true), if_neg (show ¬ (b == sysModules) = true by rw [hb]; exact Bool.false_ne_true)]
  refine wpAny_bind (wpAny_pure (wpAny_bind (wpAny_pure ?_)))
  refine wpAny_bind (wpAny_dictEntries hoa hda ?_)
  dsimp only
  refine wpAny_bind (wpAny_dictEntries hob hdb ?_)
  by_cases hsz : es.size = es'.size
  case neg =>
    rw [if_pos (by simpa using hsz)]
    have hbf : (es.size == es'.size) = false := by simpa using hsz
    rw [hbf, Bool.false_and] at h
    exact wpAny_bind (wpAny_rule (wpAny_pure h))
  case pos =>
    have h' : Q r s := by simpa [hsz] using h
    have hits' := hits (by rw [hla, hlb]; exact hsz)
    rw [if_neg (by rw [hsz]; simp)]
    refine wpAny_bind (wpAny_dictEpoch hoa hda ?_)
    refine wpAny_bind ?_
    rw [Std.Legacy.Range.forIn_eq_forIn_range']
    simp only [Std.Legacy.Range.size, Nat.sub_zero, Nat.add_sub_cancel, Nat.div_one]
    refine wpAny_forIn_list _
      (fun rest q s' => s' = s ∧ q = (none, ()) ∧ ∃ i, rest = List.range' i (es.size - i) ∧ i ≤ es.size ∧ HitsH prog w A s kb (ka.drop i) r)
      _ ?_ ?_ _ _ ⟨rfl, rfl, 0, by simp, Nat.zero_le _, hits'⟩
    · rintro x rest q s' ⟨rfl, rfl, i, hr, hi, hpre⟩
      have hlt : i < es.size := by
        rcases Nat.lt_or_ge i es.size with h | h
        · exact h
        · rw [Nat.sub_eq_zero_of_le h] at hr; simp at hr
      obtain ⟨rfl, hrest⟩ : x = i ∧ rest = List.range' (i + 1) (es.size - (i + 1)) := by
        have e : es.size - i = (es.size - (i + 1)) + 1 := by omega
        rw [e, List.range'_succ] at hr
        injection hr with h1 h2
        exact ⟨h1, h2⟩
      refine wpAny_bind (wpAny_dictEntries hoa hda ?_)
      have hlt' : x < ka.length := by rw [hla]; exact hlt
      obtain ⟨k, ad, v, hkv⟩ : ∃ k ad v, ka[x] = (k, ad, v) := ⟨_, _, _, rfl⟩
      have hdrop : ka.drop x = (k, ad, v) :: ka.drop (x + 1) := by rw [← hkv]; exact List.drop_eq_getElem_cons hlt'
      have hex : es[x]? = some (entryOfKey knd (k, ad, v)) := by rw [entry_at hea x, List.getElem?_eq_getElem hlt', hkv]; rfl
      rw [hex]
      have hkey := hia (k, ad, v) (hkv ▸ List.getElem_mem hlt')
      rw [hdrop] at hpre
      refine wpAny_bind (wpAny_holding (wpAny_bind (wpAny_dictFind_heap hu hkey hob hdb heb hib hnb (fun hno => ?_) fun j p hj => ?_)))
      · have hn : atKey kb k = none := at_none hno
        rcases hpre.inv with ⟨_, er⟩ | ⟨_, y, _, _, hy, _⟩
        · rw [er] at h'
          refine wpAny_pure ?_
          show wpAny _ _ (if (!false) = true then _ else _) _ _ _
          rw [if_pos (by decide)]
          exact wpAny_pure (wpAny_pure h')
        · rw [hn] at hy; exact nomatch hy
      · have hv' : atKey kb k = some p := at_of_get hnb hj
        have hej : es'[j]? = some (entryOfKey knd (k, p)) := by rw [entry_at heb j, hj]; rfl
        refine wpAny_bind (wpAny_dictEntries hob hdb ?_)
        rw [hej]
        rcases hpre.inv with ⟨hn, _⟩ | ⟨c, y, e, b', hy, he, hrr, er⟩
        · rw [hv'] at hn; exact nomatch hn
        · have ey : p = (c, y) := Option.some.inj (hv'.symm.trans hy)
          subst ey
          refine wpAny_holding (he _ _ ?_)
          cases e with
          | false =>
            rw [er, Bool.false_and] at h'
            show wpAny _ _ (if (!false) = true then _ else _) _ _ _
            rw [if_pos (by decide)]
            exact wpAny_pure (wpAny_pure h')
          | true =>
            rw [Bool.true_and] at er
            rw [← er] at hrr
            show wpAny _ _ (if (!true) = true then _ else _) _ _ _
            rw [if_neg (by decide)]
            refine wpAny_bind (wpAny_dictEpoch hoa hda ?_)
            rw [if_neg (by simp)]
            exact wpAny_pure ⟨rfl, rfl, x + 1, hrest, hlt, hrr⟩
    · rintro q s' ⟨rfl, rfl, i, hr, hi, hpre⟩
      have hin : i = es.size := by
        rcases Nat.lt_or_ge i es.size with h | h
        · have e : es.size - i = (es.size - (i + 1)) + 1 := by omega
          rw [e, List.range'_succ] at hr; exact nomatch hr
        · exact Nat.le_antisymm hi h
      refine wpAny_pure ?_
      rw [hin, ← hla, List.drop_length] at hpre
      cases hpre
      exact h'
theorem rcH_dicts {a b : Addr} {ka kb : List (K × Addr × Value)} {r : Bool} (hk : knd.room A.in1) (ha : (a == sysModules) = false) (hb : (b == sysModules) = false)
    (da : s.heap.DictOfH knd a ka) (db : s.heap.DictOfH knd b kb) (hu : A.units < cLine) (hits : ka.length = kb.length → HitsH prog w A.in1 s kb ka r) (E Q : Value → Shared → Prop) (h : Q (.bool (ka.length == kb.length && r)) s) : wpAny (model prog w) A (richCompare .Eq (.ref a) (.ref b)) Q E s := by
  refine wpAny_richCompare_same_room (op := .Eq) da.typeIs db.typeIs PySem.F.slot_dict_eq (wpAny_call_entry PySem.F.slot_dict_eq da.typeIs PySem.F.entry_dict_eq ?_ (PySem.F.args_dict_eq_2 _ _)) hu
  show wpAny _ _ (Builtin.Dict.dictSlotArgs "__eq__" ⟨[.ref a, .ref b], []⟩ >>= _) _ _ s
  refine wpAny_bind ?_
  unfold Builtin.Dict.dictSlotArgs
  refine wpAny_bind (wpAny_notOrdered_dict da.typeIs ?_)
  show wpAny _ _ (pure (Value.ref a, Value.ref b)) _ _ s
  refine wpAny_pure ?_
  refine wpAny_bind (wpAny_isInstance (T := "dict") db.typeIs PySem.F.sub_dict_dict ?_)
  simp only [Bool.not_true, Bool.false_eq_true, if_false]
  refine wpAny_bind (wpAny_pure (wpAny_bind (wpAny_pure ?_)))
  refine wpAny_bind (samePairsH hk ha hb da db hits ?_)
  refine wpAny_pure ⟨_, rfl, ?_, ?_⟩
  · exact fun x => nomatch x
  · simpa using h
end
section
variable {κ : Type} [DecidableEq κ] {T : KT κ} {X : Cx} {pins : List (Addr × Obj)} {σ : L2.St} {H : Hp} {s : Shared}
/-- the two dicts have equal values at equal keys; dv, dw: the values' data -/
def sameD (dv dw : κ → PyData) (es fs : List (κ × Addr × V)) : Bool := es.all fun e => (fs.any fun f => decide (f.1 = e.1)) && PyData.eqv (dv e.1) (dw e.1)
/-- the values are plain data -/
def ValsD (K : PySem.W.Frag) (H : Hp) (dv : κ → PyData) (es : List (κ × Addr × V)) : Prop := ∀ e ∈ es, Dp K H e.2.2 (dv e.1) ∧ (dv e.1).plain = true ∧ (dv e.1).depth ≤ 40
theorem hits_of {A : Around} (hu : A.units + 41 < cLine) (I : Inv X pins σ H s) {dv dw : κ → PyData} {fs : List (κ × Addr × V)} {vs : List Value} (hv : Vals (fs.map (·.2.2)) vs) (hf : ValsD X.K H dw fs) :
    ∀ {es : List (κ × Addr × V)} {us : List Value}, Vals (es.map (·.2.2)) us → ValsD X.K H dv es → HitsH X.prog X.w A s (rowsN T fs vs) (rowsN T es us) (sameD dv dw es fs)
  | [], _, .nil, _ => .nil
  | e :: es, u :: us, .cons r t, hd => by
    show HitsH _ _ _ _ _ ((keyN (T.enc e.1), e.2.1, u) :: rowsN T es us) _
    unfold sameD
    rw [List.all_cons]
    rcases rows_find (T := T) (k := e.1) hv with ⟨e1, e2⟩ | ⟨f, y, e1, e2, ry⟩
    · have : (fs.any fun f => decide (f.1 = e.1)) = false := by
        rw [← Bool.not_eq_true, List.any_eq_true]
        rintro ⟨f, hf1, hf2⟩
        exact absurd hf2 (by rw [List.find?_eq_none] at e2; exact e2 f hf1)
      rw [this, Bool.false_and, Bool.false_and]
      exact .miss e1
    · have hm := List.mem_of_find?_eq_some e1
      have hk : f.1 = e.1 := of_decide_eq_true (List.find?_some (p := fun f : κ × Addr × V => decide (f.1 = e.1)) e1)
      have : (fs.any fun f => decide (f.1 = e.1)) = true := List.any_eq_true.mpr ⟨f, hm, decide_eq_true hk⟩
      rw [this, Bool.true_and]
      obtain ⟨p1, p2, p3⟩ := hd e List.mem_cons_self
      obtain ⟨q1, q2, q3⟩ := hf f hm
      obtain ⟨as, ra⟩ := Dp.reads I _ _ u p1 r
      obtain ⟨bs, rb⟩ := Dp.reads I _ _ y q1 ry
      rw [hk] at q2 q3 rb
      exact .hit e2 (SeqAt.EqAt.eqP (SeqAt.eqAt_plain _ _ A s u y as bs ra rb p2 q2 (by omega))) (hits_of hu I hv hf t fun x hx => hd x (List.mem_cons_of_mem _ hx))
/-- d == e -/
def rEqN (T : KT κ) (P : Program) (w : World) (K : PySem.W.Frag) : R2 := fun x y H Q => ∃ (a b : Addr) (es fs : List (κ × Addr × V)) (dv dw : κ → PyData), x = .ref a ∧ y = .ref b ∧ Rd H a (dNO T P w a es) ∧ Rd H b (dNO T P w b fs) ∧ KeysAt T K H es ∧ KeysAt T K H fs ∧ ValsD K H dv es ∧ ValsD K H dw fs ∧ Q (.bl (es.length == fs.length && sameD dv dw es fs)) H
theorem op_eqN (hu : X.A.units + 64 < cLine) : OpR X (compareOp .Eq) (rEqN T X.prog X.w X.K) := fun pins s σ H x y v u Q I rx ry h => by
  obtain ⟨a, b, es, fs, dv, dw, rfl, rfl, ha, hb, ka, kb, va, vb, q⟩ := h
  cases rx
  cases ry
  obtain ⟨z1, l1, us, hv1, hm1⟩ := dict_of I ha ka
  obtain ⟨z2, l2, vs, hv2, hm2⟩ := dict_of I hb kb
  have ls1 : (rowsN T es us).length = es.length := by
    unfold rowsN
    rw [List.length_map, List.length_zip, ← hv1.length, List.length_map, Nat.min_self]
  have ls2 : (rowsN T fs vs).length = fs.length := by
    unfold rowsN
    rw [List.length_map, List.length_zip, ← hv2.length, List.length_map, Nat.min_self]
  refine rcH_dicts (knd := nestedKind X.prog X.w) (r := sameD dv dw es fs) (by show X.A.units + 1 + 8 < cLine; omega) z1 z2 hm1 hm2 (by omega) (fun _ => hits_of (by show X.A.units + 1 + 41 < cLine; omega) I hv2 vb hv1 va) _ _ ?_
  rw [ls1, ls2]
  exact ⟨.bl _, H, I, rfl, q⟩
end
end GX
/-! a method of a dict keyed by nested tuples; entries of a list as pairs -/
namespace GX
open PySem PySem.Spec PyProof.Rows L2 GxR
section
variable {κ : Type} [DecidableEq κ] {T : KT κ} {X : Cx}
def tBMN (T : KT κ) (P : Program) (w : World) (r : V → List V → Hp → VK → Prop) (to : TE) (t : TA) : TE := fun σ H Q => to σ H fun x H1 => (∃ a es, x = .ref a ∧ Rd H1 a (dNO T P w a es)) ∧ t σ H1 fun xs H2 => r x xs H2 Q
theorem pe_bmN {o e : Expr} {es : List Expr} {to : TE} {t : TA} {name : Str} {apos cpos : Pos} {id : String} {r : V → List V → Hp → VK → Prop} (pa : PlainAttrs "dict") (slot : Slot "dict" name id) (hty : typeOf (.builtin id) = pure (.type "method_descriptor")) (hm : MtR X id r) (ho : PE X o to) (ha : PA X (e :: es) t)
    (hbase : attributeBase o name X.env (eval o X.env) = eval o X.env := by rfl)
    (hfew : ((backTo cpos (starEach (e :: es) X.env)).all (fun x => !x.1) && (backToKw cpos (keywordEach [] X.env)).all (fun x => x.1.isSome)
      && decide ((e :: es).length + ([] : List Keyword).length + (if ([] : List Keyword).isEmpty then 0 else 1) < 30)) = true := by rfl)
    (hline : (apos.endLine == cpos.line) = true := by rfl) (hs : starEach (e :: es) X.env = (false, eval e X.env) :: starEach es X.env := by rfl) (hplain : (backTo cpos (starEach es X.env)).any (·.1) = false := by rfl) :
    PE X (.Call (.Attribute o name apos) (e :: es) [] cpos) (tBMN T X.prog X.w r to t) := by
  refine ⟨fun pins s σ H Q I h => ?_⟩
  refine wpAny_Call_method_late hbase hfew hline rfl (thn (ho.run pins s σ H _ I h) fun v s1 ⟨x, H1, I1, r1, ⟨a, es', ex, ty⟩, q1⟩ => ?_)
  have h12 : s1.TypeIs v "dict" ∧ ∀ a, v = .ref a → ∃ ob, s1.heap.get? a = some ob ∧ ob.dict = none := by
    subst ex
    obtain rfl : v = Value.ref a := r1
    obtain ⟨z, l, n, o, ds, ep, us, ho, hx, _⟩ := dn0_of I1 ty
    exact ⟨⟨o, ho, hx.1⟩, fun b e => by cases e; exact ⟨o, ho, hx.2.1⟩⟩
  refine ⟨"dict", id, pa, slot, hty, h12.1, h12.2, ?_⟩
  have hA := ha.run cpos pins s1 σ H1 _ I1 q1
  rw [hs] at hA ⊢
  refine Calls.callWith_builtin (by show (false || (backTo cpos (starEach es X.env)).any (·.1)) = false; rw [hplain] <;> rfl) (Calls.evalArgs_plain ?_)
  exact thn hA fun us s2 ⟨vs, H2, I2, r2, q2⟩ => hm pins s2 σ H2 x vs v us Q I2 r1 r2 q2
end
/-- a dict comprehension over a walk -/
theorem dg_it {J : It} {n : Nat} {G : Hp → Prop} {Y : Nat → Hp → V → Hp → Prop} (w : Walk J n G Y) {o0 : Addr → HO} {put : Addr → V → V → Hp → (Hp → Prop) → Prop} {g : TG} {tt : TT} {tk tv : TE} {vs : List Nat} {σ : L2.St} {H1 : Hp} {D : Addr} {Qd : Hp → Prop} (Pv : Nat → Hp → Prop) (h0 : Pv 0 (upd H1 D (o0 D))) (hG : ∀ i H, i ≤ n → Pv i H → G H)
    (hs : ∀ i x H H', i < n → Pv i H → Y i H x H' → g x (wipe σ vs) H' fun σ2 H2 => wipe σ2 vs = wipe σ vs ∧ tt σ2 H2 fun b H3 =>
      if b = true then tk σ2 H3 fun y H4 => tv σ2 H4 fun z H5 => put D y z H5 (Pv (i + 1)) else Pv (i + 1) H3) (hd : ∀ H, Pv n H → Qd H) :
    ∃ W : Nat → Nat → Hp → Prop, (∃ m, W 0 m (upd H1 D (o0 D))) ∧ ∀ i m H, W i m H →
      (J.stop i H ∧ Qd H) ∨ (J.go i H ∧ ∃ Nx : Hp → Prop, (∀ H', Nx H' → ∃ m', m' < m ∧ W (i + 1) m' H') ∧ ∀ x H', J.yld i H x H' → g x (wipe σ vs) H' fun σ2 H2 => wipe σ2 vs = wipe σ vs ∧ tt σ2 H2 fun b H3 =>
        if b = true then tk σ2 H3 fun y H4 => tv σ2 H4 fun z H5 => put D y z H5 Nx else Nx H3) := by
  refine ⟨fun i m H => m = n - i ∧ i ≤ n ∧ Pv i H, ⟨n, by simp, Nat.zero_le _, h0⟩, ?_⟩
  rintro i m H ⟨rfl, hi, p⟩
  have q := hG i H hi p
  by_cases hlt : i < n
  · exact .inr ⟨w.goes i H hlt q, Pv (i + 1), fun H' p' => ⟨n - (i + 1), by omega, rfl, hlt, p'⟩, fun x H' y => hs i x H H' hlt p (w.yields i H x H' hlt q y)⟩
  · have e : i = n := by omega
    subst e
    exact .inl ⟨w.stops H q, hd H p⟩
end GX
/-! sorted(d, key=lambda k: 0 - k[1]) of a dict keyed by tuples -/
namespace GX
open PySem PySem.Spec PyProof.Rows L2 GxR
open LamX (TabS CodeO inv_table among_app)
/-- the table at P may have grown, all else that is tracked stays -/
def LExt (P : Addr) (H H' : Hp) : Prop := ∀ b o, b ≠ P → H b = some o → H' b = some o
/-- c is a code object of the table at P -/
def Cds (H : Hp) (P c : Addr) : Prop := ∃ ps pos, H P = some (.tbl ps) ∧ codeAmong pos ps.toList = some (.ref c)
/-- the codes of the table: those that were there, and new objects -/
def CNew (P : Addr) (H H' : Hp) : Prop := ∀ c, Cds H' P c → Cds H P c ∨ H c = none
abbrev lamS : Str := Str.ofString "<lambda>"
section
variable {X : Cx} {pins : List (Addr × Obj)} {σ : L2.St} {H : Hp} {s : Shared}
theorem lam_mk {c P : Addr} {params : Arguments} {body : Expr} {scope : Scope} {pos : Pos} {E Q : Value → Shared → Prop} (I : Inv X pins σ H s) (TB : TabB X.base X.mg c P) (hcode : X.env.code = .ref c) (hT : TabS H P (X.env.qual ++ lamS))
    (hd : defaultsOf params X.env = ([], [])) (hcl : closureFor scope X.env = pure [])
    (h : ∀ (f c' : Addr) (pm ctv : Value) (H1 : Hp) (s' : Shared), Inv X pins σ H1 s' → LExt P H H1 → TabS H1 P (X.env.qual ++ lamS) → CNew P H H1 → s'.heap.get? f = some (W.kla_obj lamS (X.env.qual ++ lamS) params body scope [] pm c' ctv) → H1 c' = some (CodeO c' (X.env.qual ++ lamS)) → Q (.ref f) s') :
    wpAny (model X.prog X.w) X.A (eval (.Lambda params body scope pos) X.env) Q E s := by
  obtain ⟨ps, hP, hok, hall⟩ := hT
  have tb0 : s.heap.get? P = some (W.tabObj ps) := I.hok P _ hP
  have code1 : W.CodeHd s.heap c P := TB.code.keeps fun b o e => I.bk b o e
  have hns : s.heap.Ns mainGlobals X.mg := I.mod.glob.keeps I.bk
  obtain ⟨bm, om, m1, m2, m3, m4, m5, m6, m7, m8⟩ := TB.bm
  have bmS : s.heap.BuiltinsAt X.mg P := ⟨bm, om, m1, m2, m3, m4, I.bk _ _ m5, m6, m7, m8⟩
  refine W.kla_eval hd ?_
  cases hcd : codeAmong pos ps.toList with
  | some cv =>
    obtain ⟨c', rfl, hc'⟩ := hall pos cv hcd
    exact W.kla_makeFunctionHit hcl I.ok.glob hns hcode code1 tb0 hok hcd bmS fun ctv h' tk hk hsz =>
      h _ c' _ ctv H _ (I.kept (t' := tk) fun b u e => Heap.get?_push_of_some _ (hk b u e)) (fun _ _ _ e => e) ⟨ps, hP, hok, hall⟩ (fun _ h => .inl h) (Heap.get?_push_size _ rfl) hc'
  | none =>
    refine W.kla_makeFunction hcl I.ok.glob hns hcode code1 tb0 hok hcd TB.gP bmS fun c' ctv h' tk ext ge lt cr tab' => ?_
    obtain ⟨c1, o1, vs, t, e1, e2, e3, e4⟩ := cr
    cases e1
    have I' := inv_table (q := X.env.qual ++ lamS) (h' := h'.push (W.kla_obj lamS (X.env.qual ++ lamS) params body scope [] ((X.mg (Str.ofString "__name__")).getD Value.none) c' ctv)) (t' := tk) I hP (fun b o nb e => Heap.get?_push_of_some _ (ext b o nb e)) (Heap.get?_push_of_some _ tab') ge ⟨o1, vs, t, Heap.get?_push_of_some _ e2, e3, e4⟩
    have nc : c' ≠ P := fun z => by
      rw [z] at ge
      exact Nat.lt_irrefl _ (Nat.lt_of_lt_of_le (Heap.lt_size tb0) ge)
    have fc : H c' = none := I.hok.fresh ge
    refine h _ c' _ ctv _ _ I' (fun b o nb e => ?_) ⟨_, by rw [upd_ne (Ne.symm nc), upd_same], ?_, fun p' cv hcv => ?_⟩ (fun c2 h2 => ?_) (Heap.get?_push_size _ rfl) upd_same
    · rw [upd_ne (ne_of_none e fc), upd_ne nb]
      exact e
    · rw [Array.toList_append]
      exact TriplesOk_snoc _ _ _ _ hok
    · rw [Array.toList_append] at hcv
      rcases among_app _ hok hcv with z | rfl
      · obtain ⟨c2, rfl, hc2⟩ := hall p' cv z
        refine ⟨c2, rfl, ?_⟩
        rw [upd_ne (ne_of_none hc2 fc), upd_ne fun z => by rw [z, hP] at hc2; cases hc2]
        exact hc2
      · exact ⟨c', rfl, upd_same⟩
    · obtain ⟨ps2, pos2, h3, h4⟩ := h2
      rw [upd_ne (Ne.symm nc), upd_same] at h3
      cases h3
      rw [Array.toList_append] at h4
      rcases among_app _ hok h4 with z | z
      · exact .inl ⟨ps, pos2, hP, z⟩
      · rw [Value.ref.inj z]
        exact .inr fc
end
/-- the lambda's body: 0 - k[1] -/
abbrev keyS : Str := Str.ofString "key"
def lamArgs (p0 : Pos) : Arguments := { posonlyargs := [], args := [{ arg := keyS, annotation := none, pos := p0 }], vararg := none, kwonlyargs := [], kw_defaults := [], kwarg := none, defaults := [] }
def lamBody (p1 p2 p3 p4 p5 : Pos) : Expr := .BinOp (.Constant (.int 0) 0 p1) .Sub (.Subscript (.Name keyS p2) (.Constant (.int 1) 0 p3) p4) p5
def lamSc : Scope := { kind := .function, names := [(keyS, .local)], isGenerator := false, isCoroutine := false, more := [] }
theorem lam_key {prog : Program} {w : World} {A : Around} {s : Shared} {f t c' : Addr} {q : Str} {p0 p1 p2 p3 p4 p5 : Pos} {pm ctv : Value} {xs : List Value} {i : Int} {tk0 : Tok} (hdp : A.depth < recursionLimit)
    (hf : s.heap.get? f = some (W.kla_obj lamS q (lamArgs p0) (lamBody p1 p2 p3 p4 p5) lamSc [] pm c' ctv)) (hc : s.heap.CodeRec (.ref c') q) (hl : s.heap.NoLimit)
    (ht : IsTup s.heap t xs.toArray) (hx : xs[1]? = some (.int i tk0)) :
    wpAny (model prog w) A (call (.ref f) [.ref t]) (W.KeyPure (.int (0 - i)) s) (fun _ _ => False) s := by
  refine wpAny_call (W.kla_callFunE hdp hf rfl rfl rfl rfl hc ?_)
  have hb : bindArgs (W.kla_fn lamS q (lamArgs p0) (lamBody p1 p2 p3 p4 p5) lamSc [] pm (.ref c') ctv) { pos := [.ref t] } = pure [(keyS, .ref t)] := by rfl
  rw [hb]
  refine wpAny_pure (wpAny_newFunctionEnv_cells rfl (fun x hx => ?_) fun env he s1 x => ?_)
  · rw [List.mem_singleton.mp hx]
    exact .inl (show List.lookup keyS lamSc.names = some .local by decide +kernel)
  · subst he
    refine ⟨hl.keeps x.toInCall.keep, W.kla_codeExpr ?_⟩
    unfold lamBody
    obtain ⟨⟨⟨h1, tk1, e1⟩, xn, xk, xf⟩, xc, xa, xb⟩ := id x
    have st : ∀ tk, InCallC s _ _ _ _ { heap := s1.heap, gens := s1.gens, drawn := s1.drawn, toks := tk, os := s1.os } := fun tk => ⟨⟨⟨h1, tk, by rw [e1]⟩, xn, xk, xf⟩, xc, xa, xb⟩
    refine wpAny_BinOp (lit_int _ fun a tka ha => ?_)
    obtain ⟨ta, rfl⟩ : ∃ ta, a = .int 0 ta := by
      have := ha s.heap
      cases this
      exact ⟨_, rfl⟩
    refine Subscript_ (NameLC (st tka) rfl (show List.lookup keyS lamSc.names = some .local by decide +kernel) (v := .ref t) (by rfl) (lit_int _ fun b tkb hb => ?_) (by decide +kernel))
    obtain ⟨tb, rfl⟩ : ∃ tb, b = .int 1 tb := by
      have := hb s.heap
      cases this
      exact ⟨_, rfl⟩
    have ln : 1 < xs.length := (List.getElem?_eq_some_iff.mp hx).1
    obtain ⟨o, ho, hcl, n, hd⟩ := ht
    refine item_tupleT (l := xs) (j := 1) (x := .int i tk0) ⟨o, xk _ _ ho, hcl, n, hd⟩ (by decide) (by decide) (by
      unfold seqIndex?
      simp
      omega) hx (sub_int ?_)
    refine ⟨s1.heap, tkb + 1, ?_, xk, ?_⟩
    · rw [e1]
    · exact .int _ _

section
variable {κ : Type} [DecidableEq κ] {T : KT κ} {X : Cx}
/-- the entries by their numbers, the greatest first -/
def sortK (num : κ → Int) (es : List (κ × Addr × V)) : List (κ × Addr × V) := es.mergeSort (PySem.W.dataLe false fun e => PyData.int (0 - num e.1))
/-- the second items of the keys -/
def NumsOf (K : PySem.W.Frag) (H : Hp) (num : κ → Int) (es : List (κ × Addr × V)) : Prop := ∀ e ∈ es, ∃ xs, SqT K H e.2.1 xs ∧ xs[1]? = some (.int (num e.1))
def tSK (T : KT κ) (P : Program) (w : World) (K : PySem.W.Frag) (Pt : Addr) (q : Str) (num : κ → Int) (ta : TA) : TE := fun σ H Q => ta σ H fun xs H1 => ∃ (a : Addr) (es : List (κ × Addr × V)), xs = [.ref a] ∧ Rd H1 a (dNO T P w a es) ∧ KeysAt T K H1 es ∧ NumsOf K H1 num es ∧ TabS H1 Pt q ∧
  ∀ H2 p, LExt Pt H1 H2 → TabS H2 Pt q → CNew Pt H1 H2 → H2 p = none → Q (.ref p) (upd H2 p (.lst ((sortK num es).map fun e => V.ref e.2.1)))
theorem pe_sortedLam {k : Nat} {e : Expr} {ta : TA} {c Pt : Addr} {num : κ → Int} {p p0 p1 p2 p3 p4 p5 lpos kpos pos : Pos} (hr : Room (k + 1) X.A) (hcalm : X.calm = true) (hgl : Gl X "sorted") (hm : X.mg "sorted" = none) (TB : TabB X.base X.mg c Pt) (hcode : X.env.code = .ref c)
    (ha : PA X [e] ta) (hst : backTo pos (starEach [e] X.env) = (false, eval e X.env) :: backTo pos (starEach [] X.env) := by rfl) :
    PE X (.Call (.Name "sorted" p) [e] [⟨some "key", .Lambda (lamArgs p0) (lamBody p1 p2 p3 p4 p5) lamSc lpos, kpos⟩] pos) (tSK T X.prog X.w X.K Pt (X.env.qual ++ lamS) num ta) := by
  refine ⟨fun pins s σ H Q I h => ?_⟩
  have dp := hr.dp
  have hun := hr.un
  refine wpAny_Call_Name_kw (ld_blt I hgl hm (show bootBuiltins "sorted" = some (.builtin "sorted") by decide +kernel) ?_)
  refine callWith_builtin_kwB (by rw [hst]; rfl) rfl ?_
  have hpa := ha.run pos pins s σ H
  rw [hst] at hpa ⊢
  refine evalArgs_kwB (by rfl) ?_
  refine thn (hpa _ I h) fun us s1 J => ?_
  obtain ⟨vs, H1, I1, rv, a, es, ex, hd, hk, hn, hT, q⟩ := J
  subst ex
  obtain ⟨u, eu, rx⟩ := vals1 rv
  subst eu
  cases rx
  show wpAny _ _ (evalAll [(do let v ← eval (.Lambda (lamArgs p0) (lamBody p1 p2 p3 p4 p5) lamSc lpos) X.env; standAt pos; pure v)]) _ _ _
  refine evalAll_cons (wpAny_bind (lam_mk I1 TB hcode hT (by rfl) (by rfl) fun f c' pm ctv H2 s2 I2 le T2 cn hf hc => wpAny_bind (wpAny_standAt (wpAny_pure (evalAll_nil ?_)))))
  show wpAny _ _ (call (Value.builtin "sorted") [.ref a] [(keyS, .ref f)]) _ _ _
  have nd : ∀ b xs, SqT X.K H1 b xs → SqT X.K H2 b xs := fun b xs h => by
    refine h.imp (fun r => ?_) id
    obtain ⟨ps, hP, _⟩ := hT
    rcases r with r | ⟨o, r⟩
    · exact .inl (le b _ (fun z => by rw [z, hP] at r; cases r) r)
    · exact .inr ⟨o, le b _ (fun z => by rw [z, hP] at r; cases r) r⟩
  have hd2 : Rd H2 a (dNO T X.prog X.w a es) := by
    obtain ⟨ps, hP, _⟩ := hT
    rcases hd with r | ⟨o, r⟩
    · exact .inl (le a _ (fun z => by rw [z, hP] at r; cases r) r)
    · exact .inr ⟨o, le a _ (fun z => by rw [z, hP] at r; cases r) r⟩
  obtain ⟨z, l, ds, ep, raw, ld, hkk⟩ := dn_raw I2 hd2
  refine call_function_entry_kw PyProof.Rows.kind_sorted PyProof.Rows.plain_sorted PyProof.Rows.entry_sorted (by rfl) ?_
  unfold Builtin.«sorted»
  refine wpAny_bind (m := checkCount "sorted" 1 1 _) (wpAny_pure ?_)
  refine wpAny_bind (PySem.W.kdu_collect (A := X.A.in1) (KdlSrc.rawDict (es := ds) (ep := ep) z) (I2.ok.hd hcalm) raw (by rw [ld]; exact l) fun h' tk acc hk' hacc => ?_)
  have ea := raw_keys ld hkk hacc.1 hacc.2
  have I3 : Inv X pins σ H2 { s2 with heap := h', toks := tk } := I2.kept hk'
  have hla : acc.toList.length = es.length := by rw [ea, List.length_map]
  refine wpAny_bind (wpAny_newList ?_ (by rw [hla]; exact l))
  have hoL : (h'.push (seqObj "list" acc.toList.toArray 0)).get? h'.objs.size = some (seqObj "list" acc.toList.toArray 0) := Heap.get?_push_size _ rfl
  have hE : PySem.W.EachIs (fun (u : Value) (e : κ × Addr × V) => u = Value.ref e.2.1) acc.toList es := by rw [ea]; exact each_keys es
  show wpAny _ _ _ _ _ { s2 with heap := h'.push (seqObj "list" acc.toList.toArray 0), toks := tk }
  refine wpAny_bind (wpAny_holding (PySem.W.list_sort_key_data (f := .ref f) (kw := [(keyS, .ref f)]) (b := false) (s := { s2 with heap := h'.push (seqObj "list" acc.toList.toArray 0), toks := tk }) (fun e => PyData.int (0 - num e.1)) hoL hE
    (PySem.W.AllAlike.of fun b b' => rfl) (.inr fun d hd => ?_) l (fun b hb => ?_) (by rfl) (by rfl) (fun v e hv he h1 tk1 kb => ?_) fun out c1 h1 tk1 kb ho lo eo => ?_))
  · obtain ⟨e, _, rfl⟩ := List.mem_map.mp hd
    exact ⟨(fun z => nomatch z), fun _ z => nomatch z⟩
  · show X.A.units + 1 + 1 + 0 < cLine
    omega
  · subst hv
    have kp : ∀ b o, h'.get? b = some o → h1.get? b = some o := fun b o e => kb b o (Nat.ne_of_lt (Heap.lt_size e)) (Heap.get?_push_of_some _ e)
    have I4 : Inv X pins σ H2 { s2 with heap := h1, toks := tk1 } := I3.kept kp
    obtain ⟨xs, hx, hx1⟩ := hn e he
    obtain ⟨its, rv, ht, _⟩ := I4.tuple (nd _ _ hx)
    obtain ⟨u, hu, ru⟩ := rv.get hx1
    obtain ⟨tk0, rfl⟩ := ru
    have hdp2 : X.A.in1.in1.depth < recursionLimit := by
      show X.A.depth < recursionLimit
      omega
    refine lam_key (xs := its) hdp2 (kp _ _ (hk' _ _ hf)) ?_ I4.nolimit ht hu
    obtain ⟨oc, ws, t, g1, g2, g3⟩ := (I4.hok c' _ hc).1
    exact ⟨c', oc, ws, t, rfl, g1, g2, g3⟩
  · have eo' : out = (sortK num es).map fun e => Value.ref e.2.1 := keys_each eo
    have hlen : ((sortK num es).map fun e => V.ref e.2.1).length ≤ sizeLine := by
      rw [List.length_map, sortK, List.length_mergeSort]
      exact l
    have kp : ∀ b o, h'.get? b = some o → h1.get? b = some o := fun b o e => kb b o (Nat.ne_of_lt (Heap.lt_size e)) (Heap.get?_push_of_some _ e)
    exact wpAny_pure ⟨_, rfl, .ref h'.objs.size, upd H2 h'.objs.size (.lst ((sortK num es).map fun e => V.ref e.2.1)), I3.laid (t' := tk1) kp (Nat.le_refl _)
      (show ObjOk X.prog X.w _ _ _ (.lst ((sortK num es).map fun e => V.ref e.2.1)) from ⟨hlen, out, c1, by rw [eo']; exact refs_keys _, ho⟩), rfl, q _ _ le T2 cn (I3.hok.fresh (Nat.le_refl _))⟩
end
end GX
/-! repr(d) of a dict keyed by tuples whose values are ints, texts and tuples of such -/
namespace GX
open PySem PySem.Spec PyProof.Rows L2 GxR
section
variable {X : Cx} {pins : List (Addr × Obj)} {σ : L2.St} {H : Hp} {s : Shared}
mutual
theorem reads0 (I : Inv X pins σ H s) : ∀ (d : PyData) (v : V) (u : Value), Dp X.K H v d → kd d = true → RelV v u → Reads s.heap u d []
  | .int i, _, _, h, _, r => by
    cases h
    obtain ⟨t, rfl⟩ := r
    exact .int i t
  | .str x, _, _, h, _, r => by
    cases h
    obtain ⟨t, rfl⟩ := r
    exact .str x t
  | .tuple ds, _, _, h, k, r => by
    cases h with
    | tup hs ha =>
      cases r
      obtain ⟨its, rv, ⟨o, ho, hc, n, hd⟩, _⟩ := I.tuple hs
      rw [kd] at k
      exact .tuple ho hc hd (reads0All I ds _ its ha k rv)
  | .none, _, _, _, k, _ => by simp [kd] at k
  | .bool _, _, _, _, k, _ => by simp [kd] at k
  | .list _, _, _, _, k, _ => by simp [kd] at k
  | .dict _, _, _, _, k, _ => by simp [kd] at k
theorem reads0All (I : Inv X pins σ H s) : ∀ (ds : List PyData) (vs : List V) (us : List Value), DpAll X.K H vs ds → kdAll ds = true → Vals vs us → ReadsAll s.heap us ds []
  | [], _, _, h, _, r => by
    cases h
    cases r
    exact .nil
  | d :: ds, _, _, h, k, r => by
    cases h with
    | cons h1 h2 =>
      cases r with
      | cons r1 r2 =>
        rw [kdAll, Bool.and_eq_true] at k
        exact ReadsAll.cons (as := []) (bs := []) (reads0 I d _ _ h1 k.1 r1) (reads0All I ds _ _ h2 k.2 r2)
end
end
section
variable {κ : Type} [DecidableEq κ] {T : KT κ} {X : Cx} {pins : List (Addr × Obj)} {σ : L2.St} {H : Hp} {s : Shared}
/-- the dict's data -/
def dictD (T : KT κ) (dv : κ → PyData) (es : List (κ × Addr × V)) : PyData := .dict (es.map fun e => (T.enc e.1, dv e.1))
/-- the values are data of ints, texts and tuples -/
def ValsK (K : PySem.W.Frag) (H : Hp) (dv : κ → PyData) (es : List (κ × Addr × V)) : Prop := ∀ e ∈ es, Dp K H e.2.2 (dv e.1) ∧ kd (dv e.1) = true
theorem reads_rows (I : Inv X pins σ H s) {dv : κ → PyData} : ∀ {es : List (κ × Addr × V)} {us : List Value}, Vals (es.map (·.2.2)) us → KeysAt T X.K H es → ValsK X.K H dv es →
    ReadsAll s.heap (((rowsN T es us).map (entryOfKey (nestedKind X.prog X.w))).map fun x => x.key) (es.map fun e => T.enc e.1) [] ∧ ReadsAll s.heap (((rowsN T es us).map (entryOfKey (nestedKind X.prog X.w))).map fun x => x.val) (es.map fun e => dv e.1) []
  | [], _, .nil, _, _ => ⟨.nil, .nil⟩
  | e :: es, u :: us, .cons r t, hk, hv => by
    obtain ⟨a, b⟩ := reads_rows I t (fun e he => hk e (List.mem_cons_of_mem _ he)) fun e he => hv e (List.mem_cons_of_mem _ he)
    have h1 := reads0 I _ (V.ref e.2.1) (.ref e.2.1) (hk e List.mem_cons_self) (T.kd _) rfl
    obtain ⟨h2, h3⟩ := hv e List.mem_cons_self
    exact ⟨ReadsAll.cons (as := []) (bs := []) h1 a, ReadsAll.cons (as := []) (bs := []) (reads0 I _ _ u h2 h3 r) b⟩
theorem cr_reprN (hg : X.A.guards = some []) (hu : X.A.units + 64 < cLine) : CallR X (.builtin "repr") (fun xs H Q => ∃ (a : Addr) (es : List (κ × Addr × V)) (dv : κ → PyData), xs = [.ref a] ∧ Rd H a (dNO T X.prog X.w a es) ∧ KeysAt T X.K H es ∧ ValsK X.K H dv es ∧
    (dictD T dv es).showable = true ∧ (dictD T dv es).depth ≤ 60 ∧ (dictD T dv es).shown.length ≤ sizeLine ∧ Q (.str (dictD T dv es).shown) H) := by
  intro pins s σ H xs us Q I r ⟨a, es, dv, ex, hd, hk, hv, h1, h3, h4, q⟩
  subst ex
  obtain ⟨u, rfl, rx⟩ := vals1 r
  obtain rfl : u = Value.ref a := rx
  obtain ⟨z, l, n, o, ds, ep, us, ho, hx, hda, hvs, hr⟩ := dn0_of I hd
  obtain ⟨e1, e2⟩ := reads_rows (T := T) I hvs hk hv
  have rd : Reads s.heap (.ref a) (dictD T dv es) [a] := by
    have := Reads.dict (h := s.heap) (a := a) (o := o) (es := ds) (n := ep) (kvs := es.map fun e => (T.enc e.1, dv e.1)) (as := []) (bs := []) ho (hx.1) hda (by rw [hr, show (es.map fun e => (T.enc e.1, dv e.1)).map (fun x => x.1) = es.map fun e => T.enc e.1 from by rw [List.map_map]; rfl]; exact e1) (by rw [hr, show (es.map fun e => (T.enc e.1, dv e.1)).map (fun x => x.2) = es.map fun e => dv e.1 from by rw [List.map_map]; rfl]; exact e2)
    exact this
  exact repr_of_reads' (hsz := h4) rd h1 (fun _ z1 => by
    rw [← List.mem_singleton.mp z1] at z
    simp at z) hg (by omega) (fun _ _ e => e) fun h' u tk hk => ⟨.str (dictD T dv es).shown, H, I.kept (t' := tk) hk, ⟨u, rfl⟩, q⟩
end
end GX
/-! d != e of dicts keyed by nested tuples -/
namespace GX
open PySem PySem.Spec PyProof.Rows PyProof.V L2 GxR
section
variable {prog : Program} {w : World} {K : Type} [DecidableEq K] {knd : HeapKind prog w K} {A : Around} {E : Value → Shared → Prop} {s : Shared}
theorem rcH_dictsNe {a b : Addr} {ka kb : List (K × Addr × Value)} {r : Bool} (hk : knd.room A.in1) (ha : (a == sysModules) = false) (hb : (b == sysModules) = false)
    (da : s.heap.DictOfH knd a ka) (db : s.heap.DictOfH knd b kb) (hu : A.units < cLine) (hits : ka.length = kb.length → HitsH prog w A.in1 s kb ka r) (E Q : Value → Shared → Prop) (h : Q (.bool (!(ka.length == kb.length && r))) s) : wpAny (model prog w) A (richCompare .NotEq (.ref a) (.ref b)) Q E s := by
  refine wpAny_richCompare_same_room (op := .NotEq) da.typeIs db.typeIs PySem.F.slot_dict_ne (wpAny_call_entry PySem.F.slot_dict_ne da.typeIs PySem.F.entry_dict_ne ?_ (PySem.F.args_dict_ne_2 _ _)) hu
  show wpAny _ _ (Builtin.Dict.dictSlotArgs "__ne__" ⟨[.ref a, .ref b], []⟩ >>= _) _ _ s
  refine wpAny_bind ?_
  unfold Builtin.Dict.dictSlotArgs
  refine wpAny_bind (wpAny_notOrdered_dict da.typeIs ?_)
  show wpAny _ _ (pure (Value.ref a, Value.ref b)) _ _ s
  refine wpAny_pure ?_
  refine wpAny_bind (wpAny_isInstance (T := "dict") db.typeIs PySem.F.sub_dict_dict ?_)
  simp only [Bool.not_true, Bool.false_eq_true, if_false]
  refine wpAny_bind (wpAny_pure (wpAny_bind (wpAny_pure ?_)))
  refine wpAny_bind (samePairsH hk ha hb da db hits ?_)
  refine wpAny_pure ⟨_, rfl, ?_, ?_⟩
  · exact fun x => nomatch x
  · simpa using h
end
section
variable {κ : Type} [DecidableEq κ] {T : KT κ} {X : Cx} {pins : List (Addr × Obj)} {σ : L2.St} {H : Hp} {s : Shared}
/-- d != e -/
def rNeN (T : KT κ) (P : Program) (w : World) (K : PySem.W.Frag) : R2 := fun x y H Q => ∃ (a b : Addr) (es fs : List (κ × Addr × V)) (dv dw : κ → PyData), x = .ref a ∧ y = .ref b ∧ Rd H a (dNO T P w a es) ∧ Rd H b (dNO T P w b fs) ∧ KeysAt T K H es ∧ KeysAt T K H fs ∧ ValsD K H dv es ∧ ValsD K H dw fs ∧ Q (.bl (!(es.length == fs.length && sameD dv dw es fs))) H
theorem op_neN (hu : X.A.units + 64 < cLine) : OpR X (compareOp .NotEq) (rNeN T X.prog X.w X.K) := fun pins s σ H x y v u Q I rx ry h => by
  obtain ⟨a, b, es, fs, dv, dw, rfl, rfl, ha, hb, ka, kb, va, vb, q⟩ := h
  cases rx
  cases ry
  obtain ⟨z1, l1, us, hv1, hm1⟩ := dict_of I ha ka
  obtain ⟨z2, l2, vs, hv2, hm2⟩ := dict_of I hb kb
  have ls1 : (rowsN T es us).length = es.length := by
    unfold rowsN
    rw [List.length_map, List.length_zip, ← hv1.length, List.length_map, Nat.min_self]
  have ls2 : (rowsN T fs vs).length = fs.length := by
    unfold rowsN
    rw [List.length_map, List.length_zip, ← hv2.length, List.length_map, Nat.min_self]
  refine rcH_dictsNe (knd := nestedKind X.prog X.w) (r := sameD dv dw es fs) (by show X.A.units + 1 + 8 < cLine; omega) z1 z2 hm1 hm2 (by omega) (fun _ => hits_of (by show X.A.units + 1 + 41 < cLine; omega) I hv2 vb hv1 va) _ _ ?_
  rw [ls1, ls2]
  exact ⟨.bl _, H, I, rfl, q⟩
end
end GX
namespace QR
open PySem PySem.Spec PyProof.Rows L2
section
variable {X : Cx}
/-! ### xs[::-1] of a list: a new list -/
def tRev (K : PySem.W.Frag) (te ts : TE) : TE := fun σ H Q => te σ H fun x H1 => ts σ H1 fun z H2 => z = .int (-1) ∧ ∃ a xs, x = .ref a ∧ SqL K H2 a xs ∧ ∀ p, H2 p = none → Q (.ref p) (upd H2 p (.lst xs.reverse))
theorem vals_rev {xs : List V} {us : List Value} (r : Vals xs us) : Vals xs.reverse us.reverse := by
  induction r with
  | nil => exact .nil
  | cons p q ih =>
    rw [List.reverse_cons, List.reverse_cons]
    exact ih.append (.cons p .nil)
theorem pe_rev {e st : Expr} {te ts : TE} {p2 pos : Pos} (he : PE X e te) (hs : PE X st ts) : PE X (.Subscript e (.Slice none none (some st) p2) pos) (tRev X.K te ts) := by
  refine ⟨fun pins s σ H Q I h => ?_⟩
  refine Subscript_ (thn (he.run pins s σ H _ I h) fun v s1 ⟨x, H1, I1, r1, q1⟩ => ?_)
  refine wpAny_Slice ?_
  rw [evalPart_none]
  refine wpAny_pure (wpAny_pure ?_)
  rw [evalPart_some]
  refine thn (hs.run pins s1 σ H1 _ I1 q1) fun vu s3 ⟨z, H3, I3, rz, ez, q3⟩ => ?_
  subst ez
  obtain ⟨tz, rfl⟩ := rz
  obtain ⟨a, xs, ex, hx, q⟩ := q3
  subst ex
  cases r1
  have I4 : Inv X pins σ H3 { s3 with heap := s3.heap.push { cls := .type "slice", data := .fields #[.none, .none, .int (-1) tz] } } := I3.kept (t' := s3.toks) fun b ob q => Heap.get?_push_of_some _ q
  obtain ⟨its, r, ht, hz⟩ := I4.list hx
  have hlen := r.length
  show wpAny (model X.prog X.w) X.A (subscriptTail e (.Slice none none (some st) p2) (.ref a) (.ref s3.heap.objs.size)) (EP X pins σ Q) X.xe { s3 with heap := s3.heap.push { cls := .type "slice", data := .fields #[.none, .none, .int (-1) tz] } }
  refine tail_any (ops := [.ref a, .ref s3.heap.objs.size]) ht.isList.typeIs slot_list_getitem.lookup ?_ (by with_unfolding_all rfl)
  refine wpAny_getItem_list_slice ht.isList (Heap.IsSliceOf.new ..) .none .none (.int (-1) tz) (by simp) ?_ (by rw [List.size_toArray]; omega)
  rw [PySem.W.krv_pick]
  refine ⟨.ref _, _, I4.laid (t' := s3.toks) (o := .lst xs.reverse) (fun b ob q => Heap.get?_push_of_some _ q) (Nat.le_refl _) ?_, rfl, q _ (I4.hok.fresh (Nat.le_refl _))⟩
  exact ⟨by rw [List.length_reverse]; exact hz, _, 0, vals_rev r, Heap.get?_push_size _ rfl⟩
end
end QR
/-! names and vertices as keys of dicts -/
namespace K20
open PySem PySem.Spec PyProof.Rows L2 TL TR QR
open GX (dNO KeysAt)
open PySem.W (EachIs)
theorem zl : 2000000 ≤ sizeLine := by
  rw [sizeLine_eq]
  decide
theorem same_new {a : Addr} {H : Hp} {o : HO} (e : H a = none) : Same H (upd H a o) := fun b o' e' => by
  rw [upd_ne (ne_of_none e' e)]
  exact e'
theorem kd_ints : ∀ l : List Nat, GX.kdAll (l.map fun m : Nat => PyData.int (m : Int)) = true
  | [] => rfl
  | _ :: r => kd_ints r
theorem kd_nm (n : Nm) : GX.kd (nmD n) = true := by
  unfold nmD labD
  simp [GX.kd, GX.kdAll, kd_ints]
theorem nm_depth (n : Nm) : (nmD n).depth = 3 := by
  unfold nmD labD
  simp [PyData.depth, PyData.depthAll, (plain_ints n.1.2).2]
def ktN : GX.KT Nm where
  enc := nmD
  kd := kd_nm
  inj := nm_inj
  dp := fun k => by rw [nm_depth]; decide
def ktV : GX.KT Vx where
  enc := vxD
  kd := fun x => by
    unfold vxD
    simp [GX.kd, GX.kdAll, kd_nm]
  inj := vx_inj
  dp := fun k => by rw [vx_depth]; decide
theorem alike_nm (a b : Nm) : PySem.W.alike (nmD a) (nmD b) = true := by
  unfold nmD labD
  simp [PySem.W.alike, PySem.W.alikeAll, alike_ints]
theorem able_V {β : Type} (f : β → Vx) (es : List β) : PySem.W.AllAlike (es.map fun e => vxD (f e)) ∧ PySem.W.Sortable (es.map fun e => vxD (f e)) :=
  ⟨PySem.W.AllAlike.of fun b b' => alike_vx _ _, PySem.W.Sortable.tuples fun b => ⟨_, _, rfl⟩⟩
theorem able_N {β : Type} (f : β → Nm) (es : List β) : PySem.W.AllAlike (es.map fun e => nmD (f e)) ∧ PySem.W.Sortable (es.map fun e => nmD (f e)) :=
  ⟨PySem.W.AllAlike.of fun b b' => alike_nm _ _, PySem.W.Sortable.tuples fun b => ⟨_, _, rfl⟩⟩
theorem any_vx (x : Vx) (xs : List Vx) : ((xs.map vxD).any fun y => PyData.eqv y (vxD x)) = true ↔ x ∈ xs := by
  rw [List.any_map, List.any_eq_true]
  exact ⟨fun ⟨y, hy, e⟩ => by rw [← (vx_inj ((eqv_iff (solid_vx y) (solid_vx x)).mp e) : y = x)]; exact hy, fun h => ⟨x, h, (eqv_iff (solid_vx x) (solid_vx x)).mpr rfl⟩⟩
theorem any_nm (x : Nm) (xs : List Nm) : ((xs.map nmD).any fun y => PyData.eqv y (nmD x)) = true ↔ x ∈ xs := by
  rw [List.any_map, List.any_eq_true]
  exact ⟨fun ⟨y, hy, e⟩ => by rw [← (nm_inj ((eqv_iff (solid_nm y) (solid_nm x)).mp e) : y = x)]; exact hy, fun h => ⟨x, h, (eqv_iff (solid_nm x) (solid_nm x)).mpr rfl⟩⟩
theorem solid_nms : ∀ l : List Nm, solidAll (l.map nmD) = true := solid_map solid_nm
theorem each_mem {α : Type} {R : V → α → Prop} {ws : List V} {xs : List α} {w : V} (h : EachIs R ws xs) (hw : w ∈ ws) : ∃ x ∈ xs, R w x := by
  obtain ⟨i, e⟩ := List.mem_iff_getElem?.mp hw
  obtain ⟨x, hx, r⟩ := each_at h e
  exact ⟨x, List.mem_of_getElem? hx, r⟩
theorem each_nm {H H' : Hp} (s : TS H H') {ws : List V} {xs : List Nm} (e : EachIs (NmAt H) ws xs) : EachIs (NmAt H') ws xs := e.mono fun _ _ h => h.ts s
def NsAt (N : Addr → Prop) (H : Hp) (v : V) (xs : List Nm) : Prop := ∃ a ws, v = .ref a ∧ N a ∧ H a = some (.lst ws) ∧ EachIs (NmAt H) ws xs
theorem NsAt.lf {N : Addr → Prop} {H H' : Hp} {v : V} (s : LF N H H') {xs : List Nm} : NsAt N H v xs → NsAt N H' v xs := fun ⟨a, ws, e, n, h, q⟩ => ⟨a, ws, e, n, s.ls _ _ n h, each_nm s.ts q⟩
theorem NsAt.imp {N N' : Addr → Prop} {H : Hp} {v : V} (k : ∀ a, N a → N' a) {xs : List Nm} : NsAt N H v xs → NsAt N' H v xs := fun ⟨a, ws, e, n, h, q⟩ => ⟨a, ws, e, k a n, h, q⟩
theorem dr_lf0 {H0 H H' : Hp} {p c : Addr} (st0 : StateAt H0 p c) (st : StateAt H p c) (d : Dr p c H H') : LF (fun x => H0 x = none) H H' := Dr.lf st d fun _ n => st0.new n
theorem VsAt.more {H0 H1 H' : Hp} {p c : Addr} {v : V} {xs : List Vx} (d : Dr p c H0 H1) (h : VsAt (fun x => H1 x = none) H' v xs) : VsAt (fun x => H0 x = none) H' v xs := h.imp fun _ n => d.none n
theorem ChgAt.more {H0 H1 H' : Hp} {p c : Addr} {v : V} {x : Chg} (d : Dr p c H0 H1) (h : ChgAt (fun x => H1 x = none) H' v x) : ChgAt (fun x => H0 x = none) H' v x := h.imp fun _ n => d.none n
theorem no_if {b : Bool} {A B : Prop} (h : b = false) (q : B) : if b = true then A else B := by
  rw [h]
  exact q
theorem yes_if {b : Bool} {A B : Prop} (h : b = true) (q : A) : if b = true then A else B := by
  rw [h]
  exact q
theorem int_no {r k : Nat} (h : r ≠ k) {A B : Prop} (q : B) : if decide (V.int (r : Int) = V.int ((k : Nat) : Int)) = true then A else B := no_if (by rw [decide_eq_false_iff_not]; intro z; have := V.int.inj z; omega) q
/-! ### entries -/
section
variable {κ : Type} [DecidableEq κ]
theorem find_of {es : List (κ × Addr × V)} {k : κ} (h : k ∈ es.map (·.1)) : ∃ e, (es.find? fun e => decide (e.1 = k)) = some e ∧ e ∈ es ∧ e.1 = k := by
  cases e : es.find? fun e => decide (e.1 = k) with
  | none =>
    rw [List.find?_eq_none] at e
    obtain ⟨x, hx, hk⟩ := List.mem_map.mp h
    exact absurd (decide_eq_true hk) (e x hx)
  | some x => exact ⟨x, rfl, List.mem_of_find?_eq_some e, of_decide_eq_true (List.find?_some (p := fun x : κ × Addr × V => decide (x.1 = k)) e)⟩
theorem find_no {es : List (κ × Addr × V)} {k : κ} (h : k ∉ es.map (·.1)) : (es.find? fun e => decide (e.1 = k)) = none := by
  rw [List.find?_eq_none]
  intro x hx hk
  exact h (List.mem_map.mpr ⟨x, hx, of_decide_eq_true hk⟩)
theorem is_some {es : List (κ × Addr × V)} {k : κ} : (es.find? fun e => decide (e.1 = k)).isSome = decide (k ∈ es.map (·.1)) := by
  by_cases h : k ∈ es.map (·.1)
  · obtain ⟨e, h1, _⟩ := find_of h
    rw [h1, decide_eq_true h]
    rfl
  · rw [find_no h, decide_eq_false h]
    rfl
theorem dst_keys {es : List (κ × Addr × V)} {k : κ} {b : Addr} {v : V} : (GX.dSt es k b v).map (·.1) = if k ∈ es.map (·.1) then es.map (·.1) else es.map (·.1) ++ [k] := by
  unfold GX.dSt
  rw [is_some]
  by_cases h : k ∈ es.map (·.1)
  · rw [if_pos (decide_eq_true h), if_pos h, List.map_map]
    refine List.map_congr_left fun e _ => ?_
    show (if e.1 = k then (e.1, e.2.1, v) else e).1 = e.1
    split <;> rfl
  · rw [if_neg (by simpa using h), if_neg h, List.map_append]
    rfl
/-- an entry of the dict that was written: the new value, or as before -/
theorem dst_mem {es : List (κ × Addr × V)} {k : κ} {b : Addr} {v : V} {e : κ × Addr × V} (h : e ∈ GX.dSt es k b v) : (e.1 = k ∧ e.2.2 = v ∧ (e.2.1 = b ∨ ∃ x ∈ es, x.1 = k ∧ x.2.1 = e.2.1)) ∨ (e ∈ es ∧ e.1 ≠ k) := by
  unfold GX.dSt at h
  rw [is_some] at h
  by_cases hk : k ∈ es.map (·.1)
  · rw [if_pos (decide_eq_true hk)] at h
    obtain ⟨x, hx, rfl⟩ := List.mem_map.mp h
    by_cases e : x.1 = k
    · rw [if_pos e]
      exact .inl ⟨e, rfl, .inr ⟨x, hx, e, rfl⟩⟩
    · rw [if_neg e]
      exact .inr ⟨hx, e⟩
  · rw [if_neg (by simpa using hk)] at h
    rcases List.mem_append.mp h with h | h
    · exact .inr ⟨h, fun e => hk (List.mem_map.mpr ⟨_, h, e⟩)⟩
    · rw [List.mem_singleton.mp h]
      exact .inl ⟨rfl, rfl, .inl rfl⟩
theorem dst_len {es : List (κ × Addr × V)} {k : κ} {b : Addr} {v : V} : (GX.dSt es k b v).length ≤ es.length + 1 := GX.st_len
end
theorem take_split {α : Type} {es : List α} {m : Nat} {e : α} (he : es[m]? = some e) : es = es.take m ++ (e :: es.drop (m + 1)) := by
  obtain ⟨hlt, e1⟩ := List.getElem?_eq_some_iff.mp he
  rw [← e1, List.getElem_cons_drop, List.take_append_drop]
def addK {κ : Type} [DecidableEq κ] (ks : List κ) (k : κ) : List κ := if k ∈ ks then ks else ks ++ [k]
theorem addK_nd {κ : Type} [DecidableEq κ] {ks : List κ} {k : κ} (h : ks.Nodup) : (addK ks k).Nodup := by
  unfold addK
  split
  · exact h
  · rename_i hk
    exact List.nodup_append.mpr ⟨h, (by simp : [k].Nodup), fun x hx y hy z => hk (by rw [List.mem_singleton.mp hy] at z; rw [← z]; exact hx)⟩
theorem dst_add {κ : Type} [DecidableEq κ] {es : List (κ × Addr × V)} {k : κ} {b : Addr} {v : V} : (GX.dSt es k b v).map (·.1) = addK (es.map (·.1)) k := dst_keys
theorem mem_addK {κ : Type} [DecidableEq κ] {ks : List κ} {k x : κ} : x ∈ addK ks k ↔ x ∈ ks ∨ x = k := by
  unfold addK
  split
  · rename_i h
    exact ⟨.inl, fun z => z.elim id fun e => by rw [e]; exact h⟩
  · rw [List.mem_append, List.mem_singleton]
theorem nd_inj {κ : Type} : ∀ {es : List (κ × Addr × V)} {a b : κ × Addr × V}, (es.map (·.1)).Nodup → a ∈ es → b ∈ es → a.1 = b.1 → a = b
  | x :: es, a, b, nd, ha, hb, h => by
    rw [List.map_cons, List.nodup_cons] at nd
    rcases List.mem_cons.mp ha with ha | ha <;> rcases List.mem_cons.mp hb with hb | hb
    · rw [ha, hb]
    · exact absurd (List.mem_map.mpr ⟨b, hb, by rw [← h, ha]⟩) nd.1
    · exact absurd (List.mem_map.mpr ⟨a, ha, by rw [h, hb]⟩) nd.1
    · exact nd_inj nd.2 ha hb h
theorem lock_asg {te : TE} {i : Nat} {D : Ends} {σ : L2.St} {H : Hp} (h : tLockE te σ H fun v H' => D.nx (σ.set i (some v)) H') : tLock (tAsg te (gName i)) D σ H := h
theorem is_yes {κ : Type} [DecidableEq κ] {es : List (κ × Addr × V)} {k : κ} (h : k ∈ es.map (·.1)) : (es.find? fun e => decide (e.1 = k)).isSome = true := by
  obtain ⟨e, h1, _⟩ := find_of h
  rw [h1]
  rfl
theorem is_no {κ : Type} [DecidableEq κ] {es : List (κ × Addr × V)} {k : κ} (h : k ∉ es.map (·.1)) : (es.find? fun e => decide (e.1 = k)).isSome = false := by
  rw [find_no h]
  rfl
end K20
/-! terms that have a value and lay nothing; tests that are sure -/
namespace K20
open PySem PySem.Spec PyProof.Rows L2 TL TR QR
open GX (dNO KeysAt)
open PySem.W (EachIs)
def Ev (te : TE) (σ : L2.St) (H : Hp) (v : V) : Prop := ∀ Q : VK, Q v H → te σ H Q
def Sure (t : TT) (σ : L2.St) (H : Hp) (p : Prop) [Decidable p] : Prop := ∀ R : Bool → Hp → Prop, R (decide p) H → t σ H R
section
variable {P : Program} {w : World} {K : PySem.W.Frag} {σ : L2.St} {H : Hp} {ta tb : TE} {t u : TT} {x y v : V}
theorem Ev.var {i : Nat} (h : σ[i]? = some (some v)) : Ev (tVar i) σ H v := fun _ q => ⟨v, h, q⟩
theorem Ev.con : Ev (tC v) σ H v := fun _ q => q
theorem Ev.len {a : Addr} {ws : List V} (h : Ev ta σ H (.ref a)) (e : H a = some (.lst ws)) : Ev (tCB (fun xs H Q => ∃ p ys, xs = [V.ref p] ∧ (SqL K H p ys ∨ SqT K H p ys) ∧ Q (.int ys.length) H) (tCons ta tNil)) σ H (.int (ws.length : Int)) :=
  fun Q q => h _ ⟨a, ws, rfl, .inl (SqL.of e), q⟩
theorem Ev.lenN {κ : Type} [DecidableEq κ] {T : GX.KT κ} {a : Addr} {es : List (κ × Addr × V)} (h : Ev ta σ H (.ref a)) (e : H a = some (dNO T P w a es)) (k : KeysAt T K H es) :
    Ev (tCB (fun xs H_1 Q => ∃ a es, xs = [V.ref a] ∧ Rd H_1 a (dNO T P w a es) ∧ KeysAt T K H_1 es ∧ Q (V.int (es.length : Int)) H_1) (tCons ta tNil)) σ H (.int (es.length : Int)) :=
  fun Q q => h _ ⟨a, es, rfl, .inl e, k, q⟩
theorem Ev.add {i j : Nat} (ha : Ev ta σ H (.int (i : Int))) (hb : Ev tb σ H (.int (j : Int))) : Ev (tOp (rI0 fun i j => .int (i + j)) ta tb) σ H (.int ((i + j : Nat) : Int)) :=
  fun Q q => ha _ (hb _ ⟨_, _, rfl, rfl, by rw [Int.natCast_add] at q; exact q⟩)
theorem Ev.ixL {i : Nat} {a : Addr} {ws : List V} (ha : Ev ta σ H (.ref a)) (hb : Ev tb σ H (.int (i : Int))) (e : H a = some (.lst ws)) (g : ws[i]? = some v) : Ev (tOp (rIxL K) ta tb) σ H v :=
  fun Q q => ha _ (hb _ ⟨a, _, _, _, rfl, rfl, SqL.of e, atI_nat g, q⟩)
theorem Ev.ixT {i : Nat} {a : Addr} {ws : List V} (ha : Ev ta σ H (.ref a)) (hb : Ev tb σ H (.int (i : Int))) (e : H a = some (.tup ws)) (g : ws[i]? = some v) : Ev (tOp (rIxT K) ta tb) σ H v :=
  fun Q q => ha _ (hb _ ⟨a, _, _, _, rfl, rfl, SqT.of e, atI_nat g, q⟩)
theorem Ev.ixN {κ : Type} [DecidableEq κ] {T : GX.KT κ} {a b : Addr} {es : List (κ × Addr × V)} {k : κ} {e : κ × Addr × V} (ha : Ev ta σ H (.ref a)) (hb : Ev tb σ H (.ref b)) (h : H a = some (dNO T P w a es)) (hk : KeysAt T K H es) (hd : Dp K H (.ref b) (T.enc k)) (f : (es.find? fun e => decide (e.1 = k)) = some e) : Ev (tOp (GX.rIxN T P w K) ta tb) σ H e.2.2 :=
  fun Q q => ha _ (hb _ ⟨a, b, es, k, e, rfl, rfl, .inl h, hk, hd, f, q⟩)
theorem Ev.opI {C : Int → Int → Prop} {g : Int → Int → V} {i j : Int} (ha : Ev ta σ H (.int i)) (hb : Ev tb σ H (.int j)) (hC : C i j) : Ev (tOp (rI C g) ta tb) σ H (g i j) := fun Q q => ha _ (hb _ ⟨i, j, rfl, rfl, hC, q⟩)
theorem ev_cast {te : TE} (h : Ev te σ H x) (e : x = y) : Ev te σ H y := by
  rw [← e]
  exact h
theorem sure_cast {p q : Prop} [Decidable p] [Decidable q] (h : p ↔ q) (s : Sure t σ H p) : Sure t σ H q := fun R r => s R (by rw [show decide p = decide q from decide_eq_decide.mpr h]; exact r)
theorem Sure.eq (ha : Ev ta σ H x) (hb : Ev tb σ H y) (s : scal x y = true) : Sure (tTest (tOp rEq ta tb)) σ H (x = y) := fun R r => ha _ (hb _ ⟨s, _, rfl, r⟩)
theorem Sure.eqN {i j : Nat} (ha : Ev ta σ H (.int (i : Int))) (hb : Ev tb σ H (.int (j : Int))) : Sure (tTest (tOp rEq ta tb)) σ H (i = j) :=
  sure_cast ⟨fun z => by have := V.int.inj z; omega, fun z => by rw [z]⟩ (Sure.eq ha hb rfl)
theorem Sure.eqS {a b : Str} (ha : Ev ta σ H (.str a)) (hb : Ev tb σ H (.str b)) : Sure (tTest (tOp rEq ta tb)) σ H (a = b) :=
  sure_cast ⟨fun z => V.str.inj z, fun z => by rw [z]⟩ (Sure.eq ha hb rfl)
theorem Sure.neS {a b : Str} (ha : Ev ta σ H (.str a)) (hb : Ev tb σ H (.str b)) : Sure (tTest (tOp rNe ta tb)) σ H (a ≠ b) := fun R r => ha _ (hb _ ⟨rfl, _, rfl, by
  rw [show (!decide (V.str a = V.str b)) = decide (a ≠ b) from by
    rw [← decide_not]
    exact decide_eq_decide.mpr ⟨fun z w => z (by rw [w]), fun z w => z (V.str.inj w)⟩]
  exact r⟩)
theorem Sure.gt {i j : Nat} (ha : Ev ta σ H (.int (i : Int))) (hb : Ev tb σ H (.int (j : Int))) : Sure (tTest (tOp (rI0 fun i j => .bl (decide (j < i))) ta tb)) σ H (j < i) :=
  sure_cast (p := (j : Int) < (i : Int)) Int.ofNat_lt fun R r => ha _ (hb _ ⟨_, _, rfl, rfl, _, rfl, r⟩)
theorem Sure.lt {i j : Nat} (ha : Ev ta σ H (.int (i : Int))) (hb : Ev tb σ H (.int (j : Int))) : Sure (tTest (tOp (rI0 fun i j => .bl (decide (i < j))) ta tb)) σ H (i < j) :=
  sure_cast (p := (i : Int) < (j : Int)) Int.ofNat_lt fun R r => ha _ (hb _ ⟨_, _, rfl, rfl, _, rfl, r⟩)
theorem Sure.or {p q : Prop} [Decidable p] [Decidable q] (a : Sure t σ H p) (b : ¬ p → Sure u σ H q) : Sure (tOr t u) σ H (p ∨ q) := fun R r => a _ (by
  by_cases h : p
  · refine yes_if (decide_eq_true h) ?_
    rw [show decide (p ∨ q) = true from decide_eq_true (.inl h)] at r
    exact r
  · refine no_if (decide_eq_false h) (b h R ?_)
    rw [show decide (p ∨ q) = decide q from decide_eq_decide.mpr ⟨fun z => z.resolve_left h, .inr⟩] at r
    exact r)
theorem Sure.and {p q : Prop} [Decidable p] [Decidable q] (a : Sure t σ H p) (b : p → Sure u σ H q) : Sure (tAnd t u) σ H (p ∧ q) := fun R r => a _ (by
  by_cases h : p
  · refine yes_if (decide_eq_true h) (b h R ?_)
    rw [show decide (p ∧ q) = decide q from decide_eq_decide.mpr ⟨fun z => z.2, fun z => ⟨h, z⟩⟩] at r
    exact r
  · refine no_if (decide_eq_false h) ?_
    rw [show decide (p ∧ q) = false from decide_eq_false fun z => h z.1] at r
    exact r)
theorem Sure.not {p : Prop} [Decidable p] (a : Sure t σ H p) : Sure (tNot t) σ H (¬ p) := fun R r => a _ (by rw [decide_not] at r; exact r)
theorem ifS {p : Prop} [Decidable p] {a b : L2.TS} {D : Ends} (s : Sure t σ H p) (y : p → a D σ H) (n : ¬ p → b D σ H) : tIfS t a b D σ H := s _ (by
  by_cases h : p
  · exact yes_if (decide_eq_true h) (y h)
  · exact no_if (decide_eq_false h) (n h))
theorem Sure.neD {d e : PyData} {p : Prop} [Decidable p] (hp : d = e ↔ p) (ha : Ev ta σ H x) (hb : Ev tb σ H y) (hx : Dp K H x d) (hy : Dp K H y e) (sd : solid d = true) (se : solid e = true) (dd : d.depth ≤ 60) : Sure (tTest (tOp (rNeP K) ta tb)) σ H (¬ p) := fun R r => ha _ (hb _ ⟨d, e, hx, hy, solid_plain _ sd, solid_plain _ se, dd, _, rfl, by
  rw [show (!PyData.eqv d e) = decide (¬ p) from by
    rw [decide_not]
    congr 1
    rw [Bool.eq_iff_iff, decide_eq_true_iff]
    exact (eqv_iff sd se).trans hp]
  exact r⟩)
theorem Sure.eqD {d e : PyData} {p : Prop} [Decidable p] (hp : d = e ↔ p) (ha : Ev ta σ H x) (hb : Ev tb σ H y) (hx : Dp K H x d) (hy : Dp K H y e) (sd : solid d = true) (se : solid e = true) (dd : d.depth ≤ 60) : Sure (tTest (tOp (rEqP K) ta tb)) σ H p := fun R r => ha _ (hb _ ⟨d, e, hx, hy, solid_plain _ sd, solid_plain _ se, dd, _, rfl, by
  rw [show PyData.eqv d e = decide p from by
    rw [Bool.eq_iff_iff, decide_eq_true_iff]
    exact (eqv_iff sd se).trans hp]
  exact r⟩)
theorem Sure.notInD {xs : List PyData} {d : PyData} {p : Prop} [Decidable p] (hp : (xs.any fun y => PyData.eqv y d) = true ↔ p) (ha : Ev ta σ H x) (hb : Ev tb σ H y) (hx : Dp K H x d) (hy : Dp K H y (.list xs)) (sx : solidAll xs = true) (sd : solid d = true) (dd : d.depth ≤ 60) : Sure (tTest (tOp (GX.rNotInP K) ta tb)) σ H (¬ p) := fun R r => ha _ (hb _ ⟨xs, d, hy, hx, solidAll_plain _ sx, solid_plain _ sd, dd, _, rfl, by
  rw [show (!xs.any fun y => PyData.eqv y d) = decide (¬ p) from by
    rw [decide_not]
    congr 1
    rw [Bool.eq_iff_iff, decide_eq_true_iff]
    exact hp]
  exact r⟩)
/-- a comprehension over a list that lays no more than objects of its own -/
theorem lc_gen {α β : Type} {R : Hp → V → α → Prop} {S : Addr → Hp → V → β → Prop} {a : Addr} {ws : List V} {xs : List α} {j : Nat} {tl te : TE} {tt : TT} {σ : L2.St} {H : Hp} {Q : VK} (f : α → Bool) (m : α → β)
    (ev : Ev tl σ H (.ref a)) (ha : H a = some (.lst ws)) (lx : xs.length ≤ 1000000) (he : ∀ H', Same H H' → EachIs (R H') ws xs)
    (st : ∀ {D : Addr} {H1 H2 : Hp} {v : V} {y : β}, (∃ us, H1 D = some (.lst us)) → (∀ b o, b ≠ D → H1 b = some o → H2 b = some o) → S D H1 v y → S D H2 v y)
    (ht : ∀ (v : V) (x : α) (H' : Hp), x ∈ xs → Same H H' → R H' v x → ∀ Q' : Bool → Hp → Prop, Q' (f x) H' → tt ((wipe σ [j]).set j (some v)) H' Q')
    (hm : ∀ (v : V) (x : α) (H' : Hp) (D : Addr), x ∈ xs → f x = true → Same H H' → R H' v x → (∃ us, H' D = some (.lst us)) → ∀ Q' : VK, (∀ y H'', Same H' H'' → S D H'' y (m x) → Q' y H'') → te ((wipe σ [j]).set j (some v)) H' Q')
    (q : ∀ (D : Addr) (us : List V) (H' : Hp), Same H H' → H D = none → H' D = some (.lst us) → EachIs (S D H') us ((xs.filter f).map m) → Q (.ref D) H') :
    tLc (iList K tl) (gName j) tt te [j] σ H Q := by
  have zl := zl
  refine ev _ ⟨a, rfl, ⟨ws, SqL.of ha⟩, fun D nD => ?_⟩
  have nDa : a ≠ D := fun z => by rw [z, nD] at ha; cases ha
  have lw := (he H same_refl).length
  refine lc_list (xs := ws) (fun i H' => Same H H' ∧ ∃ us, H' D = some (.lst us) ∧ EachIs (S D H') us (((xs.take i).filter f).map m)) ⟨same_new nD, [], upd_same, .nil⟩ (fun i H' _ h => SqL.of (h.1 _ _ ha)) ?_ ?_
  · rintro i v H' hv ⟨s, us, eD, hs⟩
    obtain ⟨x, hx, hR⟩ := each_at (he H' s) hv
    have hx' := List.mem_of_getElem? hx
    have lt := (List.getElem?_eq_some_iff.mp hx).1
    have et : xs.take (i + 1) = xs.take i ++ [x] := by rw [List.take_add_one, hx]; rfl
    refine ⟨by simp only [wipe, List.set_set], ht v x H' hx' s hR _ ?_⟩
    by_cases hf : f x = true
    · rw [if_pos hf]
      refine hm v x H' D hx' hf s hR ⟨us, eD⟩ _ fun y H2 s2 hy => ?_
      have ul := hs.length
      have fl : (((xs.take i).filter f).map m).length ≤ i := by
        rw [List.length_map]
        exact Nat.le_trans (List.length_filter_le _ _) (by rw [List.length_take]; omega)
      have but : ∀ b o, b ≠ D → H2 b = some o → upd H2 D (.lst (us ++ [y])) b = some o := fun b o n e => by rw [upd_ne n]; exact e
      refine ⟨us, s2 _ _ eD, by omega, fun b o e => ?_, us ++ [y], upd_same, ?_⟩
      · rw [upd_ne (ne_of_none e nD)]
        exact s2 _ _ (s _ _ e)
      · rw [et, List.filter_append, List.map_append, show [x].filter f = [x] from by rw [List.filter_cons, if_pos hf]; rfl]
        exact each_snoc (hs.mono fun _ _ z => st ⟨us, s2 _ _ eD⟩ but (st ⟨us, eD⟩ (fun b o _ e => s2 b o e) z)) (st ⟨us, s2 _ _ eD⟩ but hy)
    · rw [if_neg hf]
      refine ⟨s, us, eD, ?_⟩
      rw [et, List.filter_append, List.map_append, show [x].filter f = [] from by rw [List.filter_cons, if_neg hf]; rfl, List.map_nil, List.append_nil]
      exact hs
  · rintro H' ⟨s, us, eD, hs⟩
    rw [lw, List.take_length] at hs
    exact q D us H' s nD eD hs
theorem lc_rng {te ve : TE} {g : L2.TG} {tt : TT} {vs : List Nat} {σ : L2.St} {H : Hp} {Q : VK} {v : V} (ev : Ev te σ H v) (h : tLc (iRng1 (tCons (tC v) tNil)) g tt ve vs σ H Q) : tLc (iRng1 (tCons te tNil)) g tt ve vs σ H Q := ev _ h
theorem for_rng {te : TE} {g : L2.TG} {b : L2.TS} {σ : L2.St} {H : Hp} {D : Ends} {v : V} (ev : Ev te σ H v) (h : tFor (iRng1 (tCons (tC v) tNil)) g b D σ H) : tFor (iRng1 (tCons te tNil)) g b D σ H := ev _ h
/-- a test that is sure, and may lay objects -/
def SureS (t : TT) (σ : L2.St) (H : Hp) (p : Prop) [Decidable p] : Prop := ∀ R : Bool → Hp → Prop, (∀ H2, Same H H2 → R (decide p) H2) → t σ H R
theorem Sure.s {p : Prop} [Decidable p] (a : Sure t σ H p) : SureS t σ H p := fun R r => a R (r H same_refl)
theorem SureS.and {p q : Prop} [Decidable p] [Decidable q] (a : SureS t σ H p) (b : p → ∀ H1, Same H H1 → SureS u σ H1 q) : SureS (tAnd t u) σ H (p ∧ q) := fun R r => a _ fun H1 s1 => by
  by_cases h : p
  · refine yes_if (decide_eq_true h) (b h H1 s1 R fun H2 s2 => ?_)
    have r := r H2 (same_trans s1 s2)
    rw [show decide (p ∧ q) = decide q from decide_eq_decide.mpr ⟨fun z => z.2, fun z => ⟨h, z⟩⟩] at r
    exact r
  · refine no_if (decide_eq_false h) ?_
    have r := r H1 s1
    rw [show decide (p ∧ q) = false from decide_eq_false fun z => h z.1] at r
    exact r
theorem sureS_cast {p q : Prop} [Decidable p] [Decidable q] (h : p ↔ q) (s : SureS t σ H p) : SureS t σ H q := fun R r => s R (by rw [show decide p = decide q from decide_eq_decide.mpr h]; exact r)
theorem ifSS {p : Prop} [Decidable p] {a b : L2.TS} {D : Ends} (s : SureS t σ H p) (y : p → ∀ H1, Same H H1 → a D σ H1) (n : ¬ p → ∀ H1, Same H H1 → b D σ H1) : tIfS t a b D σ H := s _ fun H1 s1 => by
  by_cases h : p
  · exact yes_if (decide_eq_true h) (y h H1 s1)
  · exact no_if (decide_eq_false h) (n h H1 s1)
/-- as lc_gen; the test may lay objects too -/
theorem lc_genS {α β : Type} {R : Hp → V → α → Prop} {S : Addr → Hp → V → β → Prop} {a : Addr} {ws : List V} {xs : List α} {j : Nat} {tl te : TE} {tt : TT} {σ : L2.St} {H : Hp} {Q : VK} (f : α → Bool) (m : α → β)
    (ev : Ev tl σ H (.ref a)) (ha : H a = some (.lst ws)) (lx : xs.length ≤ 1000000) (he : ∀ H', Same H H' → EachIs (R H') ws xs)
    (st : ∀ {D : Addr} {H1 H2 : Hp} {v : V} {y : β}, (∃ us, H1 D = some (.lst us)) → (∀ b o, b ≠ D → H1 b = some o → H2 b = some o) → S D H1 v y → S D H2 v y)
    (ht : ∀ (v : V) (x : α) (H' : Hp), x ∈ xs → Same H H' → R H' v x → ∀ Q' : Bool → Hp → Prop, (∀ H'', Same H' H'' → Q' (f x) H'') → tt ((wipe σ [j]).set j (some v)) H' Q')
    (hm : ∀ (v : V) (x : α) (H' : Hp) (D : Addr), x ∈ xs → f x = true → Same H H' → R H' v x → (∃ us, H' D = some (.lst us)) → ∀ Q' : VK, (∀ y H'', Same H' H'' → S D H'' y (m x) → Q' y H'') → te ((wipe σ [j]).set j (some v)) H' Q')
    (q : ∀ (D : Addr) (us : List V) (H' : Hp), Same H H' → H D = none → H' D = some (.lst us) → EachIs (S D H') us ((xs.filter f).map m) → Q (.ref D) H') :
    tLc (iList K tl) (gName j) tt te [j] σ H Q := by
  have zl := zl
  refine ev _ ⟨a, rfl, ⟨ws, SqL.of ha⟩, fun D nD => ?_⟩
  have nDa : a ≠ D := fun z => by rw [z, nD] at ha; cases ha
  have lw := (he H same_refl).length
  refine lc_list (xs := ws) (fun i H' => Same H H' ∧ ∃ us, H' D = some (.lst us) ∧ EachIs (S D H') us (((xs.take i).filter f).map m)) ⟨same_new nD, [], upd_same, .nil⟩ (fun i H' _ h => SqL.of (h.1 _ _ ha)) ?_ ?_
  · rintro i v H' hv ⟨s, us, eD, hs⟩
    obtain ⟨x, hx, hR⟩ := each_at (he H' s) hv
    have hx' := List.mem_of_getElem? hx
    have lt := (List.getElem?_eq_some_iff.mp hx).1
    have et : xs.take (i + 1) = xs.take i ++ [x] := by rw [List.take_add_one, hx]; rfl
    refine ⟨by simp only [wipe, List.set_set], ht v x H' hx' s hR _ fun H1 s1 => ?_⟩
    have sH := same_trans s s1
    obtain ⟨x', hx2, hR1⟩ := each_at (he H1 sH) hv
    rw [hx] at hx2
    cases hx2
    have hs1 := hs.mono fun _ _ z => st ⟨us, eD⟩ (fun b o _ e => s1 b o e) z
    by_cases hf : f x = true
    · rw [if_pos hf]
      refine hm v x H1 D hx' hf sH hR1 ⟨us, s1 _ _ eD⟩ _ fun y H2 s2 hy => ?_
      have ul := hs.length
      have fl : (((xs.take i).filter f).map m).length ≤ i := by
        rw [List.length_map]
        exact Nat.le_trans (List.length_filter_le _ _) (by rw [List.length_take]; omega)
      have but : ∀ b o, b ≠ D → H2 b = some o → upd H2 D (.lst (us ++ [y])) b = some o := fun b o n e => by rw [upd_ne n]; exact e
      have eD2 := s2 _ _ (s1 _ _ eD)
      refine ⟨us, eD2, by omega, fun b o e => ?_, us ++ [y], upd_same, ?_⟩
      · rw [upd_ne (ne_of_none e nD)]
        exact s2 _ _ (sH _ _ e)
      · rw [et, List.filter_append, List.map_append, show [x].filter f = [x] from by rw [List.filter_cons, if_pos hf]; rfl]
        exact each_snoc (hs1.mono fun _ _ z => st ⟨us, eD2⟩ but (st ⟨us, s1 _ _ eD⟩ (fun b o _ e => s2 b o e) z)) (st ⟨us, eD2⟩ but hy)
    · rw [if_neg hf]
      refine ⟨sH, us, s1 _ _ eD, ?_⟩
      rw [et, List.filter_append, List.map_append, show [x].filter f = [] from by rw [List.filter_cons, if_neg hf]; rfl, List.map_nil, List.append_nil]
      exact hs1
  · rintro H' ⟨s, us, eD, hs⟩
    rw [lw, List.take_length] at hs
    exact q D us H' s nD eD hs
/-- a comprehension over range(n) -/
theorem lc_genR {β : Type} {S : Addr → Hp → V → β → Prop} {n : Nat} {j : Nat} {te : TE} {tt : TT} {σ : L2.St} {H : Hp} {Q : VK} (f : Nat → Bool) (m : Nat → β) (ln : n ≤ 1000000)
    (st : ∀ {D : Addr} {H1 H2 : Hp} {v : V} {y : β}, (∃ us, H1 D = some (.lst us)) → (∀ b o, b ≠ D → H1 b = some o → H2 b = some o) → S D H1 v y → S D H2 v y)
    (ht : ∀ (k : Nat) (H' : Hp), k < n → Same H H' → ∀ Q' : Bool → Hp → Prop, Q' (f k) H' → tt ((wipe σ [j]).set j (some (.int (k : Int)))) H' Q')
    (hm : ∀ (k : Nat) (H' : Hp) (D : Addr), k < n → f k = true → Same H H' → (∃ us, H' D = some (.lst us)) → ∀ Q' : VK, (∀ y H'', Same H' H'' → S D H'' y (m k) → Q' y H'') → te ((wipe σ [j]).set j (some (.int (k : Int)))) H' Q')
    (q : ∀ (D : Addr) (us : List V) (H' : Hp), Same H H' → H D = none → H' D = some (.lst us) → EachIs (S D H') us (((List.range n).filter f).map m) → Q (.ref D) H') :
    tLc (iRng1 (tCons (tC (.int (n : Int))) tNil)) (gName j) tt te [j] σ H Q := by
  have zl := zl
  refine ⟨_, rfl, by omega, by omega, fun D nD => ?_⟩
  refine lc_range (lo := 0) (n := ((n : Nat) : Int).toNat) (fun i H' => Same H H' ∧ ∃ us, H' D = some (.lst us) ∧ EachIs (S D H') us (((List.range i).filter f).map m)) ⟨same_new nD, [], upd_same, .nil⟩ ?_ ?_
  · rintro i H' hi ⟨s, us, eD, hs⟩
    have hi : i < n := by omega
    rw [Int.zero_add]
    refine ⟨by simp only [wipe, List.set_set], ht i H' hi s _ ?_⟩
    by_cases hf : f i = true
    · rw [if_pos hf]
      refine hm i H' D hi hf s ⟨us, eD⟩ _ fun y H2 s2 hy => ?_
      have ul := hs.length
      have fl : (((List.range i).filter f).map m).length ≤ i := by
        rw [List.length_map]
        exact Nat.le_trans (List.length_filter_le _ _) (by rw [List.length_range]; omega)
      have but : ∀ b o, b ≠ D → H2 b = some o → upd H2 D (.lst (us ++ [y])) b = some o := fun b o n e => by rw [upd_ne n]; exact e
      have eD2 := s2 _ _ eD
      refine ⟨us, eD2, by omega, fun b o e => ?_, us ++ [y], upd_same, ?_⟩
      · rw [upd_ne (ne_of_none e nD)]
        exact s2 _ _ (s _ _ e)
      · rw [List.range_succ, List.filter_append, List.map_append, show [i].filter f = [i] from by rw [List.filter_cons, if_pos hf]; rfl]
        exact each_snoc (hs.mono fun _ _ z => st ⟨us, eD2⟩ but (st ⟨us, eD⟩ (fun b o _ e => s2 b o e) z)) (st ⟨us, eD2⟩ but hy)
    · rw [if_neg hf]
      refine ⟨s, us, eD, ?_⟩
      rw [List.range_succ, List.filter_append, List.map_append, show [i].filter f = [] from by rw [List.filter_cons, if_neg hf]; rfl, List.map_nil, List.append_nil]
      exact hs
  · rintro H' ⟨s, us, eD, hs⟩
    rw [Int.toNat_natCast] at hs
    exact q D us H' s nD eD hs
theorem ts_but {D : Addr} {H1 H2 : Hp} (h : ∃ us, H1 D = some (.lst us)) (k : ∀ b o, b ≠ D → H1 b = some o → H2 b = some o) : TS H1 H2 := fun b xs e => k b _ (fun z => by
  obtain ⟨us, h⟩ := h
  rw [z, h] at e
  cases e) e
end
end K20
namespace K20
open PySem PySem.Spec PyProof.Rows L2 TL TR QR
open GxR (TabB TabG Tabbed)
open PySem.W (EachIs)
abbrev sSM : Stmt := topS 11
abbrev nSM : List Str := ["state", "row", "most", "found", "k", "one"]
theorem scSM : FnScope nSM ["state", "row", "most"] (defScope sSM) := ⟨rfl, rfl, rfl, by decide +kernel, rfl, by decide +kernel, by decide +kernel⟩
abbrev sPA : Stmt := topS 12
abbrev nPA : List Str := ["state"]
theorem scPA : FnScope nPA ["state"] (defScope sPA) := ⟨rfl, rfl, rfl, by decide +kernel, rfl, by decide +kernel, by decide +kernel⟩
section
variable {P : Program} {w : World} {K : PySem.W.Frag} {mg : Str → Option Value} {base : Heap} {H : Hp} {v : V} {Q : VK} {E : XK} {Ts : List Addr}
def spSM : Sp := fun vs H Q _ => ∃ (p c a : Addr) (ws : List V) (xs : List Vx) (m : Nat), vs = [.ref p, .ref a, .int (m : Int)] ∧ m < 1000 ∧ StateAt H p c ∧ a ≠ p ∧ a ≠ c ∧ H a = some (.lst ws) ∧ EachIs (VxAt H) ws xs ∧ xs.length < 1000 ∧
  ∀ H' v ys, Dr p c H H' → VsAt (fun x => H x = none) H' v ys → (∀ y ∈ ys, y ∈ xs) → ys.length ≤ m → Q v H'
theorem ok_SM {f fD fP : Addr} {fd fdD fdP : FuncData} (F : Fun K "_law_some" "_law_some" sSM f fd)
    (GD : FnOk P w K mg base CX0 1 fD fdD ["state", "many"] spDraw) (bD : Binds K fdD ["state", "many"] []) (gD : mg "_law_draw" = some (.ref fD)) (kD : PySem.W.keepIn K (.ref fD) = true)
    (GP : FnOk P w K mg base CX0 2 fP fdP ["state", "row"] spPick) (bP : Binds K fdP ["state", "row"] []) (gP : mg "_law_pick" = some (.ref fP)) (kP : PySem.W.keepIn K (.ref fP) = true)
    (m_len : mg "len" = none) (m_range : mg "range" = none) (m_sorted : mg "sorted" = none) : FnOk P w K mg base CX0 3 f fd ["state", "row", "most"] spSM := by
  refine F.ok scSM (fun vs H Q E h => ?_) (fun cdv A outer s H vs Q E hr h => ?_)
  · obtain ⟨p, c, a, ws, xs, m, rfl, _⟩ := h
    rfl
  · obtain ⟨p, c, a, ws, xs, m, rfl, hm, st, np, nc, ha, he, lx, q⟩ := h
    have hu := hr.units
    have hu1 := hu_of hr
    have hr1 : Room 1 _ := hr.mono (by decide)
    have hr2 : Room 2 _ := hr.mono (by decide)
    have zl := zl
    refine ⟨_, (pss_cons (ps_set (i := 3) scSM.nd rfl (.inl rfl) (pe_lst (pa_nil)))
      (pss_cons (ps_for PassesOwn.never rfl (pi_range1 (by rfl) m_range (pa_cons (pe_call GD hr1 (by rfl) gD kD bD .nil pass0 (pa_cons (pv 0) (pa_cons (pe_op op_add (pv 2) (pe_int)) pa_nil))) pa_nil)) (pg_name (i := 4) scSM.nd rfl (.inl rfl))
      (pss_one (ps_if (pt_cmpR op_gt (pe_callB call_len_seq (by rfl) m_len PySem.boot_len (pa_cons (pv 1) pa_nil)) (pe_int) (nomark _))
      (pss_cons (ps_set (i := 5) scSM.nd rfl (.inl rfl) (pe_call GP hr2 (by rfl) gP kP bP .nil pass0 (pa_cons (pv 0) (pa_cons (pv 1) pa_nil))))
      (pss_one (ps_if (pt_cmpR (GX.op_notInP hu) (pv 5) (pv 3) (by rfl))
      (pss_one (ps_expr (pe_bm PySem.F.plainAttrs_list PySem.F.slot_list_append PySem.F.type_list_append mt_append (pv 3) (pa_cons (pv 5) pa_nil)))) pss_nil))) pss_nil)))
      (pss_one (ps_ret (pe_callB (GX.cr_sortedD hu) (by rfl) m_sorted (by decide +kernel) (pa_cons (pv 3) pa_nil)))))), ?_⟩
    dsimp only [tNext, tSeq, tIfS, tAsg, gName, tC, cxOf]
    refine ⟨by show 0 ≤ sizeLine; omega, fun D nD => ?_⟩
    have nDp := st.new nD
    have s1 := same_new (o := .lst ([] : List V)) nD
    have dr1 := (Dr.refl st).same s1
    have e1 : upd H D (.lst ([] : List V)) D = some (.lst []) := upd_same
    have nDa : D ≠ a := fun z => by rw [z, ha] at nD; cases nD
    generalize upd H D (.lst ([] : List V)) = H1 at dr1 e1
    refine ⟨_, rfl, _, rfl, _, _, rfl, rfl, p, c, m + 1, rfl, by omega, dr1.st, fun H2 many _ hm2 st2 d2 => ⟨_, rfl, ?_⟩⟩
    have hm2 := hm2 (by omega)
    have dr2 := dr1.drawn st2 d2
    have e2 : H2 D = some (.lst []) := (d2 D nDp.1 nDp.2).trans e1
    refine ⟨by omega, by omega, ?_⟩
    refine for_it (walk_range (lo := 0) (n := ((many : Int)).toNat)) (fun i σ H' => ∃ (y4 y5 : Option V) (us : List V) (ys : List Vx), σ = [some (.ref p), some (.ref a), some (.int (m : Int)), some (.ref D), y4, y5] ∧ Dr p c H H' ∧ H' D = some (.lst us) ∧ EachIs (VxAt H') us ys ∧ (∀ y ∈ ys, y ∈ xs) ∧ ys.length ≤ i)
      ⟨none, none, [], [], rfl, dr2, e2, .nil, (fun _ h => nomatch h), Nat.le_refl _⟩ ?_ ?_ ?_
    · exact fun _ _ _ _ _ => trivial
    · rintro i x σ H3 H3' hi ⟨y4, y5, us, ys, rfl, d3, eD, hy, hsub, ly⟩ ⟨rfl, rfl⟩
      have ha3 := d3.ou a _ np nc ha
      have he3 := each_vx (d3.ts st) he
      have lw := he.length
      refine ⟨_, rfl, a, ws, rfl, .inl (SqL.of ha3), _, _, rfl, rfl, _, rfl, ite2 (fun h0 => ?_) (fun h0 => ?_)⟩
      · have pos : 0 < ws.length := by have := of_decide_eq_true h0; omega
        refine ⟨_, rfl, _, rfl, p, c, a, ws, rfl, ha3, np, nc, pos, by omega, d3.st, fun H4 v hv st4 d4 => ?_⟩
        have dr4 := d3.drawn st4 d4
        have d34 := (Dr.refl d3.st).drawn st4 d4
        have eD4 := d34.ou D _ nDp.1 nDp.2 eD
        have hy4 := each_vx (d34.ts d3.st) hy
        obtain ⟨x, hx, hvx⟩ := each_mem (each_vx (d34.ts d3.st) he3) hv
        have lu := hy.length
        refine ⟨_, rfl, _, rfl, _, _, .lst (SqL.of eD4) (dp_each (fun _ _ h => dp_vx h) hy4), dp_vx hvx, solidAll_plain _ (solid_vxs ys), solid_plain _ (solid_vx x), by rw [vx_depth]; decide, _, rfl, ite2 (fun hn => ?_) (fun hn => ?_)⟩
        · have lf : LF (fun b => b ≠ D) H4 (upd H4 D (.lst (us ++ [v]))) := lf_upd eD4 fun z => z rfl
          refine ⟨_, rfl, .inl ⟨rfl, _, .inl (.inl eD4)⟩, _, rfl, D, us, v, rfl, rfl, eD4, by omega, _, _, us ++ [v], ys ++ [x], rfl, ⟨dr4.st.upd nDp, fun b o n1 n2 e => ?_⟩, upd_same, each_snoc (each_vx lf.ts hy4) (hvx.ts lf.ts), fun y hy => ?_, ?_⟩
          · rw [upd_ne (ne_of_none e nD)]
            exact dr4.ou b o n1 n2 e
          · rcases List.mem_append.mp hy with h | h
            · exact hsub y h
            · rw [List.mem_singleton.mp h]
              exact hx
          · rw [List.length_append]
            show _ + 1 ≤ _
            omega
        · exact ⟨_, _, us, ys, rfl, dr4, eD4, hy4, hsub, by omega⟩
      · exact ⟨_, _, us, ys, rfl, d3, eD, hy, hsub, by omega⟩
    · rintro σ H3 ⟨y4, y5, us, ys, rfl, d3, eD, hy, hsub, ly⟩
      refine ⟨_, rfl, D, us, Vx, ys, vxD, VxAt H3, rfl, SqL.of eD, hy, fun v x h => dp_vx h, PySem.W.AllAlike.of alike_vx, PySem.W.Sortable.tuples fun x => ⟨_, _, rfl⟩, fun x _ => by rw [vx_depth]; decide, fun zs u ez nu => ?_⟩
      have pm := List.mergeSort_perm ys (PySem.W.dataLe false vxD)
      refine q _ _ _ (d3.same (same_new nu)) ⟨u, zs, rfl, d3.none nu, upd_same, each_vx (Same.ts (same_new nu)) ez⟩ (fun y h => hsub y (pm.mem_iff.mp h)) ?_
      rw [pm.length_eq]
      omega
def spPA : Sp := fun vs H Q _ => ∃ (p c : Addr), vs = [.ref p] ∧ StateAt H p c ∧ ∀ H' v ps, Dr p c H H' → PathAt H' v ps → ps.length ≤ 2 → (∀ l ∈ ps, l.length ≤ 8) → Q v H'
theorem ok_PA {f fP : Addr} {fd fdP : FuncData} (F : Fun K "_law_path" "_law_path" sPA f fd)
    (GP : FnOk P w K mg base CX0 2 fP fdP ["state", "row"] spPick) (bP : Binds K fdP ["state", "row"] []) (gP : mg "_law_pick" = some (.ref fP)) (kP : PySem.W.keepIn K (.ref fP) = true) : FnOk P w K mg base CX0 3 f fd ["state"] spPA := by
  refine F.ok scPA (fun vs H Q E h => ?_) (fun cdv A outer s H vs Q E hr h => ?_)
  · obtain ⟨p, c, rfl, _⟩ := h
    rfl
  · obtain ⟨p, c, rfl, st, q⟩ := h
    have hu := hr.units
    have hu1 := hu_of hr
    have hr1 : Room 1 _ := hr.mono (by decide)
    have hr2 : Room 2 _ := hr.mono (by decide)
    have zl := zl
    refine ⟨_, (pss_one (ps_ret (pe_call GP hr2 (by rfl) gP kP bP .nil pass0 (pa_cons (pv 0) (pa_cons (pe_lst (pa_cons (pe_tup (pa_cons (pe_str) pa_nil)) (pa_cons (pe_tup (pa_cons (pe_str) pa_nil)) (pa_cons (pe_tup (pa_cons (pe_str) (pa_cons (pe_str) pa_nil))) (pa_cons (pe_tup (pa_cons (pe_str) pa_nil)) pa_nil))))) pa_nil))))), ?_⟩
    have ea : (Str.ofString "a") = Sg [97] := by decide +kernel
    have eb : (Str.ofString "b") = Sg [98] := by decide +kernel
    have ec : (Str.ofString "c") = Sg [99] := by decide +kernel
    have ed : (Str.ofString "d1") = Sg [100, 49] := by decide +kernel
    refine ⟨_, rfl, by show 1 ≤ sizeLine; omega, fun t1 n1 => ⟨by show 1 ≤ sizeLine; omega, fun t2 n2 => ⟨by show 2 ≤ sizeLine; omega, fun t3 n3 => ⟨by show 1 ≤ sizeLine; omega, fun t4 n4 => ⟨by show 4 ≤ sizeLine; omega, fun a na => ?_⟩⟩⟩⟩⟩
    have s1 := same_new (o := .tup [.str "a"]) n1
    have s2 := same_new (o := .tup [.str "b"]) n2
    have s3 := same_new (o := .tup [.str "a", .str "c"]) n3
    have s4 := same_new (o := .tup [.str "d1"]) n4
    have s5 := same_new (o := .lst [.ref t1, .ref t2, .ref t3, .ref t4]) na
    have e5 : upd (upd (upd (upd (upd H t1 (.tup [.str "a"])) t2 (.tup [.str "b"])) t3 (.tup [.str "a", .str "c"])) t4 (.tup [.str "d1"])) a (.lst [.ref t1, .ref t2, .ref t3, .ref t4]) a = some (.lst [.ref t1, .ref t2, .ref t3, .ref t4]) := upd_same
    have k1 := s5 _ _ (s4 _ _ (s3 _ _ (s2 _ _ (upd_same (H := H) (a := t1) (o := .tup [.str "a"])))))
    have k2 := s5 _ _ (s4 _ _ (s3 _ _ (upd_same (H := upd H t1 (.tup [.str "a"])) (a := t2) (o := .tup [.str "b"]))))
    have k3 := s5 _ _ (s4 _ _ (upd_same (H := upd (upd H t1 (.tup [.str "a"])) t2 (.tup [.str "b"])) (a := t3) (o := .tup [.str "a", .str "c"])))
    have k4 := s5 _ _ (upd_same (H := upd (upd (upd H t1 (.tup [.str "a"])) t2 (.tup [.str "b"])) t3 (.tup [.str "a", .str "c"])) (a := t4) (o := .tup [.str "d1"]))
    have sA := same_trans (same_trans (same_trans (same_trans s1 s2) s3) s4) s5
    have nA := st.new (same_none (same_trans (same_trans (same_trans s1 s2) s3) s4) na)
    generalize upd (upd (upd (upd (upd H t1 (.tup [.str "a"])) t2 (.tup [.str "b"])) t3 (.tup [.str "a", .str "c"])) t4 (.tup [.str "d1"])) a (.lst [.ref t1, .ref t2, .ref t3, .ref t4]) = H5 at e5 k1 k2 k3 k4 sA
    have d5 := (Dr.refl st).same sA
    refine ⟨p, c, a, _, rfl, e5, nA.1, nA.2, by simp, by simp, d5.st, fun H6 v hv st6 d6 => ?_⟩
    have d56 := (Dr.refl d5.st).drawn st6 d6
    have ts := d56.ts d5.st
    have dr := d5.trans d56
    simp only [List.mem_cons, List.not_mem_nil, or_false] at hv
    rw [ea] at k1 k3
    rw [eb] at k2
    rw [ec] at k3
    rw [ed] at k4
    rcases hv with rfl | rfl | rfl | rfl
    · exact q H6 _ [[97]] dr ⟨t1, rfl, ts _ _ k1⟩ (by decide) (by decide)
    · exact q H6 _ [[98]] dr ⟨t2, rfl, ts _ _ k2⟩ (by decide) (by decide)
    · exact q H6 _ [[97], [99]] dr ⟨t3, rfl, ts _ _ k3⟩ (by decide) (by decide)
    · exact q H6 _ [[100, 49]] dr ⟨t4, rfl, ts _ _ k4⟩ (by decide) (by decide)
end
end K20
namespace K20
open PySem PySem.Spec PyProof.Rows L2 TL TR QR
open GxR (TabB TabG Tabbed)
open PySem.W (EachIs)
open GX (dNO KeysAt)
abbrev sCH : Stmt := topS 13
abbrev nCH : List Str := ["state", "known", "ids", "kind", "file", "given", "lines", "one", "texts", "k", "line"]
theorem scCH : FnScope nCH ["state", "known", "ids"] (defScope sCH) := ⟨rfl, rfl, rfl, by decide +kernel, rfl, by decide +kernel, by decide +kernel⟩
/-- the files that are known: their names, their lines -/
structure KnAt (P : Program) (w : World) (N : Addr → Prop) (H : Hp) (D : Addr) (es : List (Vx × Addr × V)) (g l : Vx → List Vx) : Prop where
  rd : H D = some (dNO ktV P w D es)
  ky : ∀ e ∈ es, VxAt H (.ref e.2.1) e.1
  vl : ∀ e ∈ es, ∃ a gv lv, e.2.2 = .ref a ∧ H a = some (.tup [gv, lv]) ∧ VsAt N H gv (g e.1) ∧ VsAt N H lv (l e.1)
structure KnOk (ks : List Vx) (g l : Vx → List Vx) (ns : List Nm) (B : Nat) : Prop where
  ky : ∀ k ∈ ks, k.1 ∈ ns
  ne : ∀ k ∈ ks, g k ≠ []
  gs : ∀ k ∈ ks, ∀ x ∈ g k, x.1 ∈ ns
  ls : ∀ k ∈ ks, ∀ x ∈ l k, x.1 ∈ ns
  gb : ∀ k ∈ ks, (g k).length ≤ B
  lb : ∀ k ∈ ks, (l k).length ≤ B
  kb : ks.length ≤ B
  nd : ∀ k ∈ ks, (l k).Nodup
theorem KnAt.lf {P : Program} {w : World} {N : Addr → Prop} {H H' : Hp} {D : Addr} {es : List (Vx × Addr × V)} {g l : Vx → List Vx} (s : LF N H H') (hD : H' D = H D) (h : KnAt P w N H D es g l) : KnAt P w N H' D es g l :=
  ⟨hD.trans h.rd, fun e he => (h.ky e he).ts s.ts, fun e he => let ⟨a, gv, lv, e1, e2, e3, e4⟩ := h.vl e he; ⟨a, gv, lv, e1, s.ts _ _ e2, e3.lf s, e4.lf s⟩⟩
theorem KnAt.keys {P : Program} {w : World} {K : PySem.W.Frag} {N : Addr → Prop} {H : Hp} {D : Addr} {es : List (Vx × Addr × V)} {g l : Vx → List Vx} (h : KnAt P w N H D es g l) : KeysAt ktV K H es := fun e he => dp_vx (h.ky e he)
theorem KnAt.pc {P : Program} {w : World} {N : Addr → Prop} {H : Hp} {D p c : Addr} {es : List (Vx × Addr × V)} {g l : Vx → List Vx} (h : KnAt P w N H D es g l) (st : StateAt H p c) : D ≠ p ∧ D ≠ c := by
  obtain ⟨⟨_, e1⟩, ⟨_, e2⟩⟩ := st.some
  refine ⟨fun z => ?_, fun z => ?_⟩
  · have := h.rd
    rw [z, e1] at this
    cases this
  · have := h.rd
    rw [z, e2] at this
    cases this
theorem KnAt.dr {P : Program} {w : World} {H H' : Hp} {D p c : Addr} {es : List (Vx × Addr × V)} {g l : Vx → List Vx} (st : StateAt H p c) (d : Dr p c H H') (h : KnAt P w (fun a => a ≠ p ∧ a ≠ c) H D es g l) : KnAt P w (fun a => a ≠ p ∧ a ≠ c) H' D es g l :=
  h.lf (d.lf st fun _ n => n) (by rw [h.rd]; exact d.ou D _ (h.pc st).1 (h.pc st).2 h.rd)
def tx5 : Path := [[120], [121], [], [122, 32, 122], [126]]
def VxIn (ns : List Nm) (xs : List Vx) (m : Nat) : Prop := (∀ x ∈ xs, x.1 ∈ ns) ∧ xs.length ≤ m
/-- what a change that was drawn tells of -/
def ChIn (ks : List Vx) (ids ns : List Nm) : Chg → Prop
  | .add ps => ps.length ≤ 2 ∧ ∀ l ∈ ps, l.length ≤ 8
  | .back n => n ∈ ids
  | .drop f xs => f ∈ ks ∧ VxIn ns xs 2
  | .move f ps xs => f ∈ ks ∧ VxIn ns xs 2 ∧ ps.length ≤ 2 ∧ ∀ l ∈ ps, l.length ≤ 8
  | .cut f xs => f ∈ ks ∧ VxIn ns xs 3
  | .order f a b => f ∈ ks ∧ a.1 ∈ ns ∧ b.1 ∈ ns
  | .lines f xs ys ts => f ∈ ks ∧ VxIn ns xs 2 ∧ VxIn ns ys 2 ∧ 1 ≤ ts.length ∧ ts.length ≤ 3 ∧ ∀ t ∈ ts, t ∈ tx5
theorem or_some {K : PySem.W.Frag} {p c a : Addr} {σ : L2.St} {H : Hp} {i : Nat} {ws : List V} {xs : List Vx} {m : Nat} {mi : Int} {tb : TE} {R : VK} (st : StateAt H p c) (e0 : σ[0]? = some (some (.ref p))) (ei : σ[i]? = some (some (.ref a))) (np : a ≠ p) (nc : a ≠ c)
    (ha : H a = some (.lst ws)) (he : EachIs (VxAt H) ws xs) (lx : xs.length < 1000) (emi : mi = (m : Int)) (hm : m < 1000) (h1 : 1 ≤ m)
    (hb : ∀ (H1 : Hp) (R1 : VK), Dr p c H H1 → (∀ v x, x ∈ xs → VxAt H1 v x → R1 v H1) → tb σ H1 R1)
    (q : ∀ H' v ys, Dr p c H H' → VsAt (fun x => H x = none) H' v ys → (∀ y ∈ ys, y ∈ xs) → ys.length ≤ m → R v H') :
    tOrT K (tCall spSM [] E0 (tCons (tVar 0) (tCons (tVar i) (tCons (tC (.int mi)) tNil)))) (tLst (tCons tb tNil)) σ H R := by
  subst emi
  refine ⟨_, e0, _, ei, p, c, a, ws, xs, m, rfl, hm, st, np, nc, ha, he, lx, fun H1 v ys d1 hv hs hl => ?_⟩
  have hv' := hv
  obtain ⟨u, us, rfl, nu, hu, hx⟩ := hv
  refine ⟨!us.isEmpty, .inl ⟨us, SqL.of hu, rfl⟩, ?_⟩
  by_cases h0 : us = []
  · refine no_if (by rw [h0]; rfl) ?_
    refine hb H1 _ d1 fun v x hx hvx => ⟨(by show 1 ≤ sizeLine; have := zl; omega), fun D nD => ?_⟩
    have s2 := same_new (o := .lst [v]) nD
    refine q _ _ [x] (d1.same s2) ⟨D, [v], rfl, d1.none nD, upd_same, .cons (hvx.ts (Same.ts s2)) .nil⟩ (fun y hy => by rw [List.mem_singleton.mp hy]; exact hx) h1
  · exact yes_if (by cases us with | nil => exact absurd rfl h0 | cons _ _ => rfl) (q H1 _ ys d1 hv' hs hl)
section
variable {P : Program} {w : World} {K : PySem.W.Frag} {mg : Str → Option Value} {base : Heap} {H : Hp} {v : V} {Q : VK} {E : XK} {Ts : List Addr}
def spCH (P : Program) (w : World) : Sp := fun vs H Q _ => ∃ (p c D li : Addr) (es : List (Vx × Addr × V)) (g l : Vx → List Vx) (ids ns : List Nm), vs = [.ref p, .ref D, .ref li] ∧ StateAt H p c ∧ KnAt P w (fun a => a ≠ p ∧ a ≠ c) H D es g l ∧ KnOk (es.map (·.1)) g l ns 900 ∧
  NsAt (fun a => a ≠ p ∧ a ≠ c) H (.ref li) ids ∧ ids.length < 1000 ∧ ∀ H' v ch, Dr p c H H' → ChgAt (fun x => H x = none) H' v ch → ChIn (es.map (·.1)) ids ns ch → Q v H'
theorem ok_CH {f fD fP fSM fPA : Addr} {fd fdD fdP fdSM fdPA : FuncData} (F : Fun K "_law_change" "_law_change" sCH f fd)
    (GD : FnOk P w K mg base CX0 1 fD fdD ["state", "many"] spDraw) (bD : Binds K fdD ["state", "many"] []) (gD : mg "_law_draw" = some (.ref fD)) (kD : PySem.W.keepIn K (.ref fD) = true)
    (GP : FnOk P w K mg base CX0 2 fP fdP ["state", "row"] spPick) (bP : Binds K fdP ["state", "row"] []) (gP : mg "_law_pick" = some (.ref fP)) (kP : PySem.W.keepIn K (.ref fP) = true)
    (GSM : FnOk P w K mg base CX0 3 fSM fdSM ["state", "row", "most"] spSM) (bSM : Binds K fdSM ["state", "row", "most"] []) (gSM : mg "_law_some" = some (.ref fSM)) (kSM : PySem.W.keepIn K (.ref fSM) = true)
    (GPA : FnOk P w K mg base CX0 3 fPA fdPA ["state"] spPA) (bPA : Binds K fdPA ["state"] []) (gPA : mg "_law_path" = some (.ref fPA)) (kPA : PySem.W.keepIn K (.ref fPA) = true)
    (m_len : mg "len" = none) (m_range : mg "range" = none) (m_sorted : mg "sorted" = none) : FnOk P w K mg base CX0 4 f fd ["state", "known", "ids"] (spCH P w) := by
  refine F.ok scCH (fun vs H Q E h => ?_) (fun cdv A outer s H vs Q E hr h => ?_)
  · obtain ⟨p, c, D, li, es, g, l, ids, ns, rfl, _⟩ := h
    rfl
  · obtain ⟨p, c, D, li, es, g, l, ids, ns, rfl, st, hK, okK, hI, lI, q⟩ := h
    have hu := hr.units
    have hu1 := hu_of hr
    have hr1 : Room 1 _ := hr.mono (by decide)
    have hr2 : Room 2 _ := hr.mono (by decide)
    have hr3 : Room 3 _ := hr.mono (by decide)
    have zl := zl
    refine ⟨_, (pss_cons (ps_set (i := 3) scCH.nd rfl (.inl rfl) (pe_call GD hr1 (by rfl) gD kD bD .nil pass0 (pa_cons (pv 0) (pa_cons (pe_int) pa_nil))))
      (pss_cons (ps_if (PW.pt (pw_or (pt_cmpR op_eq (pe_callB (GX.cr_lenN (T := ktV)) (by rfl) m_len PySem.boot_len (pa_cons (pv 1) pa_nil)) (pe_int) (nomark _)) (pw_or1 (pt_cmpR op_eq (pv 3) (pe_int) (nomark _)))))
      (pss_one (ps_ret (pe_tup (pa_cons (pe_str) (pa_cons (pe_call GPA hr3 (by rfl) gPA kPA bPA .nil pass0 (pa_cons (pv 0) pa_nil)) pa_nil))))) pss_nil)
      (pss_cons (ps_if (PW.pt (pw_and (pt_cmpR op_eq (pv 3) (pe_int) (nomark _)) (pw_and1 (pt_cmpR op_gt (pe_callB call_len_seq (by rfl) m_len PySem.boot_len (pa_cons (pv 2) pa_nil)) (pe_int) (nomark _)))))
      (pss_one (ps_ret (pe_tup (pa_cons (pe_str) (pa_cons (pe_call GP hr2 (by rfl) gP kP bP .nil pass0 (pa_cons (pv 0) (pa_cons (pv 2) pa_nil))) pa_nil))))) pss_nil)
      (pss_cons (ps_set (i := 4) scCH.nd rfl (.inl rfl) (pe_call GP hr2 (by rfl) gP kP bP .nil pass0 (pa_cons (pv 0) (pa_cons (pe_callB (GX.cr_sortedN (T := ktV) rfl hu) (by rfl) m_sorted (by decide +kernel) (pa_cons (pv 1) pa_nil)) pa_nil))))
      (pss_cons (ps_asg (pe_ix (GX.ix_N (T := ktV) hu) (pv 1) (pv 4) (fun _ _ => rfl)) (pg_tup (by rfl) (pgs_cons (pg_name (i := 5) scCH.nd rfl (.inl rfl)) (pgs_cons (pg_name (i := 6) scCH.nd rfl (.inl rfl)) pgs_nil))))
      (pss_cons (ps_if (pt_cmpR op_eq (pv 3) (pe_int) (nomark _))
      (pss_one (ps_ret (pe_tup (pa_cons (pe_str) (pa_cons (pv 4) (pa_cons (pe_call GPA hr3 (by rfl) gPA kPA bPA .nil pass0 (pa_cons (pv 0) pa_nil)) (pa_cons (pe_orT (pe_call GSM hr3 (by rfl) gSM kSM bSM .nil pass0 (pa_cons (pv 0) (pa_cons (pv 5) (pa_cons (pe_int) pa_nil)))) (pe_one (pe_lst (pa_cons (pe_ix ix_list (pv 5) (pe_un un_neg pe_int) (fun _ _ => rfl)) pa_nil)))) pa_nil))))))) pss_nil)
      (pss_cons (ps_if (pt_cmpR op_eq (pv 3) (pe_int) (nomark _))
      (pss_one (ps_ret (pe_tup (pa_cons (pe_str) (pa_cons (pv 4) (pa_cons (pe_orT (pe_call GSM hr3 (by rfl) gSM kSM bSM .nil pass0 (pa_cons (pv 0) (pa_cons (pv 5) (pa_cons (pe_int) pa_nil)))) (pe_one (pe_lst (pa_cons (pe_ix ix_list (pv 5) (pe_un un_neg pe_int) (fun _ _ => rfl)) pa_nil)))) pa_nil)))))) pss_nil)
      (pss_cons (ps_if (PW.pt (pw_and (pt_cmpR op_lt (pv 3) (pe_int) (nomark _)) (pw_and1 (pt_cmpR op_gt (pe_callB call_len_seq (by rfl) m_len PySem.boot_len (pa_cons (pv 6) pa_nil)) (pe_int) (nomark _)))))
      (pss_one (ps_ret (pe_tup (pa_cons (pe_str) (pa_cons (pv 4) (pa_cons (pe_orT (pe_call GSM hr3 (by rfl) gSM kSM bSM .nil pass0 (pa_cons (pv 0) (pa_cons (pv 6) (pa_cons (pe_int) pa_nil)))) (pe_one (pe_lst (pa_cons (pe_ix ix_list (pv 6) pe_int (fun _ _ => rfl)) pa_nil)))) pa_nil)))))) pss_nil)
      (pss_cons (ps_if (PW.pt (pw_and (pt_cmpR op_lt (pv 3) (pe_int) (nomark _)) (pw_and1 (pt_cmpR op_gt (pe_callB call_len_seq (by rfl) m_len PySem.boot_len (pa_cons (pv 6) pa_nil)) (pe_int) (nomark _)))))
      (pss_cons (ps_set (i := 7) scCH.nd rfl (.inr rfl) (pe_call GP hr2 (by rfl) gP kP bP .nil pass0 (pa_cons (pv 0) (pa_cons (pv 6) pa_nil))))
      (pss_one (ps_ret (pe_tup (pa_cons (pe_str) (pa_cons (pv 4) (pa_cons (pv 7) (pa_cons (pe_call GP hr2 (by rfl) gP kP bP .nil pass0 (pa_cons (pv 0) (pa_cons (pe_lc (own := [("line", 10)]) (g := gName 10) (tt := tTest (tOp (rNeP K) (tVar 10) (tVar 7))) (te := tVar 10) rfl scCH.nd (pi_list (pv 6)) (blkOk_by (N := nCH) (sc := defScope sCH) (by decide +kernel)) (fun _ _ _ _ _ => by exact pg_name (i := 10) scCH.nd rfl (.inl rfl)) (fun _ _ _ _ _ => by exact pts_one (pt_cmpR (op_neP hu) (pv 10) (pv 7) (nomark _))) (fun _ _ _ _ _ => by exact pv 10)) pa_nil))) pa_nil)))))))) pss_nil)
      (pss_cons (ps_setLc (i := 8) (own := [("k", 9)]) (g := gName 9) (tt := tYes) (te := tCall spPick [] E0 (tCons (tVar 0) (tCons (tLst (tCons (tC (.str "x")) (tCons (tC (.str "y")) (tCons (tC (.str "")) (tCons (tC (.str "z z")) (tCons (tC (.str "~")) tNil)))))) tNil))) rfl scCH.nd rfl rfl (sw_true rfl rfl rfl (by decide +kernel)) (pi_range1 (by rfl) m_range (pa_cons (pe_op op_add (pe_int) (pe_call GD hr1 (by rfl) gD kD bD .nil pass0 (pa_cons (pv 0) (pa_cons (pe_int) pa_nil)))) pa_nil)) (blkOk_by (N := nCH) (sc := defScope sCH) (by decide +kernel)) (fun _ _ _ _ _ => by exact pg_name (i := 9) scCH.nd rfl (.inl rfl)) (fun _ _ _ _ _ => pts_nil) (fun _ _ _ _ _ => by exact pe_call GP hr2 (by rfl) gP kP bP .nil pass0 (pa_cons (pv 0) (pa_cons (pe_lst (pa_cons (pe_str) (pa_cons (pe_str) (pa_cons (pe_str) (pa_cons (pe_str) (pa_cons (pe_str) pa_nil)))))) pa_nil))))
      (pss_one (ps_ret (pe_tup (pa_cons (pe_str) (pa_cons (pv 4) (pa_cons (pe_call GSM hr3 (by rfl) gSM kSM bSM .nil pass0 (pa_cons (pv 0) (pa_cons (pv 6) (pa_cons (pe_int) pa_nil)))) (pa_cons (pe_call GSM hr3 (by rfl) gSM kSM bSM .nil pass0 (pa_cons (pv 0) (pa_cons (pv 6) (pa_cons (pe_int) pa_nil)))) (pa_cons (pv 8) pa_nil)))))))))))))))))), ?_⟩
    refine ⟨_, rfl, p, c, 14, rfl, by decide, st, fun H1 r _ hr st1 d1 => ?_⟩
    have hr := hr (by decide)
    have dr1 := (Dr.refl st).drawn st1 d1
    have hK1 := hK.dr st dr1
    have hDp := hK.pc st
    obtain ⟨li0, iw, eli, nli, hli, heI⟩ := hI
    cases eli
    have hli1 := dr1.ou li _ nli.1 nli.2 hli
    have heI1 := each_nm (dr1.ts st) heI
    have lwI := heI.length
    refine ifS (p := es.length = 0 ∨ r = 0) ((Sure.eqN (j := 0) (Ev.lenN (.var rfl) hK1.rd hK1.keys) .con).or fun _ => Sure.eqN (j := 0) (.var rfl) .con) (fun _ => ?_) (fun hn0 => ?_)
    · refine ⟨_, rfl, p, c, rfl, st1, fun H2 pv ps d2 hp l2 l8 => ⟨by show 2 ≤ sizeLine; omega, fun t nt => ?_⟩⟩
      exact q _ _ (.add ps) ((dr1.trans d2).same (same_new nt)) ⟨t, pv, rfl, upd_same, hp.ts (Same.ts (same_new nt))⟩ ⟨l2, l8⟩
    refine ifS (p := r = 1 ∧ 0 < iw.length) ((Sure.eqN (j := 1) (.var rfl) .con).and fun _ => Sure.gt (j := 0) (Ev.len (.var rfl) hli1) .con) (fun h => ?_) (fun _ => ?_)
    · refine ⟨_, rfl, _, rfl, p, c, li, iw, rfl, hli1, nli.1, nli.2, h.2, by omega, st1, fun H2 nv hv st2 d2 => ⟨by show 2 ≤ sizeLine; omega, fun t nt => ?_⟩⟩
      have d12 := (Dr.refl st1).drawn st2 d2
      obtain ⟨n, hn, hnv⟩ := each_mem heI1 hv
      exact q _ _ (.back n) ((dr1.trans d12).same (same_new nt)) ⟨t, nv, rfl, upd_same, hnv.ts ((d12.ts st1).trans (Same.ts (same_new nt)))⟩ hn
    have okB := okK.kb
    rw [List.length_map] at okB
    have pos : 0 < es.length := Nat.pos_of_ne_zero fun z => hn0 (.inl z)
    obtain ⟨al, so⟩ := able_V (fun e : Vx × Addr × V => e.1) es
    have lsrt : ((GX.sortN ktV es).map fun e => V.ref e.2.1).length = es.length := by rw [List.length_map]; exact List.length_mergeSort _
    refine ⟨_, rfl, _, rfl, D, es, rfl, .inl hK1.rd, hK1.keys, al, so, fun s0 ns0 => ?_⟩
    have sS := same_new (o := .lst ((GX.sortN ktV es).map fun e => V.ref e.2.1)) ns0
    have dS := dr1.same sS
    have nS := st1.new ns0
    refine ⟨p, c, s0, _, rfl, upd_same, nS.1, nS.2, by rw [lsrt]; exact pos, by rw [lsrt]; omega, dS.st, fun H2 fv hfv st2 d2 => ?_⟩
    obtain ⟨e, he0, rfl⟩ := List.mem_map.mp hfv
    have he : e ∈ es := List.mem_mergeSort.mp he0
    have dr2 := dS.drawn st2 d2
    have hK2 := hK.dr st dr2
    have hf2 := hK2.ky e he
    have hk : e.1 ∈ es.map (·.1) := List.mem_map.mpr ⟨e, he, rfl⟩
    clear hfv he0 sS ns0 nS lsrt al so d2
    generalize upd H1 s0 (.lst ((GX.sortN ktV es).map fun e => V.ref e.2.1)) = HS at dS
    obtain ⟨e', hfind, he', hk'⟩ := find_of hk
    obtain ⟨va, gv, lv, eva, hva, hgv, hlv⟩ := hK2.vl e' he'
    rw [hk'] at hgv hlv
    refine ⟨_, rfl, _, rfl, D, e.2.1, es, e.1, e', rfl, rfl, .inl hK2.rd, hK2.keys, dp_vx hf2, hfind, va, _, eva, SqT.of hva, rfl, gv, _, rfl, lv, _, rfl, rfl, ?_⟩
    have hgv' := hgv
    have hlv' := hlv
    obtain ⟨ga, gw, rfl, nga, hga, heg⟩ := hgv
    obtain ⟨la, lw, rfl, nla, hla, hel⟩ := hlv
    have gne := okK.ne e.1 hk
    have gsin := okK.gs e.1 hk
    have lsin := okK.ls e.1 hk
    have gb := okK.gb e.1 hk
    have lb := okK.lb e.1 hk
    have lgw := heg.length
    have llw := hel.length
    have gpos : 0 < gw.length := by
      rw [lgw]
      exact List.length_pos_iff.mpr gne
    have glast : ∀ (σ : L2.St) (H3 : Hp) (R1 : VK), σ[5]? = some (some (.ref ga)) → Dr p c H2 H3 → (∀ v x, x ∈ g e.1 → VxAt H3 v x → R1 v H3) → tOp (rIxL K) (tVar 5) (tUn (rU fun i => V.int (-i)) (tC (V.int 1))) σ H3 R1 := fun σ H3 R1 e5 d3 k => by
      have hga3 := d3.ou ga _ nga.1 nga.2 hga
      have hl : gw.length - 1 < gw.length := by omega
      obtain ⟨x, hx, hvx⟩ := each_mem (each_vx (d3.ts st2) heg) (List.getElem_mem hl)
      exact ⟨_, e5, 1, rfl, ga, gw, -1, _, rfl, rfl, SqL.of hga3, atI_end (List.getElem?_eq_getElem hl), k _ x hx hvx⟩
    have vin : ∀ {ys : List Vx} {m : Nat}, (∀ y ∈ ys, y ∈ g e.1) → ys.length ≤ m → VxIn ns ys m := fun hs hl => ⟨fun x hx => gsin x (hs x hx), hl⟩
    have vil : ∀ {ys : List Vx} {m : Nat}, (∀ y ∈ ys, y ∈ l e.1) → ys.length ≤ m → VxIn ns ys m := fun hs hl => ⟨fun x hx => lsin x (hs x hx), hl⟩
    refine ifS (p := r = 2) (Sure.eqN (j := 2) (.var rfl) .con) (fun _ => ?_) (fun _ => ?_)
    · refine ⟨_, rfl, _, rfl, p, c, rfl, st2, fun H3 pv ps d3 hp l2 l8 => ?_⟩
      refine or_some d3.st rfl rfl nga.1 nga.2 (d3.ou ga _ nga.1 nga.2 hga) (each_vx (d3.ts st2) heg) (by omega) (m := 2) rfl (by decide) (by decide) (fun H4 R1 d4 k => glast _ H4 R1 rfl (d3.trans d4) k) fun H4 xv ys d4 hx hs hl => ⟨by show 4 ≤ sizeLine; omega, fun t nt => ?_⟩
      have sN := same_new (o := .tup [.str "move", .ref e.2.1, pv, xv]) nt
      have d34 := d3.trans d4
      exact q _ _ (.move e.1 ps ys) ((dr2.trans d34).same sN) ⟨t, _, pv, xv, rfl, upd_same, hf2.ts ((d34.ts st2).trans (Same.ts sN)), hp.ts ((d4.ts d3.st).trans (Same.ts sN)), (hx.more (dr2.trans d3)).lf (Same.lf sN)⟩ ⟨hk, vin hs hl, l2, l8⟩
    refine ifS (p := r = 3) (Sure.eqN (j := 3) (.var rfl) .con) (fun _ => ?_) (fun _ => ?_)
    · refine ⟨_, rfl, ?_⟩
      refine or_some st2 rfl rfl nga.1 nga.2 hga heg (by omega) (m := 2) rfl (by decide) (by decide) (fun H4 R1 d4 k => glast _ H4 R1 rfl d4 k) fun H4 xv ys d4 hx hs hl => ⟨by show 3 ≤ sizeLine; omega, fun t nt => ?_⟩
      have sN := same_new (o := .tup [.str "drop", .ref e.2.1, xv]) nt
      exact q _ _ (.drop e.1 ys) ((dr2.trans d4).same sN) ⟨t, _, xv, rfl, upd_same, hf2.ts ((d4.ts st2).trans (Same.ts sN)), (hx.more dr2).lf (Same.lf sN)⟩ ⟨hk, vin hs hl⟩
    refine ifS (p := r < 6 ∧ 0 < lw.length) ((Sure.lt (j := 6) (.var rfl) .con).and fun _ => Sure.gt (j := 0) (Ev.len (.var rfl) hla) .con) (fun h => ?_) (fun _ => ?_)
    · refine ⟨_, rfl, ?_⟩
      refine or_some st2 rfl rfl nla.1 nla.2 hla hel (by omega) (m := 3) rfl (by decide) (by decide) (fun H4 R1 d4 k => ?_) fun H4 xv ys d4 hx hs hl => ⟨by show 3 ≤ sizeLine; omega, fun t nt => ?_⟩
      · have hla4 := d4.ou la _ nla.1 nla.2 hla
        obtain ⟨x, hx, hvx⟩ := each_mem (each_vx (d4.ts st2) hel) (List.getElem_mem h.2)
        exact Ev.ixL (i := 0) (.var rfl) .con hla4 (List.getElem?_eq_getElem h.2) _ (k _ x hx hvx)
      · have sN := same_new (o := .tup [.str "cut", .ref e.2.1, xv]) nt
        exact q _ _ (.cut e.1 ys) ((dr2.trans d4).same sN) ⟨t, _, xv, rfl, upd_same, hf2.ts ((d4.ts st2).trans (Same.ts sN)), (hx.more dr2).lf (Same.lf sN)⟩ ⟨hk, vil hs hl⟩
    refine ifS (p := r < 8 ∧ 1 < lw.length) ((Sure.lt (j := 8) (.var rfl) .con).and fun _ => Sure.gt (j := 1) (Ev.len (.var rfl) hla) .con) (fun h => ?_) (fun _ => ?_)
    · refine ⟨_, rfl, _, rfl, p, c, la, lw, rfl, hla, nla.1, nla.2, by omega, by omega, st2, fun H3 ov hov st3 d3 => ⟨_, rfl, _, rfl, _, rfl, ?_⟩⟩
      have d23 := (Dr.refl st2).drawn st3 d3
      have hel3 := each_vx (d23.ts st2) hel
      have hla3 := d23.ou la _ nla.1 nla.2 hla
      obtain ⟨one, hone, hvo⟩ := each_mem hel3 hov
      show tLc _ _ _ _ _ _ _ _
      refine lc_gen (R := VxAt) (S := fun _ => VxAt) (fun x => decide (¬ x = one)) id (.var rfl) hla3 (by omega) (fun H' s => each_vx (Same.ts s) hel3) (fun h k z => z.ts (ts_but h k)) (fun v x H' hx s hv Q' hq => ?_) (fun v x H' D' hx hf s hv hD Q' hq => ?_) fun F us H4 s4 nF eF hF => ?_
      · exact Sure.neD (p := x = one) ⟨vx_inj, fun z => by rw [z]⟩ (.var rfl) (.var rfl) (dp_vx hv) (dp_vx (hvo.ts (Same.ts s))) (solid_vx x) (solid_vx one) (by rw [vx_depth]; decide) Q' hq
      · exact ⟨_, rfl, hq v H' same_refl hv⟩
      rw [List.map_id] at hF
      have nFp := d23.st.new nF
      have nd := okK.nd e.1 hk
      have lu := hF.length
      have fpos : 0 < ((l e.1).filter fun x => decide (¬ x = one)).length := by
        have h2 : 1 < (l e.1).length := by omega
        generalize l e.1 = L at nd h2
        match L, nd, h2 with
        | a :: b :: r, nd, _ =>
          have ab : a ≠ b := fun z => by rw [z] at nd; simp at nd
          by_cases ha : a = one
          · exact List.length_pos_of_mem (List.mem_filter.mpr ⟨(by simp : b ∈ a :: b :: r), by simpa using fun z : b = one => ab (ha.trans z.symm)⟩)
          · exact List.length_pos_of_mem (List.mem_filter.mpr ⟨(by simp : a ∈ a :: b :: r), by simpa using ha⟩)
      have fle : ((l e.1).filter fun x => decide (¬ x = one)).length ≤ (l e.1).length := List.length_filter_le _ _
      refine ⟨p, c, F, us, rfl, eF, nFp.1, nFp.2, by omega, by omega, d23.st.same s4, fun H5 bv hbv st5 d5 => ⟨by show 4 ≤ sizeLine; omega, fun t nt => ?_⟩⟩
      have d25 := (d23.same s4).drawn st5 d5
      have d45 := (Dr.refl (d23.st.same s4)).drawn st5 d5
      obtain ⟨b, hb, hvb⟩ := each_mem hF hbv
      have sN := same_new (o := .tup [.str "order", .ref e.2.1, ov, bv]) nt
      exact q _ _ (.order e.1 one b) ((dr2.trans d25).same sN) ⟨t, _, ov, bv, rfl, upd_same, hf2.ts ((d25.ts st2).trans (Same.ts sN)), hvo.ts ((Same.ts s4).trans ((d45.ts (d23.st.same s4)).trans (Same.ts sN))), hvb.ts ((d45.ts (d23.st.same s4)).trans (Same.ts sN))⟩ ⟨hk, lsin one hone, lsin b (List.mem_filter.mp hb).1⟩
    show tSeq _ _ _ _ _
    refine ⟨_, rfl, p, c, 3, rfl, by decide, st2, fun H3 n _ hn st3 d3 => ⟨_, _, rfl, rfl, ?_⟩⟩
    have hn := hn (by decide)
    have dr3 := dr2.drawn st3 d3
    refine ⟨_, rfl, by omega, by omega, fun L nL => ?_⟩
    have nL0 := dr3.none nL
    have nLp := st.new nL0
    have d23 : Dr p c H2 H3 := (Dr.refl st2).drawn st3 d3
    have nL2 := d23.none nL
    refine lc_range (lo := 0) (n := ((1 : Int) + (n : Int)).toNat) (fun k H4 => Dr p c H2 H4 ∧ ∃ ts : Path, ts.length = k ∧ (∀ t ∈ ts, t ∈ tx5) ∧ H4 L = some (.lst (strV ts))) ⟨d23.same (same_new nL), [], rfl, (fun m hm => nomatch hm), upd_same⟩ ?_ ?_
    · rintro k H4 hk ⟨d4, ts, lt, ok, eL⟩
      refine ⟨rfl, _, rfl, by show 5 ≤ sizeLine; omega, fun l5 n5 => ?_⟩
      have s5 := same_new (o := .lst [.str "x", .str "y", .str "", .str "z z", .str "~"]) n5
      have n5p := d4.st.new n5
      refine ⟨p, c, l5, _, rfl, upd_same, n5p.1, n5p.2, by simp, by simp, d4.st.same s5, fun H5 tv htv st5 d5 => ?_⟩
      have d25 := (d4.same s5).drawn st5 d5
      have d45 := (Dr.refl (d4.st.same s5)).drawn st5 d5
      have eL5 := d45.ou L _ nLp.1 nLp.2 (s5 _ _ eL)
      obtain ⟨t, ht, rfl⟩ : ∃ t, t ∈ tx5 ∧ tv = V.str (Sg t) := by
        simp only [List.mem_cons, List.not_mem_nil, or_false] at htv
        rcases htv with rfl | rfl | rfl | rfl | rfl
        · exact ⟨[120], by decide, congrArg V.str (by decide +kernel)⟩
        · exact ⟨[121], by decide, congrArg V.str (by decide +kernel)⟩
        · exact ⟨[], by decide, congrArg V.str (by decide +kernel)⟩
        · exact ⟨[122, 32, 122], by decide, congrArg V.str (by decide +kernel)⟩
        · exact ⟨[126], by decide, congrArg V.str (by decide +kernel)⟩
      refine ⟨_, eL5, by rw [List.length_map]; omega, ⟨d25.st.upd nLp, fun b o n1 n2 e' => ?_⟩, ts ++ [t], by rw [List.length_append, lt]; rfl, fun s hs => ?_, ?_⟩
      · rw [upd_ne (ne_of_none e' nL2)]
        exact d25.ou b o n1 n2 e'
      · rcases List.mem_append.mp hs with h | h
        · exact ok s h
        · rw [List.mem_singleton.mp h]
          exact ht
      · rw [upd_same]
        unfold strV
        rw [List.map_append]
        rfl
    · rintro H4 ⟨d4, ts, lt, ok, eL⟩
      have dr4 := dr2.trans d4
      have hla4 := d4.ou la _ nla.1 nla.2 hla
      refine ⟨_, rfl, _, rfl, _, rfl, p, c, la, lw, l e.1, 2, rfl, by decide, d4.st, nla.1, nla.2, hla4, each_vx (d4.ts st2) hel, by omega, fun H5 xv xs d5 hx hxs hxl => ⟨_, rfl, _, rfl, p, c, la, lw, l e.1, 2, rfl, by decide, d5.st, nla.1, nla.2, d5.ou la _ nla.1 nla.2 hla4, each_vx ((d4.trans d5).ts st2) hel, by omega, fun H6 yv ys d6 hy hys hyl => ⟨_, rfl, by show 5 ≤ sizeLine; omega, fun t nt => ?_⟩⟩⟩
      have sN := same_new (o := .tup [.str "lines", .ref e.2.1, xv, yv, .ref L]) nt
      have dr5 := dr4.trans d5
      refine q _ _ (.lines e.1 xs ys ts) ((dr5.trans d6).same sN) ⟨t, _, xv, yv, .ref L, rfl, upd_same, hf2.ts ((((d4.trans d5).trans d6).ts st2).trans (Same.ts sN)), ((hx.more dr4).lf (dr_lf0 st d5.st d6)).lf (Same.lf sN), (hy.more dr5).lf (Same.lf sN), L, rfl, nL0, sN _ _ (d6.ou L _ nLp.1 nLp.2 (d5.ou L _ nLp.1 nLp.2 eL))⟩ ⟨hk, vil hxs hxl, vil hys hyl, by omega, by omega, ok⟩
end
end K20
namespace K20
open PySem PySem.Spec PyProof.Rows L2 TL TR QR
open GxR (TabB TabG Tabbed)
open PySem.W (EachIs)
open GX (dNO KeysAt)
def auths : Path := [[97, 110, 110], [98, 111], [99, 121]]
def notes : Path := [[], [110], [109, 111, 114, 101]]
def marks3 : List (List Nat) := [[], [0], [1, 4]]
/-- the names that a change tells of -/
def ChN (ids ns : List Nm) : Chg → Prop
  | .add ps => ps.length ≤ 2 ∧ ∀ l ∈ ps, l.length ≤ 8
  | .back n => n ∈ ids
  | .drop f xs => f.1 ∈ ns ∧ VxIn ns xs 2
  | .move f ps xs => f.1 ∈ ns ∧ VxIn ns xs 2 ∧ ps.length ≤ 2 ∧ ∀ l ∈ ps, l.length ≤ 8
  | .cut f xs => f.1 ∈ ns ∧ VxIn ns xs 3
  | .order f a b => f.1 ∈ ns ∧ a.1 ∈ ns ∧ b.1 ∈ ns
  | .lines f xs ys ts => f.1 ∈ ns ∧ VxIn ns xs 2 ∧ VxIn ns ys 2 ∧ 1 ≤ ts.length ∧ ts.length ≤ 3 ∧ ∀ t ∈ ts, t ∈ tx5
theorem ChIn.n {ks : List Vx} {ids ns : List Nm} (k : ∀ x ∈ ks, x.1 ∈ ns) {ch : Chg} (h : ChIn ks ids ns ch) : ChN ids ns ch := by
  cases ch with
  | add ps => exact h
  | back n => exact h
  | drop f xs => exact ⟨k f h.1, h.2⟩
  | move f ps xs => exact ⟨k f h.1, h.2⟩
  | cut f xs => exact ⟨k f h.1, h.2⟩
  | order f a b => exact ⟨k f h.1, h.2⟩
  | lines f xs ys ts => exact ⟨k f h.1, h.2⟩
/-- how many patches of an author -/
def nOf (Ps : List Pat) (a : List Nat) : Nat := (Ps.filter fun R => decide (R.nm.2.1 = a)).length
structure PsOk (l : Lab) (Ps : List Pat) : Prop where
  nm : ∀ (i : Nat) (P : Pat), Ps[i]? = some P → ∃ a ∈ auths, P.nm = (l, a, 1 + nOf (Ps.take i) a)
  lo : ∀ P ∈ Ps, 1 ≤ P.chs.length
  hi : ∀ P ∈ Ps, P.chs.length ≤ 3
  ch : ∀ (i : Nat) (P : Pat), Ps[i]? = some P → ∀ ch ∈ P.chs, ChN ((Ps.take i).map (·.nm)) ((Ps.take i).map (·.nm) ++ [P.nm]) ch
  nt : ∀ P ∈ Ps, P.note ∈ notes
theorem PsOk.nil {l : Lab} : PsOk l [] := ⟨fun _ _ h => by simp at h, (fun _ h => nomatch h), (fun _ h => nomatch h), fun _ _ h => by simp at h, (fun _ h => nomatch h)⟩
theorem get_snoc {α : Type} {xs : List α} {x y : α} {i : Nat} (h : (xs ++ [x])[i]? = some y) : (xs[i]? = some y ∧ (xs ++ [x]).take i = xs.take i) ∨ (i = xs.length ∧ y = x ∧ (xs ++ [x]).take i = xs) := by
  by_cases hi : i < xs.length
  · rw [List.getElem?_append_left hi] at h
    exact .inl ⟨h, List.take_append_of_le_length (by omega)⟩
  · have e : i = xs.length := by
      have := (List.getElem?_eq_some_iff.mp h).1
      rw [List.length_append] at this
      have : i < xs.length + 1 := this
      omega
    subst e
    rw [List.getElem?_append_right (Nat.le_refl _), Nat.sub_self] at h
    exact .inr ⟨rfl, (Option.some.inj h).symm, by rw [List.take_left]⟩
theorem PsOk.snoc {l : Lab} {Ps : List Pat} {P : Pat} {a : List Nat} (h : PsOk l Ps) (ha : a ∈ auths) (hn : P.nm = (l, a, 1 + nOf Ps a)) (l1 : 1 ≤ P.chs.length) (l3 : P.chs.length ≤ 3)
    (hc : ∀ ch ∈ P.chs, ChN (Ps.map (·.nm)) (Ps.map (·.nm) ++ [P.nm]) ch) (hnt : P.note ∈ notes) : PsOk l (Ps ++ [P]) := by
  refine ⟨fun i R e => ?_, fun R hR => ?_, fun R hR => ?_, fun i R e => ?_, fun R hR => ?_⟩
  · rcases get_snoc e with ⟨e1, e2⟩ | ⟨_, rfl, e2⟩
    · rw [e2]
      exact h.nm i R e1
    · rw [e2]
      exact ⟨a, ha, hn⟩
  · rcases List.mem_append.mp hR with z | z
    · exact h.lo R z
    · rw [List.mem_singleton.mp z]; exact l1
  · rcases List.mem_append.mp hR with z | z
    · exact h.hi R z
    · rw [List.mem_singleton.mp z]; exact l3
  · rcases get_snoc e with ⟨e1, e2⟩ | ⟨_, rfl, e2⟩
    · rw [e2]
      exact h.ch i R e1
    · rw [e2]
      exact hc
  · rcases List.mem_append.mp hR with z | z
    · exact h.nt R z
    · rw [List.mem_singleton.mp z]; exact hnt
theorem nOf_take {Ps : List Pat} {i j : Nat} {P : Pat} (h : Ps[j]? = some P) (hij : j < i) : nOf (Ps.take j) P.nm.2.1 < nOf (Ps.take i) P.nm.2.1 := by
  have e : Ps.take i = Ps.take j ++ (Ps.take i).drop j := by
    have := (List.take_append_drop j (Ps.take i)).symm
    rwa [List.take_take, Nat.min_eq_left (by omega)] at this
  unfold nOf
  rw [e, List.filter_append, List.length_append]
  have hm : P ∈ (Ps.take i).drop j := by
    refine List.mem_iff_getElem?.mpr ⟨0, ?_⟩
    rw [List.getElem?_drop, List.getElem?_take_of_lt (by omega)]
    exact h
  have := List.length_pos_of_mem ((List.mem_filter (p := fun R : Pat => decide (R.nm.2.1 = P.nm.2.1))).mpr ⟨hm, decide_eq_true rfl⟩)
  omega
/-- a new name -/
theorem PsOk.fresh {l : Lab} {Ps : List Pat} (h : PsOk l Ps) (a : List Nat) : (l, a, 1 + nOf Ps a) ∉ Ps.map (·.nm) := fun z => by
  obtain ⟨P, hP, e⟩ := List.mem_map.mp z
  obtain ⟨j, hj⟩ := List.mem_iff_getElem?.mp hP
  obtain ⟨b, _, e2⟩ := h.nm j P hj
  rw [e2] at e
  have eb : b = a := congrArg (fun n : Nm => n.2.1) e
  have en : 1 + nOf (Ps.take j) b = 1 + nOf Ps a := congrArg (fun n : Nm => n.2.2) e
  have lt := (List.getElem?_eq_some_iff.mp hj).1
  have := nOf_take hj lt
  rw [List.take_length, e2] at this
  have this : nOf (Ps.take j) b < nOf Ps b := this
  rw [eb] at this en
  omega
theorem PsOk.nd {l : Lab} : ∀ {Ps : List Pat}, PsOk l Ps → (Ps.map (·.nm)).Nodup := by
  intro Ps h
  refine List.pairwise_iff_getElem.mpr fun i j hi hj hij => ?_
  rw [List.length_map] at hi hj
  rw [List.getElem_map, List.getElem_map]
  intro e
  obtain ⟨a, _, ea⟩ := h.nm i _ (List.getElem?_eq_getElem hi)
  obtain ⟨b, _, eb⟩ := h.nm j _ (List.getElem?_eq_getElem hj)
  have := nOf_take (List.getElem?_eq_getElem hi) hij
  rw [ea, eb] at e
  rw [ea] at this
  have e1 : a = b := congrArg (fun n : Nm => n.2.1) e
  have e2 : 1 + nOf (Ps.take i) a = 1 + nOf (Ps.take j) b := congrArg (fun n : Nm => n.2.2) e
  have this : nOf (Ps.take i) a < nOf (Ps.take j) a := this
  rw [← e1] at e2
  omega
theorem KnAt.imp {P : Program} {w : World} {N N' : Addr → Prop} {H : Hp} {D : Addr} {es : List (Vx × Addr × V)} {g l : Vx → List Vx} (k : ∀ a, N a → N' a) (h : KnAt P w N H D es g l) : KnAt P w N' H D es g l :=
  ⟨h.rd, h.ky, fun e he => let ⟨a, gv, lv, e1, e2, e3, e4⟩ := h.vl e he; ⟨a, gv, lv, e1, e2, e3.imp k, e4.imp k⟩⟩
section
variable {P : Program} {w : World} {K : PySem.W.Frag} {mg : Str → Option Value} {base : Heap} {H : Hp} {v : V} {Q : VK} {E : XK} {Ts : List Addr}
theorem VsAt.new {N : Addr → Prop} {D : Addr} {xs : List Vx} (n : H D = none) (h : VsAt N H v xs) : VsAt (fun a => N a ∧ a ≠ D) H v xs := by
  obtain ⟨a, ws, e, na, ha, q⟩ := h
  exact ⟨a, ws, e, ⟨na, ne_of_none ha n⟩, ha, q⟩
theorem TsAt.new {N : Addr → Prop} {D : Addr} {xs : Path} (n : H D = none) (h : TsAt N H v xs) : TsAt (fun a => N a ∧ a ≠ D) H v xs := by
  obtain ⟨a, e, na, ha⟩ := h
  exact ⟨a, e, ⟨na, ne_of_none ha n⟩, ha⟩
theorem ChgAt.new {N : Addr → Prop} {D : Addr} {c : Chg} (n : H D = none) (h : ChgAt N H v c) : ChgAt (fun a => N a ∧ a ≠ D) H v c := by
  cases c with
  | add p => exact h
  | back p => exact h
  | drop f xs => exact let ⟨a, fv, xv, e, h1, h2, h3⟩ := h; ⟨a, fv, xv, e, h1, h2, h3.new n⟩
  | move f p xs => exact let ⟨a, fv, pv, xv, e, h1, h2, h3, h4⟩ := h; ⟨a, fv, pv, xv, e, h1, h2, h3, h4.new n⟩
  | cut f xs => exact let ⟨a, fv, xv, e, h1, h2, h3⟩ := h; ⟨a, fv, xv, e, h1, h2, h3.new n⟩
  | order f x y => exact h
  | lines f xs ys ts => exact let ⟨a, fv, xv, yv, tv, e, h1, h2, h3, h4, h5⟩ := h; ⟨a, fv, xv, yv, tv, e, h1, h2, h3.new n, h4.new n, h5.new n⟩
theorem PatAt.new {N : Addr → Prop} {D : Addr} {R : Pat} (n : H D = none) : PatAt N H v R → PatAt (fun a => N a ∧ a ≠ D) H v R := fun ⟨a, nv, ca, cs, e, h1, h2, na, h3, h4⟩ => ⟨a, nv, ca, cs, e, h1, h2, ⟨na, ne_of_none h3 n⟩, h3, h4.mono fun _ _ h => h.new n⟩
theorem KnAt.new {N : Addr → Prop} {D D' : Addr} {es : List (Vx × Addr × V)} {g l : Vx → List Vx} (n : H D' = none) (h : KnAt P w N H D es g l) : KnAt P w (fun a => N a ∧ a ≠ D') H D es g l :=
  ⟨h.rd, h.ky, fun e he => let ⟨a, gv, lv, e1, e2, e3, e4⟩ := h.vl e he; ⟨a, gv, lv, e1, e2, e3.new n, e4.new n⟩⟩
def kwOf : Chg → Str
  | .add _ => "add"
  | .back _ => "back"
  | .drop _ _ => "drop"
  | .move _ _ _ => "move"
  | .cut _ _ => "cut"
  | .order _ _ _ => "order"
  | .lines _ _ _ _ => "lines"
theorem ChgAt.kw {N : Addr → Prop} {ch : Chg} (h : ChgAt N H v ch) : ∃ a r, v = .ref a ∧ H a = some (.tup (.str (kwOf ch) :: r)) := by
  cases ch with
  | add p => exact let ⟨a, pv, e, h1, _⟩ := h; ⟨a, _, e, h1⟩
  | back p => exact let ⟨a, pv, e, h1, _⟩ := h; ⟨a, _, e, h1⟩
  | drop f xs => exact let ⟨a, fv, xv, e, h1, _⟩ := h; ⟨a, _, e, h1⟩
  | move f p xs => exact let ⟨a, fv, pv, xv, e, h1, _⟩ := h; ⟨a, _, e, h1⟩
  | cut f xs => exact let ⟨a, fv, xv, e, h1, _⟩ := h; ⟨a, _, e, h1⟩
  | order f x y => exact let ⟨a, fv, pv, xv, e, h1, _⟩ := h; ⟨a, _, e, h1⟩
  | lines f xs ys ts => exact let ⟨a, fv, xv, yv, tv, e, h1, _⟩ := h; ⟨a, _, e, h1⟩
theorem kw_move {ch : Chg} (h : kwOf ch = "move") : ∃ f ps xs, ch = .move f ps xs := by
  cases ch with
  | move f ps xs => exact ⟨f, ps, xs, rfl⟩
  | add => exact absurd (show Str.ofString "add" = Str.ofString "move" from h) (by decide +kernel)
  | back => exact absurd (show Str.ofString "back" = Str.ofString "move" from h) (by decide +kernel)
  | drop => exact absurd (show Str.ofString "drop" = Str.ofString "move" from h) (by decide +kernel)
  | cut => exact absurd (show Str.ofString "cut" = Str.ofString "move" from h) (by decide +kernel)
  | order => exact absurd (show Str.ofString "order" = Str.ofString "move" from h) (by decide +kernel)
  | lines => exact absurd (show Str.ofString "lines" = Str.ofString "move" from h) (by decide +kernel)
theorem kw_lines {ch : Chg} (h : kwOf ch = "lines") : ∃ f xs ys ts, ch = .lines f xs ys ts := by
  cases ch with
  | lines f xs ys ts => exact ⟨f, xs, ys, ts, rfl⟩
  | add => exact absurd (show Str.ofString "add" = Str.ofString "lines" from h) (by decide +kernel)
  | back => exact absurd (show Str.ofString "back" = Str.ofString "lines" from h) (by decide +kernel)
  | drop => exact absurd (show Str.ofString "drop" = Str.ofString "lines" from h) (by decide +kernel)
  | move => exact absurd (show Str.ofString "move" = Str.ofString "lines" from h) (by decide +kernel)
  | cut => exact absurd (show Str.ofString "cut" = Str.ofString "lines" from h) (by decide +kernel)
  | order => exact absurd (show Str.ofString "order" = Str.ofString "lines" from h) (by decide +kernel)
theorem asg_seq {te : TE} {j : Nat} {u : L2.TS} {D : Ends} {σ : L2.St} {H : Hp} (h : te σ H fun v H' => u D (σ.set j (some v)) H') : tSeq (tAsg te (gName j)) u D σ H := h
theorem tup3_op {ta tb tl : TE} {r1 : R2} {c : V} {rel : List V → Hp → VK → Prop} {σ : L2.St} {H : Hp} {R : VK}
    (h : ta σ H fun va H1 => tb σ H1 fun vb H2 => tl σ H2 fun vl H3 => rel [vl] H3 fun v H4 => r1 c v H4 fun z H5 => [va, vb, z].length ≤ sizeLine ∧ ∀ p, H5 p = none → R (.ref p) (upd H5 p (.tup [va, vb, z]))) :
    tTup (tCons ta (tCons tb (tCons (tOp r1 (tC c) (tCB rel (tCons tl tNil))) tNil))) σ H R := h
theorem name_to {j : Nat} {v : V} {σ : L2.St} {H : Hp} {Q : L2.St → Hp → Prop} (h : Q (σ.set j (some v)) H) : gName j v σ H Q := h
theorem Dr.updF {p c C : Addr} {H0 H1 : Hp} {o : HO} (st : StateAt H0 p c) (d : Dr p c H0 H1) (n : H0 C = Option.none) : Dr p c H0 (upd H1 C o) :=
  ⟨d.st.upd (st.new n), fun b o' n1 n2 e => by
    rw [upd_ne (ne_of_none e n)]
    exact d.ou b o' n1 n2 e⟩
theorem lf_updD {N : Addr → Prop} {H : Hp} {D : Addr} {o o' : HO} (e : H D = some o) (h1 : ∀ xs, o ≠ .lst xs) (h2 : ∀ xs, o ≠ .tup xs) : LF N H (upd H D o') := by
  refine ⟨fun b ys q => ?_, fun a ys n q => ?_⟩
  · rw [upd_ne fun z => by rw [z, e] at q; exact h2 _ (Option.some.inj q)]
    exact q
  · rw [upd_ne fun z => by rw [z, e] at q; exact h1 _ (Option.some.inj q)]
    exact q
/-- a file is told anew -/
theorem KnAt.set {N : Addr → Prop} {D b T : Addr} {es : List (Vx × Addr × V)} {g l : Vx → List Vx} {k : Vx} {gv lv : V} {G L : List Vx} (h : KnAt P w N H D es g l) (hb : VxAt H (.ref b) k) (hT : H T = some (.tup [gv, lv])) (hG : VsAt N H gv G) (hL : VsAt N H lv L) :
    KnAt P w N (upd H D (dNO ktV P w D (GX.dSt es k b (.ref T)))) D (GX.dSt es k b (.ref T)) (fun x => if x = k then G else g x) (fun x => if x = k then L else l x) := by
  have lf : LF N H (upd H D (dNO ktV P w D (GX.dSt es k b (.ref T)))) := lf_updD h.rd (fun _ z => by cases z) (fun _ z => by cases z)
  refine ⟨upd_same, fun e he => ?_, fun e he => ?_⟩
  · rcases dst_mem he with ⟨e1, _, e3 | ⟨x, hx, e4, e5⟩⟩ | ⟨hx, _⟩
    · rw [e1, e3]
      exact hb.ts lf.ts
    · rw [e1, ← e5]
      have := h.ky x hx
      rw [e4] at this
      exact this.ts lf.ts
    · exact (h.ky e hx).ts lf.ts
  · rcases dst_mem he with ⟨e1, e2, _⟩ | ⟨hx, hne⟩
    · rw [if_pos e1, if_pos e1]
      exact ⟨T, gv, lv, e2, lf.ts _ _ hT, hG.lf lf, hL.lf lf⟩
    · rw [if_neg hne, if_neg hne]
      obtain ⟨a, gv', lv', e1, e2, e3, e4⟩ := h.vl e hx
      exact ⟨a, gv', lv', e1, lf.ts _ _ e2, e3.lf lf, e4.lf lf⟩
theorem KnOk.set {ks : List Vx} {g l : Vx → List Vx} {ns : List Nm} {B B' : Nat} {k : Vx} {G L : List Vx} (h : KnOk ks g l ns B) (hB : B + 1 ≤ B') (hk : k.1 ∈ ns) (hG : G ≠ []) (gi : ∀ x ∈ G, x.1 ∈ ns) (li : ∀ x ∈ L, x.1 ∈ ns) (gl : G.length ≤ B') (ll : L.length ≤ B') (nd : L.Nodup) :
    KnOk (addK ks k) (fun x => if x = k then G else g x) (fun x => if x = k then L else l x) ns B' := by
  have old : ∀ x ∈ addK ks k, x ≠ k → x ∈ ks := fun x hx n => (mem_addK.mp hx).resolve_right n
  refine ⟨fun x hx => ?_, fun x hx => ?_, fun x hx => ?_, fun x hx => ?_, fun x hx => ?_, fun x hx => ?_, ?_, fun x hx => ?_⟩
  · rcases mem_addK.mp hx with z | z
    · exact h.ky x z
    · rw [z]; exact hk
  all_goals first
    | (by_cases e : x = k
       · simp only [if_pos e]; assumption
       · simp only [if_neg e]; first | exact h.ne x (old x hx e) | exact h.gs x (old x hx e) | exact h.ls x (old x hx e) | exact Nat.le_trans (h.gb x (old x hx e)) (by omega) | exact Nat.le_trans (h.lb x (old x hx e)) (by omega) | exact h.nd x (old x hx e))
    | skip
  unfold addK
  split
  · exact Nat.le_trans h.kb (by omega)
  · rw [List.length_append]
    have := h.kb
    show _ + 1 ≤ _
    omega
theorem KnOk.mono {ks : List Vx} {g l : Vx → List Vx} {ns ns' : List Nm} {B B' : Nat} (h : KnOk ks g l ns B) (hn : ∀ n ∈ ns, n ∈ ns') (hB : B ≤ B') : KnOk ks g l ns' B' :=
  ⟨fun k hk => hn _ (h.ky k hk), h.ne, fun k hk x hx => hn _ (h.gs k hk x hx), fun k hk x hx => hn _ (h.ls k hk x hx), fun k hk => Nat.le_trans (h.gb k hk) hB, fun k hk => Nat.le_trans (h.lb k hk) hB, Nat.le_trans h.kb hB, h.nd⟩
/-- what the patchwork's heap holds -/
structure PWI (P : Program) (w : World) (p c R D lt : Addr) (lb : Lab) (N : Addr → Prop) (H0 H : Hp) (rw : List V) (Ps : List Pat) (es : List (Vx × Addr × V)) (g l : Vx → List Vx) : Prop where
  dr : Dr p c H0 H
  lab : LabAt H (.ref lt) lb
  eR : H R = some (.lst rw)
  rows : EachIs (PatAt N H) rw Ps
  kn : KnAt P w N H D es g l
section
variable {p c R D lt : Addr} {lb : Lab} {N : Addr → Prop} {H0 H' : Hp} {rw : List V} {Ps : List Pat} {es : List (Vx × Addr × V)} {g l : Vx → List Vx}
theorem PWI.lf (h : PWI P w p c R D lt lb N H0 H rw Ps es g l) (s : LF N H H') (d : Dr p c H0 H') (eR : H' R = H R) (eD : H' D = H D) : PWI P w p c R D lt lb N H0 H' rw Ps es g l :=
  ⟨d, h.lab.ts s.ts, eR.trans h.eR, h.rows.mono fun _ _ z => z.lf s, h.kn.lf s eD⟩
theorem PWI.same (h : PWI P w p c R D lt lb N H0 H rw Ps es g l) (s : Same H H') : PWI P w p c R D lt lb N H0 H' rw Ps es g l :=
  h.lf (Same.lf s) (h.dr.same s) (by rw [h.eR]; exact s _ _ h.eR) (by rw [h.kn.rd]; exact s _ _ h.kn.rd)
theorem PWI.draw (st : StateAt H0 p c) (h : PWI P w p c R D lt lb N H0 H rw Ps es g l) (hN : ∀ a, N a → a ≠ p ∧ a ≠ c) (hR : R ≠ p ∧ R ≠ c) (d : Dr p c H H') : PWI P w p c R D lt lb N H0 H' rw Ps es g l :=
  h.lf (Dr.lf h.dr.st d hN) (h.dr.trans d) (by rw [h.eR]; exact d.ou _ _ hR.1 hR.2 h.eR) (by rw [h.kn.rd]; exact d.ou _ _ (h.kn.pc h.dr.st).1 (h.kn.pc h.dr.st).2 h.kn.rd)
theorem PWI.new {C : Addr} (h : PWI P w p c R D lt lb N H0 H rw Ps es g l) (n : H C = none) : PWI P w p c R D lt lb (fun a => N a ∧ a ≠ C) H0 H rw Ps es g l :=
  ⟨h.dr, h.lab, h.eR, h.rows.mono fun _ _ z => z.new n, h.kn.new n⟩
theorem PWI.imp {N' : Addr → Prop} (h : PWI P w p c R D lt lb N H0 H rw Ps es g l) (k : ∀ a, N a → N' a) : PWI P w p c R D lt lb N' H0 H rw Ps es g l :=
  ⟨h.dr, h.lab, h.eR, h.rows.mono fun _ _ z => z.imp k, h.kn.imp k⟩
theorem PWI.nRD (h : PWI P w p c R D lt lb N H0 H rw Ps es g l) : R ≠ D := fun z => by
  have a := h.eR
  rw [z, h.kn.rd] at a
  cases a
end
end
end K20
namespace K20
open PySem PySem.Spec PyProof.Rows L2 TL TR QR
open GxR (TabB TabG Tabbed)
open PySem.W (EachIs)
open GX (dNO KeysAt)
abbrev sPW : Stmt := topS 14
abbrev nPW : List Str := ["state", "most", "label", "row", "known", "turn", "author", "name", "changes", "ids", "place", "change", "lines", "patch", "k"]
theorem scPW : FnScope nPW ["state", "most"] (defScope sPW) := ⟨rfl, rfl, rfl, by decide +kernel, rfl, by decide +kernel, by decide +kernel⟩
section
variable {P : Program} {w : World} {K : PySem.W.Frag} {mg : Str → Option Value} {base : Heap} {H : Hp} {v : V} {Q : VK} {E : XK} {Ts : List Addr}
def spPW : Sp := fun vs H Q _ => ∃ (p c : Addr) (m : Nat), vs = [.ref p, .int (m : Int)] ∧ m ≤ 20 ∧ StateAt H p c ∧
  ∀ H' t lv rv fv l Ps, Dr p c H H' → H' t = some (.tup [lv, .ref rv, fv]) → LabAt H' lv l → l.1 < 8 → l.2 ∈ marks3 → (∃ rw, H rv = none ∧ H' rv = some (.lst rw) ∧ EachIs (PatAt (fun a => H a = none) H') rw Ps) → PsOk l Ps → Ps.length ≤ m → Q (.ref t) H'
theorem ok_PW {f fD fP fCH : Addr} {fd fdD fdP fdCH : FuncData} (F : Fun K "_law_patchwork" "_law_patchwork" sPW f fd)
    (GD : FnOk P w K mg base CX0 1 fD fdD ["state", "many"] spDraw) (bD : Binds K fdD ["state", "many"] []) (gD : mg "_law_draw" = some (.ref fD)) (kD : PySem.W.keepIn K (.ref fD) = true)
    (GP : FnOk P w K mg base CX0 2 fP fdP ["state", "row"] spPick) (bP : Binds K fdP ["state", "row"] []) (gP : mg "_law_pick" = some (.ref fP)) (kP : PySem.W.keepIn K (.ref fP) = true)
    (GCH : FnOk P w K mg base CX0 4 fCH fdCH ["state", "known", "ids"] (spCH P w)) (bCH : Binds K fdCH ["state", "known", "ids"] []) (gCH : mg "_law_change" = some (.ref fCH)) (kCH : PySem.W.keepIn K (.ref fCH) = true)
    (m_len : mg "len" = none) (m_range : mg "range" = none) (m_sorted : mg "sorted" = none) : FnOk P w K mg base CX0 5 f fd ["state", "most"] spPW := by
  refine F.ok scPW (fun vs H Q E h => ?_) (fun cdv A outer s H vs Q E hr h => ?_)
  · obtain ⟨p, c, m, rfl, _⟩ := h
    rfl
  · obtain ⟨p, c, m, rfl, hm, st, q⟩ := h
    have hu := hr.units
    have hu1 := hu_of hr
    have hr1 : Room 1 _ := hr.mono (by decide)
    have hr2 : Room 2 _ := hr.mono (by decide)
    have hr3 : Room 3 _ := hr.mono (by decide)
    have hr4 : Room 4 _ := hr.mono (by decide)
    have zl := zl
    refine ⟨_, (pss_cons (ps_set (i := 2) scPW.nd rfl (.inl rfl) (pe_tup (pa_cons (pe_str) (pa_cons (pe_call GD hr1 (by rfl) gD kD bD .nil pass0 (pa_cons (pv 0) (pa_cons (pe_int) pa_nil))) (pa_cons (pe_call GP hr2 (by rfl) gP kP bP .nil pass0 (pa_cons (pv 0) (pa_cons (pe_lst (pa_cons (pe_tup (pa_nil)) (pa_cons (pe_tup (pa_cons (pe_int) pa_nil)) (pa_cons (pe_tup (pa_cons (pe_int) (pa_cons (pe_int) pa_nil))) pa_nil)))) pa_nil))) pa_nil)))))
      (pss_cons (ps_set (i := 3) scPW.nd rfl (.inl rfl) (pe_lst (pa_nil)))
      (pss_cons (ps_set (i := 4) scPW.nd rfl (.inl rfl) ((GX.pe_dnewN (T := ktV))))
      (pss_cons (ps_for PassesOwn.never rfl (pi_range1 (by rfl) m_range (pa_cons (pe_call GD hr1 (by rfl) gD kD bD .nil pass0 (pa_cons (pv 0) (pa_cons (pe_op op_add (pv 1) (pe_int)) pa_nil))) pa_nil)) (pg_name (i := 5) scPW.nd rfl (.inl rfl))
      (pss_cons (ps_set (i := 6) scPW.nd rfl (.inr rfl) (pe_call GP hr2 (by rfl) gP kP bP .nil pass0 (pa_cons (pv 0) (pa_cons (pe_lst (pa_cons (pe_str) (pa_cons (pe_str) (pa_cons (pe_str) pa_nil)))) pa_nil))))
      (pss_cons (ps_set (i := 7) scPW.nd rfl (.inr rfl) (pe_tup (pa_cons (pv 2) (pa_cons (pv 6) (pa_cons (pe_op op_add (pe_int) (pe_callB call_len_seq (by rfl) m_len PySem.boot_len (pa_cons (pe_lc (own := [("patch", 13)]) (g := gName 13) (tt := tTest (tOp rEq (tOp (rIxT K) (tOp (rIxT K) (tVar 13) (tC (.int 1))) (tC (.int 1))) (tVar 6))) (te := tVar 13) rfl scPW.nd (pi_list (pv 3)) (blkOk_by (N := nPW) (sc := defScope sPW) (by decide +kernel)) (fun _ _ _ _ _ => by exact pg_name (i := 13) scPW.nd rfl (.inl rfl)) (fun _ _ _ _ _ => by exact pts_one (pt_cmpR op_eq (pe_ix ix_tup (pe_ix ix_tup (pv 13) (pe_int) (fun _ _ => rfl)) (pe_int) (fun _ _ => rfl)) (pv 6) (nomark _))) (fun _ _ _ _ _ => by exact pv 13)) pa_nil))) pa_nil)))))
      (pss_cons (ps_set (i := 8) scPW.nd rfl (.inl rfl) (pe_lst (pa_nil)))
      (pss_cons (ps_setLc (i := 9) (own := [("patch", 13)]) (g := gName 13) (tt := tYes) (te := tOp (rIxT K) (tVar 13) (tC (.int 1))) rfl scPW.nd rfl rfl (sw_true rfl rfl rfl (by decide +kernel)) (pi_list (pv 3)) (blkOk_by (N := nPW) (sc := defScope sPW) (by decide +kernel)) (fun _ _ _ _ _ => by exact pg_name (i := 13) scPW.nd rfl (.inl rfl)) (fun _ _ _ _ _ => pts_nil) (fun _ _ _ _ _ => by exact pe_ix ix_tup (pv 13) (pe_int) (fun _ _ => rfl)))
      (pss_cons (ps_for PassesOwn.never rfl (pi_range1 (by rfl) m_range (pa_cons (pe_op op_add (pe_int) (pe_call GD hr1 (by rfl) gD kD bD .nil pass0 (pa_cons (pv 0) (pa_cons (pe_int) pa_nil)))) pa_nil)) (pg_name (i := 10) scPW.nd rfl (.inr rfl))
      (pss_cons (ps_set (i := 11) scPW.nd rfl (.inl rfl) (pe_call GCH hr4 (by rfl) gCH kCH bCH .nil pass0 (pa_cons (pv 0) (pa_cons (pv 4) (pa_cons (pv 9) pa_nil)))))
      (pss_cons (ps_expr (pe_bm PySem.F.plainAttrs_list PySem.F.slot_list_append PySem.F.type_list_append mt_append (pv 8) (pa_cons (pv 11) pa_nil)))
      (pss_one (ps_if (pt_cmpR op_eq (pe_ix ix_tup (pv 11) (pe_int) (fun _ _ => rfl)) (pe_str) (nomark _))
      (pss_one (ps_asg (pe_tup (pa_cons (pe_lst (pa_cons (pe_tup (pa_cons (pv 7) (pa_cons (pv 10) (pa_cons (pe_int) pa_nil)))) pa_nil)) (pa_cons (pe_lst (pa_nil)) pa_nil))) (pg_sub (pv 4) (pe_tup (pa_cons (pv 7) (pa_cons (pv 10) (pa_cons (pe_int) pa_nil)))) (GX.set_N (T := ktV) hu)))) (pss_one (ps_if (pt_cmpR op_eq (pe_ix ix_tup (pv 11) (pe_int) (fun _ _ => rfl)) (pe_str) (nomark _))
      (pss_one (ps_asg (pe_tup (pa_cons (pe_op op_cat (pe_ix ix_tup (pe_ix (GX.ix_N (T := ktV) hu) (pv 4) (pe_ix ix_tup (pv 11) (pe_int) (fun _ _ => rfl)) (fun _ _ => rfl)) (pe_int) (fun _ _ => rfl)) (pe_lst (pa_cons (pe_tup (pa_cons (pv 7) (pa_cons (pv 10) (pa_cons (pe_int) pa_nil)))) pa_nil))) (pa_cons (pe_ix ix_tup (pe_ix (GX.ix_N (T := ktV) hu) (pv 4) (pe_ix ix_tup (pv 11) (pe_int) (fun _ _ => rfl)) (fun _ _ => rfl)) (pe_int) (fun _ _ => rfl)) pa_nil))) (pg_sub (pv 4) (pe_ix ix_tup (pv 11) (pe_int) (fun _ _ => rfl)) (GX.set_N (T := ktV) hu)))) (pss_one (ps_if (pt_cmpR op_eq (pe_ix ix_tup (pv 11) (pe_int) (fun _ _ => rfl)) (pe_str) (nomark _))
      (pss_cons (ps_set (i := 12) scPW.nd rfl (.inl rfl) (pe_op op_cat (pe_ix ix_tup (pe_ix (GX.ix_N (T := ktV) hu) (pv 4) (pe_ix ix_tup (pv 11) (pe_int) (fun _ _ => rfl)) (fun _ _ => rfl)) (pe_int) (fun _ _ => rfl)) (pe_lc (own := [("k", 14)]) (g := gName 14) (tt := tYes) (te := tTup (tCons (tVar 7) (tCons (tVar 10) (tCons (tVar 14) tNil)))) rfl scPW.nd (pi_range1 (by rfl) m_range (pa_cons (pe_callB call_len_seq (by rfl) m_len PySem.boot_len (pa_cons (pe_ix ix_tup (pv 11) (pe_int) (fun _ _ => rfl)) pa_nil)) pa_nil)) (blkOk_by (N := nPW) (sc := defScope sPW) (by decide +kernel)) (fun _ _ _ _ _ => by exact pg_name (i := 14) scPW.nd rfl (.inl rfl)) (fun _ _ _ _ _ => pts_nil) (fun _ _ _ _ _ => by exact pe_tup (pa_cons (pv 7) (pa_cons (pv 10) (pa_cons (pv 14) pa_nil)))))))
      (pss_one (ps_asg (pe_tup (pa_cons (pe_ix ix_tup (pe_ix (GX.ix_N (T := ktV) hu) (pv 4) (pe_ix ix_tup (pv 11) (pe_int) (fun _ _ => rfl)) (fun _ _ => rfl)) (pe_int) (fun _ _ => rfl)) (pa_cons (pv 12) pa_nil))) (pg_sub (pv 4) (pe_ix ix_tup (pv 11) (pe_int) (fun _ _ => rfl)) (GX.set_N (T := ktV) hu))))) pss_nil)))))))))
      (pss_one (ps_expr (pe_bm PySem.F.plainAttrs_list PySem.F.slot_list_append PySem.F.type_list_append mt_append (pv 3) (pa_cons (pe_tup (pa_cons (pe_str) (pa_cons (pv 7) (pa_cons (pv 8) (pa_cons (pe_call GP hr2 (by rfl) gP kP bP .nil pass0 (pa_cons (pv 0) (pa_cons (pe_lst (pa_cons (pe_str) (pa_cons (pe_str) (pa_cons (pe_str) pa_nil)))) pa_nil))) pa_nil))))) pa_nil))))))))))
      (pss_one (ps_ret (pe_tup (pa_cons (pv 2) (pa_cons (pv 3) (pa_cons (pe_callB (GX.cr_sortedN (T := ktV) rfl hu) (by rfl) m_sorted (by decide +kernel) (pa_cons (pv 4) pa_nil)) pa_nil)))))))))), ?_⟩
    refine ⟨_, rfl, p, c, 8, rfl, by decide, st, fun H1 d _ hd st1 d1 => ⟨_, rfl, by show 0 ≤ sizeLine; omega, fun t1 n1 => ⟨by show 1 ≤ sizeLine; omega, fun t2 n2 => ⟨by show 2 ≤ sizeLine; omega, fun t3 n3 => ⟨by show 3 ≤ sizeLine; omega, fun a na => ?_⟩⟩⟩⟩⟩
    have hd := hd (by decide)
    have dr1 := (Dr.refl st).drawn st1 d1
    have s1 := same_new (o := .tup []) n1
    have s2 := same_new (o := .tup [.int 0]) n2
    have s3 := same_new (o := .tup [.int 1, .int 4]) n3
    have s4 := same_new (o := .lst [.ref t1, .ref t2, .ref t3]) na
    have k1 := s4 _ _ (s3 _ _ (s2 _ _ (upd_same (H := H1) (a := t1) (o := .tup []))))
    have k2 := s4 _ _ (s3 _ _ (upd_same (H := upd H1 t1 (.tup [])) (a := t2) (o := .tup [.int 0])))
    have k3 := s4 _ _ (upd_same (H := upd (upd H1 t1 (.tup [])) t2 (.tup [.int 0])) (a := t3) (o := .tup [.int 1, .int 4]))
    have k4 : upd (upd (upd (upd H1 t1 (.tup [])) t2 (.tup [.int 0])) t3 (.tup [.int 1, .int 4])) a (.lst [.ref t1, .ref t2, .ref t3]) a = some (.lst [.ref t1, .ref t2, .ref t3]) := upd_same
    have sA := same_trans (same_trans (same_trans s1 s2) s3) s4
    have nA := st1.new (same_none (same_trans (same_trans s1 s2) s3) na)
    generalize upd (upd (upd (upd H1 t1 (.tup [])) t2 (.tup [.int 0])) t3 (.tup [.int 1, .int 4])) a (.lst [.ref t1, .ref t2, .ref t3]) = H2 at k1 k2 k3 k4 sA
    have dr2 := dr1.same sA
    refine ⟨p, c, a, _, rfl, k4, nA.1, nA.2, by simp, by simp, dr2.st, fun H3 mv hmv st3 d3 => ⟨by show 3 ≤ sizeLine; omega, fun lt nlt => ?_⟩⟩
    have d23 := (Dr.refl dr2.st).drawn st3 d3
    have ts := d23.ts dr2.st
    obtain ⟨ms, ma, hms, rfl, hma⟩ : ∃ (ms : List Nat) (ma : Addr), ms ∈ marks3 ∧ mv = .ref ma ∧ H3 ma = some (.tup (ms.map fun m : Nat => V.int (m : Int))) := by
      simp only [List.mem_cons, List.not_mem_nil, or_false] at hmv
      rcases hmv with rfl | rfl | rfl
      · exact ⟨[], t1, by decide, rfl, ts _ _ k1⟩
      · exact ⟨[0], t2, by decide, rfl, ts _ _ k2⟩
      · exact ⟨[1, 4], t3, by decide, rfl, ts _ _ k3⟩
    clear hmv k1 k2 k3 k4
    have dr3 := dr2.trans d23
    have sL := same_new (o := .tup [.str "label", .int (d : Int), .ref ma]) nlt
    have hL : LabAt (upd H3 lt (.tup [.str "label", .int (d : Int), .ref ma])) (.ref lt) (d, ms) := ⟨lt, ma, rfl, upd_same, sL _ _ hma⟩
    have dr4 := dr3.same sL
    generalize upd H3 lt (.tup [.str "label", .int (d : Int), .ref ma]) = H4 at hL dr4
    refine ⟨by show 0 ≤ sizeLine; omega, fun R nR => fun D nD => ?_⟩
    have nRD : R ≠ D := fun z => by rw [← z, upd_same] at nD; cases nD
    have sR := same_new (o := .lst ([] : List V)) nR
    have sD := same_new (o := dNO ktV P w D []) nD
    have nR0 := dr4.none nR
    have nD0 := (dr4.same sR).none nD
    have nRp := st.new nR0
    have nDp := st.new nD0
    have dr5 := (dr4.same sR).same sD
    have eR : upd (upd H4 R (.lst [])) D (dNO ktV P w D []) R = some (.lst []) := sD _ _ upd_same
    have eD : upd (upd H4 R (.lst [])) D (dNO ktV P w D []) D = some (dNO ktV P w D []) := upd_same
    have hL5 := hL.ts (Same.ts (same_trans sR sD))
    have b0 : PWI P w p c R D lt (d, ms) (fun a => H a = none ∧ a ≠ R) H (upd (upd H4 R (.lst [])) D (dNO ktV P w D [])) [] [] [] (fun _ => []) (fun _ => []) :=
      ⟨dr5, hL5, eR, .nil, ⟨eD, (fun _ h => nomatch h), (fun _ h => nomatch h)⟩⟩
    have hN : ∀ a, (H a = none ∧ a ≠ R) → a ≠ p ∧ a ≠ c := fun a h => st.new h.1
    dsimp only [cxOf, Cx.nox]
    generalize upd (upd H4 R (.lst [])) D (dNO ktV P w D []) = H5 at b0
    clear eR eD hL5 dr5 sR sD hL
    refine ⟨_, rfl, _, rfl, _, _, rfl, rfl, p, c, m + 1, rfl, by omega, b0.dr.st, fun H6 many _ hmany st6 d6 => ⟨_, rfl, ?_⟩⟩
    have hmany := hmany (by omega)
    have b6 := b0.draw st hN nRp ((Dr.refl b0.dr.st).drawn st6 d6)
    refine ⟨by omega, by omega, ?_⟩
    refine for_it (walk_range (lo := 0) (n := ((many : Int)).toNat)) (fun i σ H' => ∃ (y5 y6 y7 y8 y9 y10 y11 y12 y13 y14 : Option V) (rw : List V) (Ps : List Pat) (es : List (Vx × Addr × V)) (g l : Vx → List Vx), σ = [some (.ref p), some (.int (m : Int)), some (.ref lt), some (.ref R), some (.ref D), y5, y6, y7, y8, y9, y10, y11, y12, y13, y14] ∧
        PWI P w p c R D lt (d, ms) (fun a => H a = none ∧ a ≠ R) H H' rw Ps es g l ∧ PsOk (d, ms) Ps ∧ Ps.length = i ∧ KnOk (es.map (·.1)) g l (Ps.map (·.nm)) (1 + 9 * i))
      ⟨none, none, none, none, none, none, none, none, none, none, [], [], [], _, _, rfl, b6, .nil, rfl, ⟨(fun _ h => nomatch h), (fun _ h => nomatch h), (fun _ h => nomatch h), (fun _ h => nomatch h), (fun _ h => nomatch h), (fun _ h => nomatch h), Nat.zero_le _, (fun _ h => nomatch h)⟩⟩ ?_ ?_ ?_
    · exact fun _ _ _ _ _ => trivial
    · rintro i x σ H7 H7' hi ⟨y5, y6, y7, y8, y9, y10, y11, y12, y13, y14, rw, Ps, es, g, l, rfl, b7, okP, lP, okK⟩ ⟨rfl, rfl⟩
      have hi : i < 21 := by omega
      refine ⟨_, rfl, by show 3 ≤ sizeLine; omega, fun a8 na8 => ?_⟩
      have s8 := same_new (o := .lst [.str "ann", .str "bo", .str "cy"]) na8
      have n8p := b7.dr.st.new na8
      have b8 := b7.same s8
      refine ⟨p, c, a8, _, rfl, upd_same, n8p.1, n8p.2, by simp, by simp, b8.dr.st, fun H9 av hav st9 d9 => name_to ?_⟩
      have b9 := b8.draw st hN nRp ((Dr.refl b8.dr.st).drawn st9 d9)
      clear d9 s8 b8 n8p na8
      obtain ⟨au, hau, rfl⟩ : ∃ au, au ∈ auths ∧ av = V.str (Sg au) := by
        simp only [List.mem_cons, List.not_mem_nil, or_false] at hav
        rcases hav with rfl | rfl | rfl
        · exact ⟨[97, 110, 110], by decide, congrArg V.str (by decide +kernel)⟩
        · exact ⟨[98, 111], by decide, congrArg V.str (by decide +kernel)⟩
        · exact ⟨[99, 121], by decide, congrArg V.str (by decide +kernel)⟩
      clear hav
      have lrw := b9.rows.length
      dsimp only
      refine asg_seq (tup3_op ?_)
      refine ⟨_, rfl, _, rfl, ?_⟩
      refine lc_gen (R := fun H' => PatAt (fun a => H a = none ∧ a ≠ R) H') (S := fun _ _ _ _ => True) (fun P => decide (P.nm.2.1 = au)) id (.var rfl) b9.eR (by omega) (fun H' s => b9.rows.mono fun _ _ z => z.lf (Same.lf s)) (fun _ _ _ => trivial) (fun v x H' hx s hv Q' hq => ?_) (fun v x H' D' hx hf s hv hD Q' hq => ?_) fun F us Ha sa nF eF hF => ?_
      · obtain ⟨pa, nv, ca, cs, rfl, h1, ⟨na, lv, rfl, h2, _⟩, _⟩ := hv
        refine sure_cast ⟨sg_inj, fun z => by rw [z]⟩ (Sure.eqS (Ev.ixT (i := 1) (Ev.ixT (i := 1) (.var rfl) .con h1 rfl) .con h2 rfl) (.var rfl)) Q' hq
      · exact ⟨_, rfl, hq v H' same_refl trivial⟩
      have lus : us.length = nOf Ps au := by
        have := hF.length
        rwa [List.map_id] at this
      have ba := b9.same sa
      refine ⟨F, us, rfl, .inl (SqL.of eF), _, _, rfl, rfl, by show 3 ≤ sizeLine; omega, fun nt nnt => ?_⟩
      have sb := same_new (o := .tup [.ref lt, .str (Sg au), .int ((1 : Int) + (us.length : Int))]) nnt
      have hnm : NmAt (upd Ha nt (.tup [.ref lt, .str (Sg au), .int ((1 : Int) + (us.length : Int))])) (.ref nt) ((d, ms), au, 1 + nOf Ps au) := ⟨nt, .ref lt, rfl, by rw [upd_same, lus]; rfl, ba.lab.ts (Same.ts sb)⟩
      have bb := ba.same sb
      generalize upd Ha nt (.tup [.ref lt, .str (Sg au), .int ((1 : Int) + (us.length : Int))]) = Hb at hnm bb
      clear sb sa ba b9 hF eF nF
      have hfr := okP.fresh au
      generalize hN1 : ((d, ms), au, 1 + nOf Ps au) = nm at hnm hfr
      refine ⟨by show 0 ≤ sizeLine; omega, fun C nC => name_to ?_⟩
      have sc := same_new (o := .lst ([] : List V)) nC
      have nC0 := bb.dr.none nC
      have nCp := st.new nC0
      have bc := (bb.new nC).same sc
      have eC : upd Hb C (.lst []) C = some (.lst []) := upd_same
      have hnmc := hnm.ts (Same.ts sc)
      have nCR : C ≠ R := fun z => by rw [z, bb.eR] at nC; cases nC
      have nCD : C ≠ D := fun z => by rw [z, bb.kn.rd] at nC; cases nC
      generalize upd Hb C (.lst []) = Hc at bc eC hnmc
      clear sc nC bb hnm
      have hN3 : ∀ a, ((H a = none ∧ a ≠ R) ∧ a ≠ C) → a ≠ p ∧ a ≠ c := fun a h => st.new h.1.1
      dsimp only
      refine asg_seq ?_
      refine lc_gen (R := fun H' => PatAt (fun a => (H a = none ∧ a ≠ R) ∧ a ≠ C) H') (S := fun _ => NmAt) (fun _ => true) (·.nm) (.var rfl) bc.eR (by omega) (fun H' s => bc.rows.mono fun _ _ z => z.lf (Same.lf s)) (fun h k z => z.ts (ts_but h k)) (fun v x H' hx s hv Q' hq => hq) (fun v x H' D' hx hf s hv hD Q' hq => ?_) fun I iw Hd sd nI eI hI => ?_
      · obtain ⟨pa, nv, ca, cs, rfl, h1, hn, _⟩ := hv
        exact Ev.ixT (i := 1) (.var rfl) .con h1 rfl _ (hq _ H' same_refl hn)
      rw [List.filter_eq_self.mpr fun _ _ => rfl] at hI
      have bd := bc.same sd
      have eCd := sd _ _ eC
      have hnmd := hnmc.ts (Same.ts sd)
      have nI0 := bc.dr.none nI
      have nIC : I ≠ C := fun z => by rw [z, eC] at nI; cases nI
      have nIR : I ≠ R := fun z => by rw [z, bc.eR] at nI; cases nI
      have hIds : NsAt (fun a => (H a = none ∧ a ≠ R) ∧ a ≠ C) Hd (.ref I) (Ps.map (·.nm)) := ⟨I, iw, rfl, ⟨⟨nI0, nIR⟩, nIC⟩, eI, hI⟩
      clear hI eI sd bc eC hnmc
      refine ⟨_, rfl, p, c, 3, rfl, by decide, bd.dr.st, fun He n _ hn ste de => ⟨_, _, rfl, rfl, ?_⟩⟩
      have hn := hn (by decide)
      have dde := (Dr.refl bd.dr.st).drawn ste de
      have be := bd.draw st hN3 nRp dde
      have lfe : LF (fun a => (H a = none ∧ a ≠ R) ∧ a ≠ C) Hd He := Dr.lf bd.dr.st dde hN3
      have hnme := hnmd.ts lfe.ts
      have hIe := hIds.lf lfe
      have eCe := dde.ou C _ nCp.1 nCp.2 eCd
      refine ⟨_, rfl, by omega, by omega, ?_⟩
      refine for_it (walk_range (lo := 0) (n := ((1 : Int) + (n : Int)).toNat)) (fun j σ H' => ∃ (y10 y11 y12 y13 y14 : Option V) (cw : List V) (chs : List Chg) (es : List (Vx × Addr × V)) (g l : Vx → List Vx), σ = [some (.ref p), some (.int (m : Int)), some (.ref lt), some (.ref R), some (.ref D), some (.int (0 + (i : Int))), some (.str (Sg au)), some (.ref nt), some (.ref C), some (.ref I), y10, y11, y12, y13, y14] ∧
          PWI P w p c R D lt (d, ms) (fun a => (H a = none ∧ a ≠ R) ∧ a ≠ C) H H' rw Ps es g l ∧ H' C = some (.lst cw) ∧ EachIs (ChgAt (fun a => (H a = none ∧ a ≠ R) ∧ a ≠ C) H') cw chs ∧ chs.length = j ∧ (∀ ch ∈ chs, ChN (Ps.map (·.nm)) (Ps.map (·.nm) ++ [nm]) ch) ∧ KnOk (es.map (·.1)) g l (Ps.map (·.nm) ++ [nm]) (1 + 9 * i + 3 * j) ∧
          NmAt H' (.ref nt) nm ∧ NsAt (fun a => (H a = none ∧ a ≠ R) ∧ a ≠ C) H' (.ref I) (Ps.map (·.nm)) ∧ ∀ k ∈ es.map (·.1), ∀ x ∈ l k, x.1 = nm → x.2.1 < j)
        ⟨_, _, _, _, _, [], [], es, g, l, rfl, be, eCe, .nil, rfl, (fun _ h => nomatch h), okK.mono (fun x hx => List.mem_append_left _ hx) (by omega), hnme, hIe, fun k hk x hx e => absurd (okK.ls k hk x hx) (by rw [e]; exact hfr)⟩ ?_ ?_ ?_
      · exact fun _ _ _ _ _ => trivial
      · rintro j x σ Hz Hf hj ⟨y10, y11, y12, y13, y14, cw, chs, es, g, l, rfl, bf, eCf, hch, lch, okCh, okK, hnf, hIf, hln⟩ ⟨rfl, rfl⟩
        have hj3 : j < 3 := by omega
        have lPs : (Ps.map (·.nm)).length < 1000 := by rw [List.length_map]; omega
        have lcw := hch.length
        refine ⟨_, rfl, _, rfl, _, rfl, p, c, D, I, es, g, l, Ps.map (·.nm), Ps.map (·.nm) ++ [nm], rfl, bf.dr.st, bf.kn.imp hN3, okK.mono (fun _ h => h) (by omega), hIf.imp hN3, lPs, fun Hg chv ch dg hcg hin => ?_⟩
        have bg := bf.draw st hN3 nRp dg
        have lfg : LF (fun a => (H a = none ∧ a ≠ R) ∧ a ≠ C) Hf Hg := Dr.lf bf.dr.st dg hN3
        have eCg := dg.ou C _ nCp.1 nCp.2 eCf
        have hcg' : ChgAt (fun a => (H a = none ∧ a ≠ R) ∧ a ≠ C) Hg chv ch := hcg.imp fun a n => ⟨⟨bf.dr.none n, fun z => by rw [z, bf.eR] at n; cases n⟩, fun z => by rw [z, eCf] at n; cases n⟩
        refine ⟨_, rfl, .inl ⟨rfl, _, .inl (.inl eCg)⟩, _, rfl, C, cw, chv, rfl, rfl, eCg, by omega, ?_⟩
        have lfh : LF (fun a => (H a = none ∧ a ≠ R) ∧ a ≠ C) Hg (upd Hg C (.lst (cw ++ [chv]))) := lf_upd eCg fun z => z.2 rfl
        have bh := bg.lf lfh (Dr.updF st bg.dr nC0) (upd_ne (Ne.symm nCR)) (upd_ne (Ne.symm nCD))
        have eCh : upd Hg C (.lst (cw ++ [chv])) C = some (.lst (cw ++ [chv])) := upd_same
        have hchh := each_snoc (hch.mono fun _ _ z => (z.lf lfg).lf lfh) (hcg'.lf lfh)
        have hc0 := hcg'.lf lfh
        have hnh := hnf.ts (lfg.ts.trans lfh.ts)
        have hIh := (hIf.lf lfg).lf lfh
        have okChn : ∀ x ∈ chs ++ [ch], ChN (Ps.map (·.nm)) (Ps.map (·.nm) ++ [nm]) x := fun x hx => by
          rcases List.mem_append.mp hx with z | z
          · exact okCh x z
          · rw [List.mem_singleton.mp z]
            exact hin.n okK.ky
        have lchn : (chs ++ [ch]).length = j + 1 := by rw [List.length_append, lch]; rfl
        have nmIn : nm ∈ Ps.map (·.nm) ++ [nm] := List.mem_append_right _ List.mem_cons_self
        generalize upd Hg C (.lst (cw ++ [chv])) = Hh at bh eCh hchh hc0 hnh hIh
        clear lfh lfg hcg' hcg eCg bg eCf hch hnf hIf bf
        have fresh : ∀ {Hx : Hp} {x : Addr} {es g l}, PWI P w p c R D lt (d, ms) (fun a => (H a = none ∧ a ≠ R) ∧ a ≠ C) H Hx rw Ps es g l → Hx C = some (.lst (cw ++ [chv])) → Hx x = none → (H x = none ∧ x ≠ R) ∧ x ≠ C := fun b e n => ⟨⟨b.dr.none n, fun z => by rw [z, b.eR] at n; cases n⟩, fun z => by rw [z, e] at n; cases n⟩
        have lkb : es.length < sizeLine := by
          have := okK.kb
          rw [List.length_map] at this
          omega
        have fin : ∀ (H5 : Hp) (kb T : Addr) (k : Vx) (gv lv : V) (G L : List Vx), PWI P w p c R D lt (d, ms) (fun a => (H a = none ∧ a ≠ R) ∧ a ≠ C) H H5 rw Ps es g l → Same Hh H5 → VxAt H5 (.ref kb) k → H5 T = some (.tup [gv, lv]) →
            VsAt (fun a => (H a = none ∧ a ≠ R) ∧ a ≠ C) H5 gv G → VsAt (fun a => (H a = none ∧ a ≠ R) ∧ a ≠ C) H5 lv L → k.1 ∈ Ps.map (·.nm) ++ [nm] → G ≠ [] → (∀ x ∈ G, x.1 ∈ Ps.map (·.nm) ++ [nm]) → (∀ x ∈ L, x.1 ∈ Ps.map (·.nm) ++ [nm]) → G.length ≤ 1 + 9 * i + 3 * (j + 1) → L.length ≤ 1 + 9 * i + 3 * (j + 1) → L.Nodup → (∀ x ∈ L, x.1 = nm → x.2.1 < j + 1) →
            ∃ es' g' l', PWI P w p c R D lt (d, ms) (fun a => (H a = none ∧ a ≠ R) ∧ a ≠ C) H (upd H5 D (dNO ktV P w D (GX.dSt es k kb (.ref T)))) rw Ps es' g' l' ∧ upd H5 D (dNO ktV P w D (GX.dSt es k kb (.ref T))) C = some (.lst (cw ++ [chv])) ∧
              EachIs (ChgAt (fun a => (H a = none ∧ a ≠ R) ∧ a ≠ C) (upd H5 D (dNO ktV P w D (GX.dSt es k kb (.ref T))))) (cw ++ [chv]) (chs ++ [ch]) ∧ KnOk (es'.map (·.1)) g' l' (Ps.map (·.nm) ++ [nm]) (1 + 9 * i + 3 * (j + 1)) ∧
              NmAt (upd H5 D (dNO ktV P w D (GX.dSt es k kb (.ref T)))) (.ref nt) nm ∧ NsAt (fun a => (H a = none ∧ a ≠ R) ∧ a ≠ C) (upd H5 D (dNO ktV P w D (GX.dSt es k kb (.ref T)))) (.ref I) (Ps.map (·.nm)) ∧ ∀ k ∈ es'.map (·.1), ∀ x ∈ l' k, x.1 = nm → x.2.1 < j + 1 := by
          intro H5 kb T k gv lv G L b5 s5 hk hT hG hL k1 gne gi li gl ll nd lj
          have lf : LF (fun a => (H a = none ∧ a ≠ R) ∧ a ≠ C) Hh (upd H5 D (dNO ktV P w D (GX.dSt es k kb (.ref T)))) := (Same.lf s5).trans (lf_updD b5.kn.rd (fun _ z => by cases z) (fun _ z => by cases z))
          refine ⟨GX.dSt es k kb (.ref T), _, _, ⟨Dr.updF st b5.dr nD0, bh.lab.ts lf.ts, (upd_ne nRD).trans b5.eR, bh.rows.mono fun _ _ z => z.lf lf, b5.kn.set hk hT hG hL⟩, (upd_ne nCD).trans (s5 _ _ eCh), hchh.mono fun _ _ z => z.lf lf, ?_, hnh.ts lf.ts, hIh.lf lf, ?_⟩
          · rw [dst_add]
            exact okK.set (by omega) k1 gne gi li gl ll nd
          · intro k' hk' x hx e
            rw [dst_add] at hk'
            by_cases z : k' = k
            · rw [if_pos z] at hx
              exact lj x hx e
            · rw [if_neg z] at hx
              exact Nat.lt_succ_of_lt (hln k' ((mem_addK.mp hk').resolve_right z) x hx e)
        obtain ⟨ca, cr, rfl, hca⟩ := hc0.kw
        refine ifS (p := kwOf ch = "add") (Sure.eqS (Ev.ixT (i := 0) (.var rfl) .con hca rfl) .con) (fun hw => ?_) (fun _ => ?_)
        · refine ⟨_, rfl, _, rfl, by show 3 ≤ sizeLine; omega, fun v1 nv1 => ⟨by show 1 ≤ sizeLine; omega, fun L1 nL1 => ⟨by show 0 ≤ sizeLine; omega, fun L2 nL2 => ⟨by show 2 ≤ sizeLine; omega, fun T nT => ⟨_, rfl, _, rfl, _, rfl, by show 3 ≤ sizeLine; omega, fun kb nkb => ?_⟩⟩⟩⟩⟩
          have s1 := same_new (o := .tup [.ref nt, .int (0 + (j : Int)), .int 0]) nv1
          have h1 : VxAt (upd Hh v1 (.tup [.ref nt, .int (0 + (j : Int)), .int 0])) (.ref v1) (nm, j, 0) := ⟨v1, .ref nt, rfl, by rw [upd_same, Int.zero_add]; rfl, hnh.ts (Same.ts s1)⟩
          have b1 := bh.same s1
          generalize upd Hh v1 (.tup [.ref nt, .int (0 + (j : Int)), .int 0]) = X1 at *
          have f1 := fresh b1 (s1 _ _ eCh) nL1
          have s2 := same_new (o := .lst [.ref v1]) nL1
          have g2 : VsAt (fun a => (H a = none ∧ a ≠ R) ∧ a ≠ C) (upd X1 L1 (.lst [.ref v1])) (.ref L1) [(nm, j, 0)] := ⟨L1, _, rfl, f1, upd_same, .cons (h1.ts (Same.ts s2)) .nil⟩
          have b2 := b1.same s2
          have s12 := same_trans s1 s2
          generalize upd X1 L1 (.lst [.ref v1]) = X2 at *
          have f2 := fresh b2 (s12 _ _ eCh) nL2
          have s3 := same_new (o := .lst ([] : List V)) nL2
          have g3 : VsAt (fun a => (H a = none ∧ a ≠ R) ∧ a ≠ C) (upd X2 L2 (.lst [])) (.ref L2) [] := ⟨L2, _, rfl, f2, upd_same, .nil⟩
          have g2' := g2.lf (Same.lf s3)
          have b3 := b2.same s3
          have s13 := same_trans s12 s3
          generalize upd X2 L2 (.lst []) = X3 at *
          have s4 := same_new (o := .tup [.ref L1, .ref L2]) nT
          have hT : upd X3 T (.tup [.ref L1, .ref L2]) T = some (.tup [.ref L1, .ref L2]) := upd_same
          have b4 := b3.same s4
          have s14 := same_trans s13 s4
          have g2'' := g2'.lf (Same.lf s4)
          have g3' := g3.lf (Same.lf s4)
          generalize upd X3 T (.tup [.ref L1, .ref L2]) = X4 at *
          have s5 := same_new (o := .tup [.ref nt, .int (0 + (j : Int)), .int 0]) nkb
          have hk : VxAt (upd X4 kb (.tup [.ref nt, .int (0 + (j : Int)), .int 0])) (.ref kb) (nm, j, 0) := ⟨kb, .ref nt, rfl, by rw [upd_same, Int.zero_add]; rfl, hnh.ts (Same.ts (same_trans s14 s5))⟩
          have b5 := b4.same s5
          have s15 := same_trans s14 s5
          refine ⟨D, kb, es, (nm, j, 0), rfl, rfl, b5.kn.rd, b5.kn.keys, dp_vx hk, lkb, ?_⟩
          obtain ⟨es', g', l', r1, r2, r3, r4, r5, r6, r7⟩ := fin _ kb T (nm, j, 0) _ _ _ _ b5 s15 hk (s5 _ _ hT) (g2''.lf (Same.lf s5)) (g3'.lf (Same.lf s5)) nmIn (by simp) (fun x hx => by rw [List.mem_singleton.mp hx]; exact nmIn) (fun _ h => nomatch h) (by show 1 ≤ _; omega) (Nat.zero_le _) List.nodup_nil (fun _ h => nomatch h)
          exact ⟨_, _, _, _, _, _, _, es', g', l', rfl, r1, r2, r3, lchn, okChn, r4, r5, r6, r7⟩
        refine ifS (p := kwOf ch = "move") (Sure.eqS (Ev.ixT (i := 0) (.var rfl) .con hca rfl) .con) (fun hw => ?_) (fun _ => ?_)
        · obtain ⟨f, ps, xs, rfl⟩ := kw_move hw
          obtain ⟨ca', fv, pv, xv, eca, h1, hf, _⟩ := hc0
          cases eca
          have hfk : f ∈ es.map (·.1) := hin.1
          obtain ⟨e', hfind, he', hk'⟩ := find_of hfk
          obtain ⟨T0, gv, lv, eT0, hT0, hgv, hlv⟩ := bh.kn.vl e' he'
          rw [hk'] at hgv hlv
          have hf0 := hf
          obtain ⟨fa, fn, rfl, hfa⟩ := hf
          have evf : ∀ {Hx : Hp} {σ : L2.St}, TS Hh Hx → σ[11]? = some (some (.ref ca)) → Ev (tOp (rIxT K) (tVar 11) (tC (V.int 1))) σ Hx (.ref fa) := fun ts e => Ev.ixT (i := 1) (.var e) .con (ts _ _ h1) rfl
          have evk : ∀ {Hx : Hp} {σ : L2.St}, PWI P w p c R D lt (d, ms) (fun a => (H a = none ∧ a ≠ R) ∧ a ≠ C) H Hx rw Ps es g l → TS Hh Hx → σ[4]? = some (some (.ref D)) → σ[11]? = some (some (.ref ca)) → Ev (tOp (GX.rIxN ktV P w K) (tVar 4) (tOp (rIxT K) (tVar 11) (tC (V.int 1)))) σ Hx (.ref T0) := fun b ts e4 e11 => by
            have := Ev.ixN (.var e4) (evf ts e11) b.kn.rd b.kn.keys (dp_vx (K := K) (hf0.ts ts)) hfind
            rwa [eT0] at this
          have gb := okK.gb f hfk
          have lb := okK.lb f hfk
          have hgv' := hgv
          obtain ⟨ga, gw, rfl, nga, hga, heg⟩ := hgv
          have lgw := heg.length
          refine Ev.ixT (i := 0) (evk bh TS.refl rfl rfl) .con hT0 rfl _ ?_
          refine ⟨_, rfl, _, rfl, by show 3 ≤ sizeLine; omega, fun v1 nv1 => ⟨by show 1 ≤ sizeLine; omega, fun L1 nL1 => ?_⟩⟩
          have s1 := same_new (o := .tup [.ref nt, .int (0 + (j : Int)), .int 0]) nv1
          have hv1 : VxAt (upd Hh v1 (.tup [.ref nt, .int (0 + (j : Int)), .int 0])) (.ref v1) (nm, j, 0) := ⟨v1, .ref nt, rfl, by rw [upd_same, Int.zero_add]; rfl, hnh.ts (Same.ts s1)⟩
          have b1 := bh.same s1
          generalize upd Hh v1 (.tup [.ref nt, .int (0 + (j : Int)), .int 0]) = X1 at *
          have s2 := same_new (o := .lst [.ref v1]) nL1
          have e2 : upd X1 L1 (.lst [.ref v1]) L1 = some (.lst [.ref v1]) := upd_same
          have hv2 := hv1.ts (Same.ts s2)
          have b2 := b1.same s2
          have s12 := same_trans s1 s2
          generalize upd X1 L1 (.lst [.ref v1]) = X2 at *
          refine ⟨ga, L1, gw, [.ref v1], rfl, rfl, s12 _ _ hga, e2, by show gw.length + 1 ≤ _; omega, fun L3 nL3 => ?_⟩
          have f3 := fresh b2 (s12 _ _ eCh) nL3
          have s3 := same_new (o := .lst (gw ++ [.ref v1])) nL3
          have s13 := same_trans s12 s3
          have g3 : VsAt (fun a => (H a = none ∧ a ≠ R) ∧ a ≠ C) (upd X2 L3 (.lst (gw ++ [.ref v1]))) (.ref L3) (g f ++ [(nm, j, 0)]) := ⟨L3, _, rfl, f3, upd_same, each_snoc (each_vx (Same.ts s13) heg) (hv2.ts (Same.ts s3))⟩
          have b3 := b2.same s3
          generalize upd X2 L3 (.lst (gw ++ [.ref v1])) = X3 at *
          refine Ev.ixT (i := 1) (evk b3 (Same.ts s13) rfl rfl) .con (s13 _ _ hT0) rfl _ ⟨by show 2 ≤ sizeLine; omega, fun T nT => ⟨_, rfl, ?_⟩⟩
          have s4 := same_new (o := .tup [.ref L3, lv]) nT
          have hT : upd X3 T (.tup [.ref L3, lv]) T = some (.tup [.ref L3, lv]) := upd_same
          have b4 := b3.same s4
          have s14 := same_trans s13 s4
          have g4 := g3.lf (Same.lf s4)
          generalize upd X3 T (.tup [.ref L3, lv]) = X4 at *
          refine evf (Same.ts s14) rfl _ ⟨D, fa, es, f, rfl, rfl, b4.kn.rd, b4.kn.keys, dp_vx (hf0.ts (Same.ts s14)), lkb, ?_⟩
          obtain ⟨es', g', l', r1, r2, r3, r4, r5, r6, r7⟩ := fin _ fa T f _ _ _ _ b4 s14 (hf0.ts (Same.ts s14)) hT g4 (hlv.lf (Same.lf s14)) (okK.ky f hfk) (by simp) (fun x hx => by
            rcases List.mem_append.mp hx with z | z
            · exact okK.gs f hfk x z
            · rw [List.mem_singleton.mp z]; exact nmIn) (okK.ls f hfk) (by rw [List.length_append]; show _ + 1 ≤ _; omega) (by omega) (okK.nd f hfk) (fun x hx e => Nat.lt_succ_of_lt (hln f hfk x hx e))
          exact ⟨_, _, _, _, _, _, _, es', g', l', rfl, r1, r2, r3, lchn, okChn, r4, r5, r6, r7⟩
        refine ifS (p := kwOf ch = "lines") (Sure.eqS (Ev.ixT (i := 0) (.var rfl) .con hca rfl) .con) (fun hw => ?_) (fun _ => ?_)
        · obtain ⟨f, xs, ys, tx, rfl⟩ := kw_lines hw
          obtain ⟨ca', fv, xv, yv, tv, eca, h1, hf, _, _, ta, rfl, _, hta⟩ := hc0
          cases eca
          have hfk : f ∈ es.map (·.1) := hin.1
          obtain ⟨e', hfind, he', hk'⟩ := find_of hfk
          obtain ⟨T0, gv, lv, eT0, hT0, hgv, hlv⟩ := bh.kn.vl e' he'
          rw [hk'] at hgv hlv
          have hf0 := hf
          obtain ⟨fa, fn, rfl, hfa⟩ := hf
          have evf : ∀ {Hx : Hp} {σ : L2.St}, TS Hh Hx → σ[11]? = some (some (.ref ca)) → Ev (tOp (rIxT K) (tVar 11) (tC (V.int 1))) σ Hx (.ref fa) := fun ts e => Ev.ixT (i := 1) (.var e) .con (ts _ _ h1) rfl
          have evk : ∀ {Hx : Hp} {σ : L2.St}, PWI P w p c R D lt (d, ms) (fun a => (H a = none ∧ a ≠ R) ∧ a ≠ C) H Hx rw Ps es g l → TS Hh Hx → σ[4]? = some (some (.ref D)) → σ[11]? = some (some (.ref ca)) → Ev (tOp (GX.rIxN ktV P w K) (tVar 4) (tOp (rIxT K) (tVar 11) (tC (V.int 1)))) σ Hx (.ref T0) := fun b ts e4 e11 => by
            have := Ev.ixN (.var e4) (evf ts e11) b.kn.rd b.kn.keys (dp_vx (K := K) (hf0.ts ts)) hfind
            rwa [eT0] at this
          have gb := okK.gb f hfk
          have lb := okK.lb f hfk
          have ltx : tx.length ≤ 3 := hin.2.2.2.2.1
          have hlv' := hlv
          obtain ⟨la, lw, rfl, nla, hla, hel⟩ := hlv
          have llw := hel.length
          refine Ev.ixT (i := 1) (evk bh TS.refl rfl rfl) .con hT0 rfl _ ?_
          refine lc_rng (Ev.len (Ev.ixT (i := 4) (.var rfl) .con h1 rfl) hta) ?_
          refine ⟨_, rfl, by omega, by rw [List.length_map]; omega, fun L nL => ?_⟩
          have nfL := fresh bh eCh nL
          refine lc_range (lo := 0) (n := (((strV tx).length : Nat) : Int).toNat) (fun k H4 => Same Hh H4 ∧ ∃ us : List V, H4 L = some (.lst us) ∧ EachIs (VxAt H4) us ((List.range k).map fun q => ((nm, j, q) : Vx))) ⟨same_new nL, [], upd_same, .nil⟩ ?_ ?_
          · rintro k H4 hk ⟨s4, us, eL, hus⟩
            have lus := hus.length
            rw [List.length_map, List.length_range] at lus
            have ltv : (strV tx).length = tx.length := List.length_map _
            refine ⟨rfl, _, rfl, _, rfl, _, rfl, by show 3 ≤ sizeLine; omega, fun t nt2 => ?_⟩
            have s5 := same_new (o := .tup [.ref nt, .int (0 + (j : Int)), .int (0 + (k : Int))]) nt2
            have hv5 : VxAt (upd H4 t (.tup [.ref nt, .int (0 + (j : Int)), .int (0 + (k : Int))])) (.ref t) (nm, j, k) := ⟨t, .ref nt, rfl, by rw [upd_same, Int.zero_add, Int.zero_add], hnh.ts (Same.ts (same_trans s4 s5))⟩
            have eL5 := s5 _ _ eL
            have hus5 := each_vx (Same.ts s5) hus
            have s45 := same_trans s4 s5
            generalize upd H4 t (.tup [.ref nt, .int (0 + (j : Int)), .int (0 + (k : Int))]) = X5 at *
            have lf : TS X5 (upd X5 L (.lst (us ++ [.ref t]))) := (lf_upd (N := fun b => b ≠ L) eL5 fun z => z rfl).ts
            refine ⟨us, eL5, by omega, fun b o e => ?_, us ++ [.ref t], upd_same, ?_⟩
            · rw [upd_ne (ne_of_none e nL)]
              exact s45 _ _ e
            · rw [List.range_succ, List.map_append]
              exact each_snoc (each_vx lf hus5) (hv5.ts lf)
          · rintro H4 ⟨s4, us, eL, hus⟩
            rw [show (((strV tx).length : Nat) : Int).toNat = tx.length from by rw [List.length_map]; rfl] at hus
            have lus := hus.length
            rw [List.length_map, List.length_range] at lus
            have b4 := bh.same s4
            refine ⟨la, L, lw, us, rfl, rfl, s4 _ _ hla, eL, by omega, fun L3 nL3 => name_to ?_⟩
            have f3 := fresh b4 (s4 _ _ eCh) nL3
            have s5 := same_new (o := .lst (lw ++ us)) nL3
            have s15 := same_trans s4 s5
            have g5 : VsAt (fun a => (H a = none ∧ a ≠ R) ∧ a ≠ C) (upd H4 L3 (.lst (lw ++ us))) (.ref L3) (l f ++ (List.range tx.length).map fun q => ((nm, j, q) : Vx)) := ⟨L3, _, rfl, f3, upd_same, each_app (each_vx (Same.ts s15) hel) (each_vx (Same.ts s5) hus)⟩
            have b5 := b4.same s5
            generalize upd H4 L3 (.lst (lw ++ us)) = X5 at *
            dsimp only
            refine Ev.ixT (i := 0) (evk b5 (Same.ts s15) rfl rfl) .con (s15 _ _ hT0) rfl _ ⟨_, rfl, by show 2 ≤ sizeLine; omega, fun T nT => ⟨_, rfl, ?_⟩⟩
            have s6 := same_new (o := .tup [gv, .ref L3]) nT
            have hT : upd X5 T (.tup [gv, .ref L3]) T = some (.tup [gv, .ref L3]) := upd_same
            have b6 := b5.same s6
            have s16 := same_trans s15 s6
            have g6 := g5.lf (Same.lf s6)
            generalize upd X5 T (.tup [gv, .ref L3]) = X6 at *
            refine evf (Same.ts s16) rfl _ ⟨D, fa, es, f, rfl, rfl, b6.kn.rd, b6.kn.keys, dp_vx (hf0.ts (Same.ts s16)), lkb, ?_⟩
            have ndr : ((List.range tx.length).map fun q => ((nm, j, q) : Vx)).Nodup := List.pairwise_map.mpr (List.Pairwise.imp (fun h e => h (congrArg (fun x : Vx => x.2.2) e)) List.nodup_range)
            obtain ⟨es', g', l', r1, r2, r3, r4, r5, r6, r7⟩ := fin _ fa T f _ _ _ _ b6 s16 (hf0.ts (Same.ts s16)) hT (hgv.lf (Same.lf s16)) g6 (okK.ky f hfk) (okK.ne f hfk) (okK.gs f hfk) (fun x hx => by
              rcases List.mem_append.mp hx with z | z
              · exact okK.ls f hfk x z
              · obtain ⟨q, _, rfl⟩ := List.mem_map.mp z
                exact nmIn) (by omega) (by rw [List.length_append, List.length_map, List.length_range]; omega) (List.nodup_append.mpr ⟨okK.nd f hfk, ndr, fun x hx y hy e => by
                obtain ⟨q, _, rfl⟩ := List.mem_map.mp hy
                have := hln f hfk x hx (by rw [e])
                rw [e] at this
                exact absurd this (Nat.lt_irrefl j)⟩) (fun x hx e => by
              rcases List.mem_append.mp hx with z | z
              · exact Nat.lt_succ_of_lt (hln f hfk x z e)
              · obtain ⟨q, _, rfl⟩ := List.mem_map.mp z
                exact Nat.lt_succ_self j)
            exact ⟨_, _, _, _, _, _, _, es', g', l', rfl, r1, r2, r3, lchn, okChn, r4, r5, r6, r7⟩
        exact ⟨_, _, _, _, _, _, _, es, g, l, rfl, bh, eCh, hchh, lchn, okChn, okK.mono (fun _ h => h) (by omega), hnh, hIh, fun k hk x hx e => Nat.lt_succ_of_lt (hln k hk x hx e)⟩
      · rintro σ Hf ⟨y10, y11, y12, y13, y14, cw, chs, es, g, l, rfl, bf, eCf, hch, lch, okCh, okK, hnf, hIf, hln⟩
        have lcn : 1 ≤ chs.length ∧ chs.length ≤ 3 := by omega
        refine ⟨_, rfl, .inl ⟨rfl, _, .inl (.inl bf.eR)⟩, _, rfl, _, rfl, _, rfl, by show 3 ≤ sizeLine; omega, fun ln nln => ?_⟩
        have sl := same_new (o := .lst [.str "", .str "n", .str "more"]) nln
        have nlp := bf.dr.st.new nln
        have bl := bf.same sl
        refine ⟨p, c, ln, _, rfl, upd_same, nlp.1, nlp.2, by simp, by simp, bl.dr.st, fun Hg tv htv stg dg => ⟨by show 4 ≤ sizeLine; omega, fun t nt' => ?_⟩⟩
        obtain ⟨no, hno, rfl⟩ : ∃ no, no ∈ notes ∧ tv = V.str (Sg no) := by
          simp only [List.mem_cons, List.not_mem_nil, or_false] at htv
          rcases htv with rfl | rfl | rfl
          · exact ⟨[], by decide, congrArg V.str (by decide +kernel)⟩
          · exact ⟨[110], by decide, congrArg V.str (by decide +kernel)⟩
          · exact ⟨[109, 111, 114, 101], by decide, congrArg V.str (by decide +kernel)⟩
        have ddg := (Dr.refl bl.dr.st).drawn stg dg
        have bg := bl.draw st hN3 nRp ddg
        have stt := same_new (o := .tup [.str "patch", .ref nt, .ref C, .str (Sg no)]) nt'
        have bt := bg.same stt
        have lft : LF (fun a => (H a = none ∧ a ≠ R) ∧ a ≠ C) Hf (upd Hg t (.tup [.str "patch", .ref nt, .ref C, .str (Sg no)])) := ((Same.lf sl).trans (Dr.lf bl.dr.st ddg hN3)).trans (Same.lf stt)
        have eCt : upd Hg t (.tup [.str "patch", .ref nt, .ref C, .str (Sg no)]) C = some (.lst cw) := stt _ _ (ddg.ou C _ nCp.1 nCp.2 (sl _ _ eCf))
        have het : upd Hg t (.tup [.str "patch", .ref nt, .ref C, .str (Sg no)]) t = some (.tup [.str "patch", .ref nt, .ref C, .str (Sg no)]) := upd_same
        have hcht := hch.mono fun _ _ z => ChgAt.lf lft z
        have hnt := hnf.ts lft.ts
        generalize upd Hg t (.tup [.str "patch", .ref nt, .ref C, .str (Sg no)]) = Ht at bt lft eCt het hcht hnt
        have b2 := bt.imp (N' := fun a => H a = none ∧ a ≠ R) fun a h => h.1
        have lfu : LF (fun a => H a = none ∧ a ≠ R) Ht (upd Ht R (.lst (rw ++ [.ref t]))) := lf_upd bt.eR fun z => z.2 rfl
        have hpat : PatAt (fun a => H a = none ∧ a ≠ R) Ht (.ref t) ⟨nm, chs, no⟩ := ⟨t, .ref nt, C, cw, rfl, het, hnt, ⟨nC0, nCR⟩, eCt, hcht.mono fun _ _ z => z.imp fun a h => h.1⟩
        refine ⟨R, rw, .ref t, rfl, rfl, bt.eR, by omega, _, _, _, _, _, _, _, _, _, _, rw ++ [.ref t], Ps ++ [⟨nm, chs, no⟩], es, g, l, rfl, ⟨Dr.updF st bt.dr nR0, bt.lab.ts lfu.ts, upd_same, each_snoc (b2.rows.mono fun _ _ z => z.lf lfu) (hpat.lf lfu), b2.kn.lf lfu (upd_ne (Ne.symm nRD))⟩, okP.snoc hau hN1.symm lcn.1 lcn.2 okCh hno, by rw [List.length_append, lP]; rfl, ?_⟩
        rw [List.map_append]
        exact okK.mono (fun _ h => h) (by omega)
    · rintro σ H7 ⟨y5, y6, y7, y8, y9, y10, y11, y12, y13, y14, rw, Ps, es, g, l, rfl, b7, okP, lP, okK⟩
      obtain ⟨al, so⟩ := able_V (fun e : Vx × Addr × V => e.1) es
      refine ⟨_, rfl, _, rfl, _, rfl, D, es, rfl, .inl b7.kn.rd, b7.kn.keys, al, so, fun s0 ns0 => ⟨by show 3 ≤ sizeLine; omega, fun t nt => ?_⟩⟩
      have sF := same_trans (same_new (o := .lst ((GX.sortN ktV es).map fun e => V.ref e.2.1)) ns0) (same_new (o := .tup [.ref lt, .ref R, .ref s0]) nt)
      have bF := b7.same sF
      exact q _ t _ R _ (d, ms) Ps bF.dr upd_same bF.lab hd hms ⟨rw, nR0, bF.eR, bF.rows.mono fun _ _ z => z.imp fun a h => h.1⟩ okP (by omega)
end
end K20
namespace K20
open PySem PySem.Spec PyProof.Rows L2 TL TR QR
open GxR (TabB TabG Tabbed)
open PySem.W (EachIs)
open GX (dNO KeysAt)
abbrev sNE : Stmt := topS 15
abbrev nNE : List Str := ["patch", "found", "change", "rows", "part", "name", "vertex"]
theorem scNE : FnScope nNE ["patch"] (defScope sNE) := ⟨rfl, rfl, rfl, by decide +kernel, rfl, by decide +kernel, by decide +kernel⟩
/-- the names that a change has in it -/
def namesC : Chg → List Nm
  | .add _ => []
  | .back n => [n]
  | .drop f xs => f.1 :: xs.map (·.1)
  | .move f _ xs => f.1 :: xs.map (·.1)
  | .cut f xs => f.1 :: xs.map (·.1)
  | .order f a b => [f.1, a.1, b.1]
  | .lines f xs ys _ => f.1 :: (xs.map (·.1) ++ ys.map (·.1))
def needsL (R : Pat) : List Nm := (R.chs.flatMap namesC).filter fun n => decide (¬ n = R.nm)
/-- small -/
def SmC : Chg → Prop
  | .drop _ xs => xs.length ≤ 3
  | .move _ _ xs => xs.length ≤ 3
  | .cut _ xs => xs.length ≤ 3
  | .lines _ xs ys _ => xs.length ≤ 3 ∧ ys.length ≤ 3
  | _ => True
section
variable {P : Program} {w : World} {K : PySem.W.Frag} {mg : Str → Option Value} {base : Heap} {H : Hp} {v : V} {Q : VK} {E : XK} {Ts : List Addr}
def spNE : Sp := fun vs H Q _ => ∃ (v : V) (R : Pat) (N : Addr → Prop), vs = [v] ∧ PatAt N H v R ∧ R.chs.length ≤ 3 ∧ (∀ c ∈ R.chs, SmC c) ∧
  ∀ H' D ws ys, Same H H' → H D = none → H' D = some (.lst ws) → EachIs (NmAt H') ws ys → ys.Perm (needsL R) → Q (.ref D) H'
def kinds3 : List Str := ["cut", "drop", "move"]
def PartAt (kw : Str) (H : Hp) (v : V) (o : Option (List Vx)) : Prop := (∃ a xs, v = .ref a ∧ H a = some (.tup xs) ∧ o = none) ∨ (∃ a ws, v = .ref a ∧ H a = some (.lst ws) ∧ ((kw ∈ kinds3 ∧ ∃ vs, o = some vs ∧ EachIs (VxAt H) ws vs) ∨ (kw ∉ kinds3 ∧ o = none)))
theorem PartAt.same {kw : Str} {H H' : Hp} {v : V} {o : Option (List Vx)} (s : Same H H') : PartAt kw H v o → PartAt kw H' v o := fun h => h.imp (fun ⟨a, xs, e, h1, h2⟩ => ⟨a, xs, e, s _ _ h1, h2⟩) fun ⟨a, ws, e, h1, h2⟩ => ⟨a, ws, e, s _ _ h1, h2.imp (fun ⟨k, vs, e1, e2⟩ => ⟨k, vs, e1, each_vx (Same.ts s) e2⟩) id⟩
theorem in_kinds (kw : Str) : inV (.str kw) [.str "cut", .str "drop", .str "move"] = decide (kw ∈ kinds3) := by
  rw [Bool.eq_iff_iff, decide_eq_true_iff]
  simp [inV, kinds3, eqV]
  constructor
  · rintro (h | h | h)
    · exact .inl h.symm
    · exact .inr (.inl h.symm)
    · exact .inr (.inr h.symm)
  · rintro (h | h | h)
    · exact .inl h.symm
    · exact .inr (.inl h.symm)
    · exact .inr (.inr h.symm)
theorem part_test {kw : Str} {σ : L2.St} {H : Hp} {v : V} {o : Option (List Vx)} {ca : Addr} {cr : List V} (h : PartAt kw H v o) (e4 : σ[4]? = some (some v)) (e2 : σ[2]? = some (some (.ref ca))) (hca : H ca = some (.tup (.str kw :: cr))) :
    SureS (tAnd (tB (tCB (rIsi K) (tCons (tVar 4) (tCons (tC (V.ty "list")) tNil)))) (tTest (tOp (rIn K false) (tOp (rIxT K) (tVar 2) (tC (V.int 0))) (tTup (tCons (tC (V.str (Str.ofString "cut"))) (tCons (tC (V.str (Str.ofString "drop"))) (tCons (tC (V.str (Str.ofString "move"))) tNil))))))) σ H (o.isSome = true) := by
  have zl := zl
  rcases h with ⟨a, xs, rfl, h1, rfl⟩ | ⟨a, ws, rfl, h1, h2⟩
  · refine sureS_cast (p := False ∧ True) (by simp) (SureS.and (p := False) (q := True) (fun R r => ?_) (fun z => z.elim))
    exact ⟨_, e4, .ref a, .ty "list", .type "tuple", .type "list", false, rfl, .ty _, .base (.tup h1), kit_ty rfl, false, rfl, r H same_refl⟩
  · refine sureS_cast (p := True ∧ kw ∈ kinds3) ?_ (SureS.and (p := True) (q := kw ∈ kinds3) (fun R r => ?_) (fun _ H1 s1 R r => ?_))
    · rcases h2 with ⟨k, vs, rfl, _⟩ | ⟨k, rfl⟩
      · simp [k]
      · simp [k]
    · exact ⟨_, e4, .ref a, .ty "list", .type "list", .type "list", true, rfl, .ty _, .base (.lst h1), kit_ty rfl, true, rfl, r H same_refl⟩
    · refine Ev.ixT (i := 0) (.var e2) .con (s1 _ _ hca) rfl _ ⟨by show 3 ≤ sizeLine; omega, fun t nt => ⟨t, _, rfl, .inr (SqT.of upd_same), rfl, rfl, _, rfl, ?_⟩⟩
      show R (inV (.str kw) [.str "cut", .str "drop", .str "move"]) _
      rw [in_kinds]
      exact r _ (same_new nt)
theorem parts_loop {σ : L2.St} {H : Hp} {D : Ends} {te : TE} {ca F r : Addr} {kw : Str} {cr ps rs : List V} {os : List (Option (List Vx))} {vs : List Vx} {v : V} {y4 y5 y6 : Option V} (hσ : σ = [some v, some (.ref F), some (.ref ca), some (.ref r), y4, y5, y6])
    (ev : ∀ Q : VK, (∀ p2 H1, Same H H1 → H1 p2 = some (.tup ps) → Q (.ref p2) H1) → te σ H Q) (hca : H ca = some (.tup (.str kw :: cr))) (hps : EachIs (PartAt kw H) ps os) (hr : H r = some (.lst rs)) (hrs : EachIs (VxAt H) rs vs)
    (b1 : vs.length ≤ 1000) (b2 : ∀ o ∈ os, ∀ xs, o = some xs → xs.length ≤ 3) (b3 : os.length ≤ 5)
    (q : ∀ y4' r' rs' Hx, Same H Hx → Hx r' = some (.lst rs') → EachIs (VxAt Hx) rs' (vs ++ (os.filterMap id).flatten) → D.nx [some v, some (.ref F), some (.ref ca), some (.ref r'), y4', y5, y6] Hx) :
    tFor (iTup K te) (gName 4) (tIfS (tAnd (tB (tCB (rIsi K) (tCons (tVar 4) (tCons (tC (V.ty "list")) tNil)))) (tTest (tOp (rIn K false) (tOp (rIxT K) (tVar 2) (tC (V.int 0))) (tTup (tCons (tC (V.str (Str.ofString "cut"))) (tCons (tC (V.str (Str.ofString "drop"))) (tCons (tC (V.str (Str.ofString "move"))) tNil))))))) (tAsg (tOp rCat (tVar 3) (tVar 4)) (gName 3)) tNext) D σ H := by
  subst hσ
  have zl := zl
  refine ev _ fun p2 H1 s1 h2 => ⟨p2, rfl, ⟨ps, SqT.of h2⟩, ?_⟩
  have lps := hps.length
  refine for_tup (xs := ps) (fun i σ H' => ∃ (y4 : Option V) (r : Addr) (rs : List V), σ = [some v, some (.ref F), some (.ref ca), some (.ref r), y4, y5, y6] ∧ Same H H' ∧ H' p2 = some (.tup ps) ∧ H' r = some (.lst rs) ∧ EachIs (VxAt H') rs (vs ++ ((os.take i).filterMap id).flatten) ∧ rs.length ≤ 1000 + 3 * i)
    ⟨y4, r, rs, rfl, s1, h2, s1 _ _ hr, by rw [List.take_zero]; show EachIs _ _ (vs ++ []); rw [List.append_nil]; exact each_vx (Same.ts s1) hrs, by have := hrs.length; omega⟩ ?_ ?_ ?_
  · rintro i σ H' _ ⟨_, _, _, _, _, h, _⟩
    exact SqT.of h
  · rintro i x σ H' hx ⟨y4, r, rs, rfl, s, hp2, hr, hrs, lr⟩
    obtain ⟨o, ho, hPo⟩ := each_at hps hx
    have hi := (List.getElem?_eq_some_iff.mp ho).1
    have et : os.take (i + 1) = os.take i ++ [o] := by rw [List.take_add_one, ho]; rfl
    refine ifSS (p := o.isSome = true) (part_test (hPo.same s) rfl rfl (s _ _ hca)) (fun h H2 s2 => ?_) (fun h H2 s2 => ?_)
    · rcases hPo with ⟨_, _, _, _, rfl⟩ | ⟨a, ws, rfl, ha, ⟨_, xs, rfl, hxs⟩ | ⟨_, rfl⟩⟩
      · cases h
      · have lx := b2 _ (List.mem_of_getElem? ho) xs rfl
        have lw := hxs.length
        have s12 := same_trans s s2
        refine ⟨_, rfl, _, rfl, r, a, rs, ws, rfl, rfl, s2 _ _ hr, s12 _ _ ha, by omega, fun p np => ⟨_, p, rs ++ ws, rfl, same_trans s12 (same_new np), same_new np _ _ (s2 _ _ hp2), upd_same, ?_, by rw [List.length_append]; omega⟩⟩
        rw [et, List.filterMap_append, List.flatten_append, ← List.append_assoc]
        show EachIs _ _ (_ ++ ([xs] : List (List Vx)).flatten)
        rw [show ([xs] : List (List Vx)).flatten = xs from by simp]
        exact each_app (each_vx (Same.ts (same_trans s2 (same_new np))) hrs) (each_vx (Same.ts (same_trans s12 (same_new np))) hxs)
      · cases h
    · have : o = none := by
        cases o with
        | none => rfl
        | some _ => exact absurd rfl h
      subst this
      refine ⟨_, r, rs, rfl, same_trans s s2, s2 _ _ hp2, s2 _ _ hr, ?_, by omega⟩
      rw [et, List.filterMap_append, List.flatten_append]
      show EachIs _ _ (_ ++ (_ ++ []))
      rw [List.append_nil]
      exact each_vx (Same.ts s2) hrs
  · rintro σ H' ⟨y4, r, rs, rfl, s, hp2, hr, hrs, lr⟩
    rw [lps, List.take_length] at hrs
    exact q y4 r rs H' s hr hrs
def fileC : Chg → Vx
  | .add _ => (((0, []), [], 0), 0, 0)
  | .back n => (n, 0, 0)
  | .drop f _ => f
  | .move f _ _ => f
  | .cut f _ => f
  | .order f _ _ => f
  | .lines f _ _ _ => f
def midC : Chg → List Vx
  | .drop _ xs => xs
  | .move _ _ xs => xs
  | .cut _ xs => xs
  | _ => []
def extC : Chg → List Vx
  | .order _ a b => [a, b]
  | .lines _ xs ys _ => xs ++ ys
  | _ => []
theorem names_of {ch : Chg} (h1 : kwOf ch ≠ "back") (h2 : kwOf ch ≠ "add") : namesC ch = (fileC ch :: (midC ch ++ extC ch)).map (·.1) := by
  cases ch with
  | add _ => exact absurd rfl h2
  | back _ => exact absurd rfl h1
  | drop f xs => simp [namesC, fileC, midC, extC]
  | move f ps xs => simp [namesC, fileC, midC, extC]
  | cut f xs => simp [namesC, fileC, midC, extC]
  | order f a b => simp [namesC, fileC, midC, extC]
  | lines f xs ys ts => simp [namesC, fileC, midC, extC]
theorem k_yes : (Str.ofString "drop") ∈ kinds3 ∧ (Str.ofString "move") ∈ kinds3 ∧ (Str.ofString "cut") ∈ kinds3 ∧ (Str.ofString "lines") ∉ kinds3 := by decide +kernel
theorem ChgAt.parts {N : Addr → Prop} {ch : Chg} (h1 : kwOf ch ≠ "back") (h2 : kwOf ch ≠ "add") (sm : SmC ch) (h : ChgAt N H v ch) :
    ∃ ca fv ps os, v = .ref ca ∧ H ca = some (.tup (.str (kwOf ch) :: fv :: ps)) ∧ VxAt H fv (fileC ch) ∧ EachIs (PartAt (kwOf ch) H) ps os ∧ (os.filterMap id).flatten = midC ch ∧ os.length ≤ 5 ∧ ∀ o ∈ os, ∀ xs, o = some xs → xs.length ≤ 3 := by
  obtain ⟨kd, km, kc, kl⟩ := k_yes
  cases ch with
  | add _ => exact absurd rfl h2
  | back _ => exact absurd rfl h1
  | drop f xs =>
    obtain ⟨a, fv, xv, e, g1, g2, ⟨xa, ws, e3, _, g3, g4⟩⟩ := h
    exact ⟨a, fv, _, [some xs], e, g1, g2, .cons (.inr ⟨xa, ws, e3, g3, .inl ⟨kd, xs, rfl, g4⟩⟩) .nil, by simp [midC], by simp, fun o ho ys z => by rw [List.mem_singleton.mp ho] at z; cases z; exact sm⟩
  | cut f xs =>
    obtain ⟨a, fv, xv, e, g1, g2, ⟨xa, ws, e3, _, g3, g4⟩⟩ := h
    exact ⟨a, fv, _, [some xs], e, g1, g2, .cons (.inr ⟨xa, ws, e3, g3, .inl ⟨kc, xs, rfl, g4⟩⟩) .nil, by simp [midC], by simp, fun o ho ys z => by rw [List.mem_singleton.mp ho] at z; cases z; exact sm⟩
  | move f ps xs =>
    obtain ⟨a, fv, pv, xv, e, g1, g2, ⟨pa, e2, gp⟩, ⟨xa, ws, e3, _, g3, g4⟩⟩ := h
    exact ⟨a, fv, _, [none, some xs], e, g1, g2, .cons (.inl ⟨pa, _, e2, gp, rfl⟩) (.cons (.inr ⟨xa, ws, e3, g3, .inl ⟨km, xs, rfl, g4⟩⟩) .nil), by simp [midC], by simp, fun o ho ys z => by
      simp only [List.mem_cons, List.not_mem_nil, or_false] at ho
      rcases ho with rfl | rfl
      · cases z
      · cases z; exact sm⟩
  | order f a b =>
    obtain ⟨c, fv, av, bv, e, g1, g2, ⟨aa, _, e2, ga, _⟩, ⟨ba, _, e3, gb, _⟩⟩ := h
    exact ⟨c, fv, _, [none, none], e, g1, g2, .cons (.inl ⟨aa, _, e2, ga, rfl⟩) (.cons (.inl ⟨ba, _, e3, gb, rfl⟩) .nil), by simp [midC], by simp, fun o ho ys z => by
      simp only [List.mem_cons, List.not_mem_nil, or_false, or_self] at ho
      rw [ho] at z
      cases z⟩
  | lines f xs ys ts =>
    obtain ⟨c, fv, xv, yv, tv, e, g1, g2, ⟨xa, wx, e3, _, gx, _⟩, ⟨ya, wy, e4, _, gy, _⟩, ⟨ta, e5, _, gt⟩⟩ := h
    exact ⟨c, fv, _, [none, none, none], e, g1, g2, .cons (.inr ⟨xa, wx, e3, gx, .inr ⟨kl, rfl⟩⟩) (.cons (.inr ⟨ya, wy, e4, gy, .inr ⟨kl, rfl⟩⟩) (.cons (.inr ⟨ta, _, e5, gt, .inr ⟨kl, rfl⟩⟩) .nil)), by simp [midC], by simp, fun o ho ys z => by
      simp only [List.mem_cons, List.not_mem_nil, or_false, or_self] at ho
      rw [ho] at z
      cases z⟩
theorem kw_back {ch : Chg} (h : kwOf ch = "back") : ∃ n, ch = .back n := by
  cases ch with
  | back n => exact ⟨n, rfl⟩
  | add => exact absurd (show Str.ofString "add" = Str.ofString "back" from h) (by decide +kernel)
  | drop => exact absurd (show Str.ofString "drop" = Str.ofString "back" from h) (by decide +kernel)
  | move => exact absurd (show Str.ofString "move" = Str.ofString "back" from h) (by decide +kernel)
  | cut => exact absurd (show Str.ofString "cut" = Str.ofString "back" from h) (by decide +kernel)
  | order => exact absurd (show Str.ofString "order" = Str.ofString "back" from h) (by decide +kernel)
  | lines => exact absurd (show Str.ofString "lines" = Str.ofString "back" from h) (by decide +kernel)
theorem kw_order {ch : Chg} (h : kwOf ch = "order") : ∃ f a b, ch = .order f a b := by
  cases ch with
  | order f a b => exact ⟨f, a, b, rfl⟩
  | add => exact absurd (show Str.ofString "add" = Str.ofString "order" from h) (by decide +kernel)
  | back => exact absurd (show Str.ofString "back" = Str.ofString "order" from h) (by decide +kernel)
  | drop => exact absurd (show Str.ofString "drop" = Str.ofString "order" from h) (by decide +kernel)
  | move => exact absurd (show Str.ofString "move" = Str.ofString "order" from h) (by decide +kernel)
  | cut => exact absurd (show Str.ofString "cut" = Str.ofString "order" from h) (by decide +kernel)
  | lines => exact absurd (show Str.ofString "lines" = Str.ofString "order" from h) (by decide +kernel)
theorem kw_add {ch : Chg} (h : kwOf ch = "add") : ∃ ps, ch = .add ps := by
  cases ch with
  | add ps => exact ⟨ps, rfl⟩
  | back => exact absurd (show Str.ofString "back" = Str.ofString "add" from h) (by decide +kernel)
  | order => exact absurd (show Str.ofString "order" = Str.ofString "add" from h) (by decide +kernel)
  | drop => exact absurd (show Str.ofString "drop" = Str.ofString "add" from h) (by decide +kernel)
  | move => exact absurd (show Str.ofString "move" = Str.ofString "add" from h) (by decide +kernel)
  | cut => exact absurd (show Str.ofString "cut" = Str.ofString "add" from h) (by decide +kernel)
  | lines => exact absurd (show Str.ofString "lines" = Str.ofString "add" from h) (by decide +kernel)
theorem ext_no {ch : Chg} (h1 : kwOf ch ≠ "lines") (h2 : kwOf ch ≠ "order") : extC ch = [] := by
  cases ch with
  | lines f xs ys ts => exact absurd rfl h1
  | order f a b => exact absurd rfl h2
  | _ => rfl
theorem cut_two (a b : V) (ps : List V) : cutV (a :: b :: ps) (some 2) none = ps := by
  unfold cutV
  simp [HT.sIx]
/-- the names are put behind -/
theorem names_fin {D : Ends} {F r ca : Addr} {v : V} {y4 y5 y6 : Option V} {us rs : List V} {ns : List Nm} {vs : List Vx} (hF : H F = some (.lst us)) (hus : EachIs (NmAt H) us ns) (hr : H r = some (.lst rs)) (hrs : EachIs (VxAt H) rs vs) (l1 : us.length ≤ 1000) (l2 : rs.length ≤ 1000)
    (q : ∀ F' us' Hx, Same H Hx → H F' = none → Hx F' = some (.lst us') → EachIs (NmAt Hx) us' (ns ++ vs.map (·.1)) → D.nx [some v, some (.ref F'), some (.ref ca), some (.ref r), y4, y5, y6] Hx) :
    tAsg (tOp rCat (tVar 1) (tLc (iList K (tVar 3)) (gName 6) tYes (tOp (rIxT K) (tVar 6) (tC (V.int 0))) [6])) (gName 1) D [some v, some (.ref F), some (.ref ca), some (.ref r), y4, y5, y6] H := by
  have zl := zl
  have lv := hrs.length
  refine ⟨_, rfl, ?_⟩
  refine lc_gen (R := VxAt) (S := fun _ => NmAt) (fun _ => true) (·.1) (.var rfl) hr (by omega) (fun H' s => each_vx (Same.ts s) hrs) (fun h k z => z.ts (ts_but h k)) (fun _ _ _ _ _ _ Q' hq => hq) (fun v x H' D' hx hf s hv hD Q' hq => ?_) fun G gs H1 s1 nG eG hG => ?_
  · obtain ⟨va, nv, rfl, h1, h2⟩ := hv
    exact Ev.ixT (i := 0) (.var rfl) .con h1 rfl _ (hq _ H' same_refl h2)
  rw [List.filter_eq_self.mpr fun _ _ => rfl] at hG
  have lg := hG.length
  rw [List.length_map] at lg
  refine ⟨F, G, us, gs, rfl, rfl, s1 _ _ hF, eG, by omega, fun p np => ?_⟩
  have s2 := same_new (o := .lst (us ++ gs)) np
  exact q p _ _ (same_trans s1 s2) (same_none s1 np) upd_same (each_app (each_nm (Same.ts (same_trans s1 s2)) hus) (each_nm (Same.ts s2) hG))
theorem ret_cb {rel : List V → Hp → VK → Prop} {te : TE} {D : Ends} {σ : L2.St} {H : Hp} (h : te σ H fun v H1 => rel [v] H1 D.rt) : tRet (tCB rel (tCons te tNil)) D σ H := h
theorem ok_NE {f : Addr} {fd : FuncData} (F : Fun K "_law_needs" "_law_needs" sNE f fd)
    (m_list : mg "list" = none) (m_isinstance : mg "isinstance" = none) (m_sorted : mg "sorted" = none) : FnOk P w K mg base CX0 1 f fd ["patch"] spNE := by
  refine F.ok scNE (fun vs H Q E h => ?_) (fun cdv A outer s H vs Q E hr h => ?_)
  · obtain ⟨v, R, N, rfl, _⟩ := h
    rfl
  · obtain ⟨v, R, N, rfl, hR, l3, sm, q⟩ := h
    have hu := hr.units
    have hu1 := hu_of hr
    have zl := zl
    refine ⟨_, (pss_cons (ps_set (i := 1) scNE.nd rfl (.inl rfl) (pe_lst (pa_nil)))
      (pss_cons (ps_for PassesOwn.never rfl (pi_list (pe_ix ix_tup (pv 0) (pe_int) (fun _ _ => rfl))) (pg_name (i := 2) scNE.nd rfl (.inl rfl))
      (pss_one (ps_if (pt_cmpR op_eq (pe_ix ix_tup (pv 2) (pe_int) (fun _ _ => rfl)) (pe_str) (nomark _))
      (pss_one (ps_expr (pe_bm PySem.F.plainAttrs_list PySem.F.slot_list_append PySem.F.type_list_append mt_append (pv 1) (pa_cons (pe_ix ix_tup (pv 2) (pe_int) (fun _ _ => rfl)) pa_nil)))) (pss_one (ps_if (pt_cmpR op_ne (pe_ix ix_tup (pv 2) (pe_int) (fun _ _ => rfl)) (pe_str) (nomark _))
      (pss_cons (ps_set (i := 3) scNE.nd rfl (.inl rfl) (pe_lst (pa_cons (pe_ix ix_tup (pv 2) (pe_int) (fun _ _ => rfl)) pa_nil)))
      (pss_cons (ps_for PassesOwn.never rfl (pi_tup (pe_slice sl_tupA (pv 2) (po_some (pe_int)) (po_none))) (pg_name (i := 4) scNE.nd rfl (.inl rfl))
      (pss_one (ps_if (PW.pt (pw_and (pt_val (pe_callB (show CallR _ (.builtin "isinstance") (rIsi K) from call_isi) (by rfl) m_isinstance (by decide +kernel) (pa_cons (pv 4) (pa_cons (pe_bltn (v := V.ty "list") (u := .type "list") (by rfl) m_list (by decide +kernel) rfl) pa_nil)))) (pw_and1 (pt_cmpR op_in_seq (pe_ix ix_tup (pv 2) (pe_int) (fun _ _ => rfl)) (pe_tup (pa_cons (pe_str) (pa_cons (pe_str) (pa_cons (pe_str) pa_nil)))) (by rfl)))))
      (pss_one (ps_set (i := 3) scNE.nd rfl (.inl rfl) (pe_op op_cat (pv 3) (pv 4)))) pss_nil)))
      (pss_cons (ps_if (pt_cmpR op_eq (pe_ix ix_tup (pv 2) (pe_int) (fun _ _ => rfl)) (pe_str) (nomark _))
      (pss_one (ps_set (i := 3) scNE.nd rfl (.inl rfl) (pe_op op_cat (pe_op op_cat (pv 3) (pe_ix ix_tup (pv 2) (pe_int) (fun _ _ => rfl))) (pe_ix ix_tup (pv 2) (pe_int) (fun _ _ => rfl))))) pss_nil)
      (pss_cons (ps_if (pt_cmpR op_eq (pe_ix ix_tup (pv 2) (pe_int) (fun _ _ => rfl)) (pe_str) (nomark _))
      (pss_one (ps_set (i := 3) scNE.nd rfl (.inl rfl) (pe_op op_cat (pv 3) (pe_lst (pa_cons (pe_ix ix_tup (pv 2) (pe_int) (fun _ _ => rfl)) (pa_cons (pe_ix ix_tup (pv 2) (pe_int) (fun _ _ => rfl)) pa_nil)))))) pss_nil)
      (pss_one (ps_set (i := 1) scNE.nd rfl (.inl rfl) (pe_op op_cat (pv 1) (pe_lc (own := [("vertex", 6)]) (g := gName 6) (tt := tYes) (te := tOp (rIxT K) (tVar 6) (tC (.int 0))) rfl scNE.nd (pi_list (pv 3)) (blkOk_by (N := nNE) (sc := defScope sNE) (by decide +kernel)) (fun _ _ _ _ _ => by exact pg_name (i := 6) scNE.nd rfl (.inl rfl)) (fun _ _ _ _ _ => pts_nil) (fun _ _ _ _ _ => by exact pe_ix ix_tup (pv 6) (pe_int) (fun _ _ => rfl)))))))))) pss_nil)))))
      (pss_one (ps_ret (pe_callB (GX.cr_sortedD hu) (by rfl) m_sorted (by decide +kernel) (pa_cons (pe_lc (own := [("name", 5)]) (g := gName 5) (tt := tTest (tOp (rNeP K) (tVar 5) (tOp (rIxT K) (tVar 0) (tC (.int 1))))) (te := tVar 5) rfl scNE.nd (pi_list (pv 1)) (blkOk_by (N := nNE) (sc := defScope sNE) (by decide +kernel)) (fun _ _ _ _ _ => by exact pg_name (i := 5) scNE.nd rfl (.inl rfl)) (fun _ _ _ _ _ => by exact pts_one (pt_cmpR (op_neP hu) (pv 5) (pe_ix ix_tup (pv 0) (pe_int) (fun _ _ => rfl)) (nomark _))) (fun _ _ _ _ _ => by exact pv 5)) pa_nil)))))), ?_⟩
    dsimp only [cxOf, Cx.nox]
    obtain ⟨pa, nv, ca0, cs, rfl, hpa, hnv, nca, hcs, hch⟩ := hR
    refine ⟨by show 0 ≤ sizeLine; omega, fun F0 nF0 => name_to ?_⟩
    dsimp only
    have s0 := same_new (o := .lst ([] : List V)) nF0
    refine Ev.ixT (i := 2) (.var rfl) .con (s0 _ _ hpa) rfl _ ⟨ca0, rfl, ⟨cs, SqL.of (s0 _ _ hcs)⟩, ?_⟩
    have lcs := hch.length
    refine for_list (xs := cs) (fun i σ H' => ∃ (y2 y3 y4 y5 y6 : Option V) (F : Addr) (us : List V), σ = [some (.ref pa), some (.ref F), y2, y3, y4, y5, y6] ∧ Same H H' ∧ H F = none ∧ H' F = some (.lst us) ∧ EachIs (NmAt H') us ((R.chs.take i).flatMap namesC) ∧ us.length ≤ 8 * i)
      ⟨none, none, none, none, none, F0, [], rfl, s0, nF0, upd_same, .nil, Nat.zero_le _⟩ (fun i σ H' _ ⟨_, _, _, _, _, _, _, _, s, _⟩ => SqL.of (s _ _ hcs)) ?_ ?_
    · rintro i x σ H1 hx ⟨y2, y3, y4, y5, y6, F, us, rfl, s1, nF, eF, hus, lus⟩
      obtain ⟨ch, hc, hx0⟩ := each_at hch hx
      have hi := (List.getElem?_eq_some_iff.mp hc).1
      have et : (R.chs.take (i + 1)).flatMap namesC = (R.chs.take i).flatMap namesC ++ namesC ch := by rw [List.take_add_one, hc, List.flatMap_append]; simp
      have smc := sm ch (List.mem_of_getElem? hc)
      have hx1 := hx0.lf (Same.lf s1)
      obtain ⟨ca, cr, rfl, hca⟩ := hx1.kw
      refine name_to ?_
      refine ifS (p := kwOf ch = "back") (Sure.eqS (Ev.ixT (i := 0) (.var rfl) .con hca rfl) .con) (fun hw => ?_) (fun nb => ?_)
      · obtain ⟨n, rfl⟩ := kw_back hw
        obtain ⟨ca', bv, eca, h1, hn⟩ := hx1
        cases eca
        refine ⟨_, rfl, .inl ⟨rfl, _, .inl (.inl eF)⟩, ?_⟩
        refine Ev.ixT (i := 1) (.var rfl) .con h1 rfl _ ⟨F, us, bv, rfl, rfl, eF, by omega, ?_⟩
        have ts : TS H1 (upd H1 F (.lst (us ++ [bv]))) := (lf_upd (N := fun b => b ≠ F) eF fun z => z rfl).ts
        refine ⟨_, _, _, _, _, F, us ++ [bv], rfl, fun b o e => ?_, nF, upd_same, ?_, by rw [List.length_append]; show _ + 1 ≤ _; omega⟩
        · rw [upd_ne (ne_of_none e nF)]
          exact s1 _ _ e
        · rw [et]
          exact each_snoc (each_nm ts hus) (hn.ts ts)
      refine ifS (p := kwOf ch ≠ "add") (Sure.neS (Ev.ixT (i := 0) (.var rfl) .con hca rfl) .con) (fun na => ?_) (fun na => ?_)
      · obtain ⟨ca', fv, ps, os, eca, hca2, hf, hps, hmid, lo, lxs⟩ := hx1.parts nb na smc
        cases eca
        refine Ev.ixT (i := 1) (.var rfl) .con hca2 rfl _ ⟨by show 1 ≤ sizeLine; omega, fun r nr => name_to ?_⟩
        have s2 := same_new (o := .lst [fv]) nr
        have er : upd H1 r (.lst [fv]) r = some (.lst [fv]) := upd_same
        have hf2 := hf.ts (Same.ts s2)
        have hps2 := hps.mono fun _ _ z => PartAt.same s2 z
        have hca3 := s2 _ _ hca2
        have eF2 := s2 _ _ eF
        have hus2 := each_nm (Same.ts s2) hus
        have hxx := hx1.lf (Same.lf s2)
        have s12 := same_trans s1 s2
        generalize upd H1 r (.lst [fv]) = H2 at *
        dsimp only
        refine parts_loop (kw := kwOf ch) (vs := [fileC ch]) rfl (fun Q' hQ => ⟨_, rfl, 2, rfl, ca, _, rfl, SqT.of hca3, fun z => ?_, fun _ p np => hQ p _ (same_new np) (by rw [upd_same, cut_two])⟩) hca3 hps2 er (.cons hf2 .nil) (by simp) lxs lo fun y4' r' rs' Hx sx er' hrs' => ?_
        · have := z.1
          rw [List.length_cons, List.length_cons] at this
          simp [HT.sIx] at this
        rw [hmid] at hrs'
        have lmid : (midC ch).length ≤ 3 := by
          cases ch <;> first | exact smc | exact Nat.zero_le _
        have eFx := sx _ _ eF2
        have husx := each_nm (Same.ts sx) hus2
        have hcax := sx _ _ hca3
        have hxy := hxx.lf (Same.lf sx)
        have sx1 := same_trans s12 sx
        have lrs' := hrs'.length
        rw [List.length_append] at lrs'
        have lrs' : rs'.length ≤ 4 := by
          have : ([fileC ch] : List Vx).length = 1 := rfl
          omega
        have fin : ∀ (F' : Addr) (us' : List V) (Hy : Hp) (r'' : Addr), Same Hx Hy → Hx F' = none → Hy F' = some (.lst us') → EachIs (NmAt Hy) us' ((R.chs.take i).flatMap namesC ++ (fileC ch :: (midC ch ++ extC ch)).map (·.1)) → us'.length ≤ 8 * (i + 1) →
            ∃ (y2 y3 y4 y5' y6' : Option V) (F : Addr) (us : List V), [some (V.ref pa), some (.ref F'), some (.ref ca), some (.ref r''), y4', y5, y6] = [some (.ref pa), some (.ref F), y2, y3, y4, y5', y6'] ∧ Same H Hy ∧ H F = none ∧ Hy F = some (.lst us) ∧ EachIs (NmAt Hy) us ((R.chs.take (i + 1)).flatMap namesC) ∧ us.length ≤ 8 * (i + 1) :=
          fun F' us' Hy r'' sy nF' eF' hus' l' => ⟨_, _, _, _, _, F', us', rfl, same_trans sx1 sy, same_none sx1 nF', eF', by rw [et, names_of nb na]; exact hus', l'⟩
        have lext : (extC ch).length ≤ 6 := by
          cases ch with
          | lines f xs ys ts =>
            have smc : xs.length ≤ 3 ∧ ys.length ≤ 3 := smc
            show (xs ++ ys).length ≤ 6
            rw [List.length_append]
            omega
          | order f a b => exact (by decide : 2 ≤ 6)
          | _ => exact Nat.zero_le _
        refine ifS (p := kwOf ch = "lines") (Sure.eqS (Ev.ixT (i := 0) (.var rfl) .con hcax rfl) .con) (fun hw => ?_) (fun nl => ?_)
        · obtain ⟨f, xs, ys, tx, rfl⟩ := kw_lines hw
          obtain ⟨ca', fv', xv, yv, tv, eca, h1, _, ⟨xa, wx, rfl, _, hxa, hxs⟩, ⟨ya, wy, rfl, _, hya, hys⟩, _⟩ := hxy
          cases eca
          have smc : xs.length ≤ 3 ∧ ys.length ≤ 3 := smc
          have lwx := hxs.length
          have lwy := hys.length
          refine ⟨_, rfl, ?_⟩
          refine Ev.ixT (i := 2) (.var rfl) .con h1 rfl _ ⟨r', xa, rs', wx, rfl, rfl, er', hxa, by omega, fun p np => ?_⟩
          have sp := same_new (o := .lst (rs' ++ wx)) np
          refine Ev.ixT (i := 3) (.var rfl) .con (sp _ _ h1) rfl _ ⟨p, ya, rs' ++ wx, wy, rfl, rfl, upd_same, sp _ _ hya, by rw [List.length_append]; omega, fun p2 np2 => name_to ?_⟩
          have sq := same_trans sp (same_new (o := .lst (rs' ++ wx ++ wy)) np2)
          have e2 : upd (upd Hx p (.lst (rs' ++ wx))) p2 (.lst (rs' ++ wx ++ wy)) p2 = some (.lst (rs' ++ wx ++ wy)) := upd_same
          generalize upd (upd Hx p (.lst (rs' ++ wx))) p2 (.lst (rs' ++ wx ++ wy)) = Hq at *
          dsimp only
          refine ifS (p := kwOf (.lines f xs ys tx) = "order") (Sure.eqS (Ev.ixT (i := 0) (.var rfl) .con (sq _ _ hcax) rfl) .con) (fun h2 => absurd (show Str.ofString "lines" = Str.ofString "order" from h2) (by decide +kernel)) (fun _ => ?_)
          have hr2 : EachIs (VxAt Hq) (rs' ++ wx ++ wy) (f :: ([] ++ (xs ++ ys))) := by
            have := each_app (each_app (each_vx (Same.ts sq) hrs') (each_vx (Same.ts sq) hxs)) (each_vx (Same.ts sq) hys)
            simpa [fileC, midC] using this
          refine names_fin (sq _ _ eFx) (each_nm (Same.ts sq) husx) e2 hr2 (by omega) (by rw [List.length_append, List.length_append]; omega) fun F' us' Hy sy nF' eF' hus' => ?_
          refine fin F' us' Hy p2 (same_trans sq sy) (same_none sq nF') eF' hus' ?_
          have := hus'.length
          have l0 := husx.length
          rw [List.length_append, List.length_map, ← l0, List.length_cons, List.nil_append, List.length_append] at this
          omega
        refine ifS (p := kwOf ch = "order") (Sure.eqS (Ev.ixT (i := 0) (.var rfl) .con hcax rfl) .con) (fun hw => ?_) (fun no => ?_)
        · obtain ⟨f, a, b, rfl⟩ := kw_order hw
          obtain ⟨ca', fv', av, bv, eca, h1, _, ha, hb⟩ := hxy
          cases eca
          refine ⟨_, rfl, ?_⟩
          refine Ev.ixT (i := 2) (.var rfl) .con h1 rfl _ ?_
          refine Ev.ixT (i := 3) (.var rfl) .con h1 rfl _ ⟨by show 2 ≤ sizeLine; omega, fun p np => ?_⟩
          have sp := same_new (o := .lst [av, bv]) np
          refine ⟨r', p, rs', [av, bv], rfl, rfl, sp _ _ er', upd_same, by show rs'.length + 2 ≤ _; omega, fun p2 np2 => name_to ?_⟩
          have sq := same_trans sp (same_new (o := .lst (rs' ++ [av, bv])) np2)
          have e2 : upd (upd Hx p (.lst [av, bv])) p2 (.lst (rs' ++ [av, bv])) p2 = some (.lst (rs' ++ [av, bv])) := upd_same
          generalize upd (upd Hx p (.lst [av, bv])) p2 (.lst (rs' ++ [av, bv])) = Hq at *
          dsimp only
          have hr2 : EachIs (VxAt Hq) (rs' ++ [av, bv]) (f :: ([] ++ [a, b])) := by
            have := each_app (each_vx (Same.ts sq) hrs') (.cons (ha.ts (Same.ts sq)) (.cons (hb.ts (Same.ts sq)) .nil))
            simpa [fileC, midC] using this
          refine names_fin (sq _ _ eFx) (each_nm (Same.ts sq) husx) e2 hr2 (by omega) (by rw [List.length_append]; show _ + 2 ≤ _; omega) fun F' us' Hy sy nF' eF' hus' => ?_
          refine fin F' us' Hy p2 (same_trans sq sy) (same_none sq nF') eF' hus' ?_
          have := hus'.length
          have l0 := husx.length
          rw [List.length_append, List.length_map, ← l0] at this
          have : us'.length = us.length + 3 := this
          omega
        · have hr2 : EachIs (VxAt Hx) rs' (fileC ch :: (midC ch ++ extC ch)) := by
            rw [ext_no nl no, List.append_nil]
            exact hrs'
          refine names_fin eFx husx er' hr2 (by omega) (by omega) fun F' us' Hy sy nF' eF' hus' => ?_
          refine fin F' us' Hy r' sy nF' eF' hus' ?_
          have := hus'.length
          have l0 := husx.length
          rw [List.length_append, List.length_map, ← l0, List.length_cons, List.length_append] at this
          rw [ext_no nl no, List.length_nil] at this
          omega
      · obtain ⟨ps, rfl⟩ := kw_add (Decidable.byContradiction na)
        refine ⟨_, _, _, _, _, F, us, rfl, s1, nF, eF, ?_, by omega⟩
        rw [et]
        show EachIs _ _ (_ ++ [])
        rw [List.append_nil]
        exact hus
    · rintro σ H1 ⟨y2, y3, y4, y5, y6, F, us, rfl, s1, nF, eF, hus, lus⟩
      rw [lcs, List.take_length] at hus
      dsimp only
      have hpa1 := s1 _ _ hpa
      refine ret_cb ?_
      refine lc_gen (R := NmAt) (S := fun _ => NmAt) (fun n => decide (¬ n = R.nm)) id (.var rfl) eF (by have := hus.length; omega) (fun H' s => each_nm (Same.ts s) hus) (fun h k z => z.ts (ts_but h k)) (fun v x H' hx s hv Q' hq => ?_) (fun v x H' D' hx hf s hv hD Q' hq => ?_) fun G gs H2 s2 nG eG hG => ?_
      · exact Sure.neD (p := x = R.nm) ⟨nm_inj, fun z => by rw [z]⟩ (.var rfl) (Ev.ixT (i := 1) (.var rfl) .con (s _ _ hpa1) rfl) (dp_nm hv) (dp_nm (hnv.ts (Same.ts (same_trans s1 s)))) (solid_nm x) (solid_nm _) (by rw [nm_depth]; decide) Q' hq
      · exact ⟨_, rfl, hq v H' same_refl hv⟩
      rw [List.map_id] at hG
      refine ⟨G, gs, Nm, _, nmD, NmAt H2, rfl, SqL.of eG, hG, fun v x h => dp_nm h, PySem.W.AllAlike.of alike_nm, PySem.W.Sortable.tuples fun x => ⟨_, _, rfl⟩, fun x _ => by rw [nm_depth]; decide, fun ys u ey nu => ?_⟩
      have s12 := same_trans s1 s2
      exact q _ u ys _ (same_trans s12 (same_new nu)) (same_none s12 nu) upd_same (each_nm (Same.ts (same_new nu)) ey) (List.mergeSort_perm _ _)
end
end K20
namespace K20
open PySem PySem.Spec PyProof.Rows L2 TL TR QR
open GxR (TabB TabG Tabbed)
open PySem.W (EachIs)
open GX (dNO KeysAt)
abbrev sAB : Stmt := topS 18
abbrev nAB : List Str := ["row", "found", "patch", "rows", "name", "one"]
theorem scAB : FnScope nAB ["row"] (defScope sAB) := ⟨rfl, rfl, rfl, by decide +kernel, rfl, by decide +kernel, by decide +kernel⟩
theorem nd_len {α : Type} [DecidableEq α] : ∀ {l m : List α}, l.Nodup → (∀ x ∈ l, x ∈ m) → l.length ≤ m.length
  | [], _, _, _ => Nat.zero_le _
  | x :: l, m, nd, h => by
    rw [List.nodup_cons] at nd
    have hx := h x List.mem_cons_self
    have := nd_len (l := l) (m := m.erase x) nd.2 fun y hy => (List.mem_erase_of_ne fun z => nd.1 (by rw [← z]; exact hy)).mpr (h y (List.mem_cons_of_mem _ hy))
    rw [List.length_erase_of_mem hx] at this
    have := List.length_pos_of_mem hx
    rw [List.length_cons]
    omega
/-- names with the names below them -/
structure BwAt (P : Program) (w : World) (N : Addr → Prop) (H : Hp) (D : Addr) (es : List (Nm × Addr × V)) (g : Nm → List Nm) : Prop where
  rd : H D = some (dNO ktN P w D es)
  ky : ∀ e ∈ es, NmAt H (.ref e.2.1) e.1
  vl : ∀ e ∈ es, NsAt N H e.2.2 (g e.1)
theorem BwAt.keys {P : Program} {w : World} {K : PySem.W.Frag} {N : Addr → Prop} {H : Hp} {D : Addr} {es : List (Nm × Addr × V)} {g : Nm → List Nm} (h : BwAt P w N H D es g) : KeysAt ktN K H es := fun e he => dp_nm (h.ky e he)
theorem BwAt.lf {P : Program} {w : World} {N : Addr → Prop} {H H' : Hp} {D : Addr} {es : List (Nm × Addr × V)} {g : Nm → List Nm} (s : LF N H H') (hD : H' D = H D) (h : BwAt P w N H D es g) : BwAt P w N H' D es g :=
  ⟨hD.trans h.rd, fun e he => (h.ky e he).ts s.ts, fun e he => (h.vl e he).lf s⟩
theorem BwAt.same {P : Program} {w : World} {N : Addr → Prop} {H H' : Hp} {D : Addr} {es : List (Nm × Addr × V)} {g : Nm → List Nm} (s : Same H H') (h : BwAt P w N H D es g) : BwAt P w N H' D es g :=
  h.lf (Same.lf s) (by rw [h.rd]; exact s _ _ h.rd)
/-- what is below, along the patches -/
structure BwOk (Ps : List Pat) (g : Nm → List Nm) : Prop where
  nd : ∀ R ∈ Ps, (g R.nm).Nodup
  iff : ∀ R ∈ Ps, ∀ n, n ∈ g R.nm ↔ n = R.nm ∨ ∃ m ∈ needsL R, n ∈ g m
  sub : ∀ R ∈ Ps, ∀ n ∈ g R.nm, n ∈ Ps.map (·.nm)
theorem ChN.names {ids ns : List Nm} (sub : ∀ n ∈ ids, n ∈ ns) {ch : Chg} (h : ChN ids ns ch) : ∀ n ∈ namesC ch, n ∈ ns := by
  intro n hn
  cases ch with
  | add ps => cases hn
  | back m =>
    rw [List.mem_singleton.mp hn]
    exact sub _ h
  | drop f xs =>
    rcases List.mem_cons.mp hn with rfl | hn
    · exact h.1
    · obtain ⟨x, hx, rfl⟩ := List.mem_map.mp hn
      exact h.2.1 x hx
  | move f ps xs =>
    rcases List.mem_cons.mp hn with rfl | hn
    · exact h.1
    · obtain ⟨x, hx, rfl⟩ := List.mem_map.mp hn
      exact h.2.1.1 x hx
  | cut f xs =>
    rcases List.mem_cons.mp hn with rfl | hn
    · exact h.1
    · obtain ⟨x, hx, rfl⟩ := List.mem_map.mp hn
      exact h.2.1 x hx
  | order f a b =>
    simp only [namesC, List.mem_cons, List.not_mem_nil, or_false] at hn
    rcases hn with rfl | rfl | rfl
    · exact h.1
    · exact h.2.1
    · exact h.2.2
  | lines f xs ys ts =>
    rcases List.mem_cons.mp hn with rfl | hn
    · exact h.1
    · rcases List.mem_append.mp hn with hn | hn
      · obtain ⟨x, hx, rfl⟩ := List.mem_map.mp hn
        exact h.2.1.1 x hx
      · obtain ⟨x, hx, rfl⟩ := List.mem_map.mp hn
        exact h.2.2.1.1 x hx
theorem ChN.sm {ids ns : List Nm} {ch : Chg} (h : ChN ids ns ch) : SmC ch := by
  cases ch with
  | drop f xs => exact Nat.le_trans h.2.2 (by decide)
  | move f ps xs => exact Nat.le_trans h.2.1.2 (by decide)
  | cut f xs => exact h.2.2
  | lines f xs ys ts => exact ⟨Nat.le_trans h.2.1.2 (by decide), Nat.le_trans h.2.2.1.2 (by decide)⟩
  | _ => trivial
/-- needs are names of patches that came before -/
theorem PsOk.needs {l : Lab} {Ps : List Pat} (h : PsOk l Ps) {i : Nat} {R : Pat} (e : Ps[i]? = some R) : ∀ n ∈ needsL R, n ∈ (Ps.take i).map (·.nm) := by
  intro n hn
  obtain ⟨h1, h2⟩ := List.mem_filter.mp hn
  obtain ⟨ch, hc, hn2⟩ := List.mem_flatMap.mp h1
  have := (h.ch i R e ch hc).names (fun _ z => List.mem_append_left _ z) n hn2
  rcases List.mem_append.mp this with z | z
  · exact z
  · exact absurd (List.mem_singleton.mp z) (of_decide_eq_true h2)
section
variable {P : Program} {w : World} {K : PySem.W.Frag} {mg : Str → Option Value} {base : Heap} {H : Hp} {v : V} {Q : VK} {E : XK} {Ts : List Addr}
def spAB (P : Program) (w : World) : Sp := fun vs H Q _ => ∃ (rv : Addr) (rw : List V) (Ps : List Pat) (l : Lab) (N : Addr → Prop), vs = [.ref rv] ∧ H rv = some (.lst rw) ∧ EachIs (PatAt N H) rw Ps ∧ PsOk l Ps ∧ Ps.length ≤ 20 ∧
  ∀ H' D es g, Same H H' → H D = none → BwAt P w (fun a => H a = none) H' D es g → es.map (·.1) = Ps.map (·.nm) → BwOk Ps g → Q (.ref D) H'
theorem ok_AB {f fNE : Addr} {fd fdNE : FuncData} (F : Fun K "_law_all_below" "_law_all_below" sAB f fd)
    (GNE : FnOk P w K mg base CX0 1 fNE fdNE ["patch"] spNE) (bNE : Binds K fdNE ["patch"] []) (gNE : mg "_law_needs" = some (.ref fNE)) (kNE : PySem.W.keepIn K (.ref fNE) = true) : FnOk P w K mg base CX0 2 f fd ["row"] (spAB P w) := by
  refine F.ok scAB (fun vs H Q E h => ?_) (fun cdv A outer s H vs Q E hr h => ?_)
  · obtain ⟨rv, rw, Ps, l, N, rfl, _⟩ := h
    rfl
  · obtain ⟨rv, rw, Ps, l, N, rfl, hrv, hrw, ok, l20, q⟩ := h
    have hu := hr.units
    have hu1 := hu_of hr
    have hr1 : Room 1 _ := hr.mono (by decide)
    have zl := zl
    refine ⟨_, (pss_cons (ps_set (i := 1) scAB.nd rfl (.inl rfl) ((GX.pe_dnewN (T := ktN))))
      (pss_cons (ps_for PassesOwn.never rfl (pi_list (pv 0)) (pg_name (i := 2) scAB.nd rfl (.inl rfl))
      (pss_cons (ps_set (i := 3) scAB.nd rfl (.inr rfl) (pe_lst (pa_cons (pe_ix ix_tup (pv 2) (pe_int) (fun _ _ => rfl)) pa_nil)))
      (pss_cons (ps_for PassesOwn.never rfl (pi_list (pe_call GNE hr1 (by rfl) gNE kNE bNE .nil pass0 (pa_cons (pv 2) pa_nil))) (pg_name (i := 4) scAB.nd rfl (.inl rfl))
      (pss_one (ps_set (i := 3) scAB.nd rfl (.inr rfl) (pe_op op_cat (pv 3) (pe_lc (own := [("one", 5)]) (g := gName 5) (tt := tTest (tOp (GX.rNotInP K) (tVar 5) (tVar 3))) (te := tVar 5) rfl scAB.nd (pi_list (pe_ix (GX.ix_N (T := ktN) hu) (pv 1) (pv 4) (fun _ _ => rfl))) (blkOk_by (N := nAB) (sc := defScope sAB) (by decide +kernel)) (fun _ _ _ _ _ => by exact pg_name (i := 5) scAB.nd rfl (.inl rfl)) (fun _ _ _ _ _ => by exact pts_one (pt_cmpR (GX.op_notInP hu) (pv 5) (pv 3) (by rfl))) (fun _ _ _ _ _ => by exact pv 5))))))
      (pss_one (ps_asg (pv 3) (pg_sub (pv 1) (pe_ix ix_tup (pv 2) (pe_int) (fun _ _ => rfl)) (GX.set_N (T := ktN) hu)))))))
      (pss_one (ps_ret (pv 1))))), ?_⟩
    dsimp only [cxOf, Cx.nox]
    refine fun D nD => name_to ?_
    dsimp only
    have sD := same_new (o := dNO ktN P w D []) nD
    have lrw := hrw.length
    refine ⟨_, rfl, rv, rfl, ⟨rw, SqL.of (sD _ _ hrv)⟩, ?_⟩
    refine for_list (xs := rw) (fun i σ H' => ∃ (y2 y3 y4 y5 : Option V) (es : List (Nm × Addr × V)) (g : Nm → List Nm), σ = [some (.ref rv), some (.ref D), y2, y3, y4, y5] ∧ Same H H' ∧ BwAt P w (fun a => H a = none) H' D es g ∧ es.map (·.1) = (Ps.take i).map (·.nm) ∧ BwOk (Ps.take i) g)
      ⟨none, none, none, none, [], fun _ => [], rfl, sD, ⟨upd_same, (fun _ h => nomatch h), (fun _ h => nomatch h)⟩, rfl, ⟨(fun _ h => nomatch h), (fun _ h => nomatch h), (fun _ h => nomatch h)⟩⟩ (fun i σ H' _ ⟨_, _, _, _, _, _, _, s, _⟩ => SqL.of (s _ _ hrv)) ?_ ?_
    · rintro i x σ H1 hx ⟨y2, y3, y4, y5, es, g, rfl, s1, b1, hes, okB⟩
      obtain ⟨R, hR, hx0⟩ := each_at hrw hx
      have hi := (List.getElem?_eq_some_iff.mp hR).1
      have hRm := List.mem_of_getElem? hR
      have et : Ps.take (i + 1) = Ps.take i ++ [R] := by rw [List.take_add_one, hR]; rfl
      have lti : (Ps.take i).length ≤ 20 := by rw [List.length_take]; omega
      obtain ⟨pa, nv, ca, cs, rfl, hpa, hnv, hrest⟩ := hx0
      have hx0 : PatAt N H (.ref pa) R := ⟨pa, nv, ca, cs, rfl, hpa, hnv, hrest⟩
      refine name_to ?_
      refine Ev.ixT (i := 1) (.var rfl) .con (s1 _ _ hpa) rfl _ ⟨by show 1 ≤ sizeLine; omega, fun r nr => name_to ?_⟩
      have sr := same_new (o := .lst [nv]) nr
      have er : upd H1 r (.lst [nv]) r = some (.lst [nv]) := upd_same
      have s2 := same_trans s1 sr
      have b2 := b1.same sr
      have nr0 := same_none s1 nr
      generalize upd H1 r (.lst [nv]) = H2 at *
      dsimp only
      refine ⟨_, rfl, .ref pa, R, N, rfl, hx0.lf (Same.lf s2), ok.hi R hRm, fun c hc => (ok.ch i R hR c hc).sm, fun H3 G gs ys s3 nG eG hys pys => ⟨G, rfl, ⟨gs, SqL.of eG⟩, ?_⟩⟩
      have s13 := same_trans s2 s3
      have b3 := b2.same s3
      have lgs := hys.length
      have ysub : ∀ n ∈ ys, n ∈ (Ps.take i).map (·.nm) := fun n hn => ok.needs hR n (pys.mem_iff.mp hn)
      have keyg : ∀ n ∈ (Ps.take i).map (·.nm), ∀ m ∈ g n, m ∈ (Ps.take i).map (·.nm) := fun n hn m hm => by
        obtain ⟨R', hR', rfl⟩ := List.mem_map.mp hn
        exact okB.sub R' hR' m hm
      refine for_list (xs := gs) (fun j σ H' => ∃ (y4 y5 : Option V) (r : Addr) (rs : List V) (ns : List Nm), σ = [some (.ref rv), some (.ref D), some (.ref pa), some (.ref r), y4, y5] ∧ Same H3 H' ∧ H r = none ∧ H' r = some (.lst rs) ∧ EachIs (NmAt H') rs ns ∧ ns.Nodup ∧ (∀ n, n ∈ ns ↔ n = R.nm ∨ ∃ m ∈ ys.take j, n ∈ g m))
        ⟨y4, y5, r, [nv], [R.nm], rfl, same_refl, nr0, s3 _ _ er, .cons (hnv.ts (Same.ts s13)) .nil, by simp, fun n => by simp⟩ (fun j σ H' _ ⟨_, _, _, _, _, _, s, _⟩ => SqL.of (s _ _ eG)) ?_ ?_
      · rintro j x σ H4 hx ⟨y4, y5, r, rs, ns, rfl, s4, nr0, er, hrs, nd, hns⟩
        obtain ⟨m, hm, hxm⟩ := each_at hys hx
        have hm' := ysub m (List.mem_of_getElem? hm)
        obtain ⟨ma, mlv, rfl, hma, hml⟩ := hxm
        have hxm : NmAt H3 (.ref ma) m := ⟨ma, mlv, rfl, hma, hml⟩
        have s34 := same_trans s13 s4
        have b4 := b3.same s4
        have nsub : ∀ n ∈ ns, n ∈ R.nm :: (Ps.take i).map (·.nm) := fun n hn => by
          rcases (hns n).mp hn with rfl | ⟨m', h1, h2⟩
          · exact List.mem_cons_self
          · exact List.mem_cons_of_mem _ (keyg m' (ysub m' (List.mem_of_mem_take h1)) n h2)
        have lns := nd_len nd nsub
        rw [List.length_cons, List.length_map] at lns
        have lrs := hrs.length
        obtain ⟨e, hfind, he, hek⟩ := find_of (es := es) (k := m) (by rw [hes]; exact hm')
        obtain ⟨va, vw, eva, nva, hva, hvw⟩ := b4.vl e he
        rw [hek] at hvw
        obtain ⟨Rm, hRm', eRm⟩ := List.mem_map.mp hm'
        have ndg : (g m).Nodup := by rw [← eRm]; exact okB.nd Rm hRm'
        have lg := nd_len ndg (keyg m hm')
        rw [List.length_map] at lg
        have lvw := hvw.length
        refine name_to ?_
        refine ⟨_, rfl, ?_⟩
        have evl := Ev.ixN (σ := [some (.ref rv), some (.ref D), some (.ref pa), some (.ref r), some (.ref ma), y5]) (ta := tVar 1) (tb := tVar 4) (.var rfl) (.var rfl) b4.rd b4.keys (dp_nm (K := K) (hxm.ts (Same.ts s4))) hfind
        rw [eva] at evl
        refine lc_gen (R := NmAt) (S := fun _ => NmAt) (fun n => decide (¬ n ∈ ns)) id evl hva (by omega) (fun H' s => each_nm (Same.ts s) hvw) (fun h k z => z.ts (ts_but h k)) (fun v x H' hx s hv Q' hq => ?_) (fun v x H' D' hx hf s hv hD Q' hq => ?_) fun G2 g2 H5 s5 nG2 eG2 hG2 => ?_
        · exact Sure.notInD (p := x ∈ ns) (any_nm x ns) (.var rfl) (.var rfl) (dp_nm hv) (.lst (SqL.of (s _ _ er)) (dp_each (fun _ _ h => dp_nm h) (each_nm (Same.ts s) hrs))) (solid_nms ns) (solid_nm x) (by rw [nm_depth]; decide) Q' hq
        · exact ⟨_, rfl, hq v H' same_refl hv⟩
        rw [List.map_id] at hG2
        have lg2 := hG2.length
        have lfl : ((g m).filter fun n => decide (¬ n ∈ ns)).length ≤ (g m).length := List.length_filter_le _ _
        refine ⟨r, G2, rs, g2, rfl, rfl, s5 _ _ er, eG2, by omega, fun p np => ?_⟩
        have s6 := same_new (o := .lst (rs ++ g2)) np
        have s56 := same_trans s5 s6
        refine ⟨_, _, p, rs ++ g2, ns ++ (g m).filter fun n => decide (¬ n ∈ ns), rfl, same_trans s4 s56, same_none s34 (same_none s5 np), upd_same, each_app (each_nm (Same.ts s56) hrs) (each_nm (Same.ts s6) hG2), ?_, fun n => ?_⟩
        · refine List.nodup_append.mpr ⟨nd, ndg.filter _, fun a ha b hb z => ?_⟩
          have := of_decide_eq_true (List.mem_filter.mp hb).2
          exact this (z ▸ ha)
        · have etj : ys.take (j + 1) = ys.take j ++ [m] := by rw [List.take_add_one, hm]; rfl
          rw [etj]
          constructor
          · intro h
            rcases List.mem_append.mp h with h | h
            · rcases (hns n).mp h with h | ⟨m', h1, h2⟩
              · exact .inl h
              · exact .inr ⟨m', List.mem_append_left _ h1, h2⟩
            · exact .inr ⟨m, List.mem_append_right _ List.mem_cons_self, (List.mem_filter.mp h).1⟩
          · intro h
            by_cases hn : n ∈ ns
            · exact List.mem_append_left _ hn
            · rcases h with h | ⟨m', h1, h2⟩
              · exact absurd ((hns n).mpr (.inl h)) hn
              · rcases List.mem_append.mp h1 with h1 | h1
                · exact absurd ((hns n).mpr (.inr ⟨m', h1, h2⟩)) hn
                · rw [List.mem_singleton.mp h1] at h2
                  exact List.mem_append_right _ (List.mem_filter.mpr ⟨h2, decide_eq_true hn⟩)
      · rintro σ H4 ⟨y4, y5, r, rs, ns, rfl, s4, nr0, er4, hrs, nd, hns⟩
        rw [show gs.length = ys.length from lgs, List.take_length] at hns
        dsimp only
        have s14 := same_trans s13 s4
        have b4 := b3.same s4
        have hfr : R.nm ∉ (Ps.take i).map (·.nm) := fun z => by
          have nd2 : ((Ps.take (i + 1)).map (·.nm)).Nodup := List.Pairwise.sublist ((List.take_sublist (i + 1) Ps).map _) ok.nd
          rw [et, List.map_append, List.nodup_append] at nd2
          exact nd2.2.2 _ z _ List.mem_cons_self rfl
        have nin : ∀ R' ∈ Ps.take i, ∀ m ∈ needsL R', m ∈ (Ps.take i).map (·.nm) := fun R' hR' m hm => by
          obtain ⟨k, hk⟩ := List.mem_iff_getElem?.mp hR'
          have hki : k < i := by
            have := (List.getElem?_eq_some_iff.mp hk).1
            rw [List.length_take] at this
            omega
          rw [List.getElem?_take_of_lt hki] at hk
          obtain ⟨T, hT, e⟩ := List.mem_map.mp (ok.needs hk m hm)
          have : T ∈ Ps.take i := by
            have e2 : Ps.take k = (Ps.take i).take k := by rw [List.take_take, Nat.min_eq_left (by omega)]
            rw [e2] at hT
            exact List.mem_of_mem_take hT
          exact List.mem_map.mpr ⟨T, this, e⟩
        have hnv0 := hnv
        obtain ⟨na, lv, rfl, hna, hlv⟩ := hnv
        have hk4 := hnv0.ts (Same.ts s14)
        refine ⟨_, rfl, _, rfl, ?_⟩
        have lkb : es.length < sizeLine := by
          have := congrArg List.length hes
          rw [List.length_map, List.length_map] at this
          omega
        refine Ev.ixT (i := 1) (.var rfl) .con (s14 _ _ hpa) rfl _ ⟨D, na, es, R.nm, rfl, rfl, b4.rd, b4.keys, dp_nm hk4, lkb, ?_⟩
        have lf : LF (fun a => H a = none) H4 (upd H4 D (dNO ktN P w D (GX.dSt es R.nm na (.ref r)))) := lf_updD b4.rd (fun _ z => by cases z) (fun _ z => by cases z)
        have gne : ∀ n ∈ (Ps.take i).map (·.nm), n ≠ R.nm := fun n hn z => hfr (z ▸ hn)
        refine ⟨_, _, _, _, GX.dSt es R.nm na (.ref r), fun n => if n = R.nm then ns else g n, rfl, fun b o e => by rw [upd_ne (ne_of_none e nD)]; exact s14 b o e, ⟨upd_same, fun e he => ?_, fun e he => ?_⟩, ?_, ⟨fun R' hR' => ?_, fun R' hR' n => ?_, fun R' hR' n hn => ?_⟩⟩
        · rcases dst_mem he with ⟨e1, _, e3 | ⟨x, hx, e4, _⟩⟩ | ⟨hx, _⟩
          · rw [e1, e3]
            exact hk4.ts lf.ts
          · exact absurd (List.mem_map.mpr ⟨x, hx, e4⟩) (by rw [hes]; exact hfr)
          · exact (b4.ky e hx).ts lf.ts
        · rcases dst_mem he with ⟨e1, e2, _⟩ | ⟨hx, hne⟩
          · rw [if_pos e1, e2]
            exact ⟨r, rs, rfl, nr0, lf.ls _ _ nr0 er4, each_nm lf.ts hrs⟩
          · rw [if_neg hne]
            exact (b4.vl e hx).lf lf
        · rw [dst_add, hes, et, List.map_append]
          exact if_neg hfr
        · rw [et] at hR'
          rcases List.mem_append.mp hR' with z | z
          · rw [if_neg (gne _ (List.mem_map.mpr ⟨R', z, rfl⟩))]
            exact okB.nd R' z
          · rw [List.mem_singleton.mp z, if_pos rfl]
            exact nd
        · rw [et] at hR'
          rcases List.mem_append.mp hR' with z | z
          · rw [if_neg (gne _ (List.mem_map.mpr ⟨R', z, rfl⟩)), okB.iff R' z n]
            refine ⟨fun h => h.imp id fun ⟨m, h1, h2⟩ => ⟨m, h1, by rw [if_neg (gne _ (nin R' z m h1))]; exact h2⟩, fun h => h.imp id fun ⟨m, h1, h2⟩ => ⟨m, h1, by rw [if_neg (gne _ (nin R' z m h1))] at h2; exact h2⟩⟩
          · rw [List.mem_singleton.mp z, if_pos rfl, hns n]
            refine ⟨fun h => h.imp id fun ⟨m, h1, h2⟩ => ⟨m, pys.mem_iff.mp h1, by rw [if_neg (gne _ (ysub m h1))]; exact h2⟩, fun h => h.imp id fun ⟨m, h1, h2⟩ => ⟨m, pys.mem_iff.mpr h1, by rw [if_neg (gne _ (ysub m (pys.mem_iff.mpr h1)))] at h2; exact h2⟩⟩
        · rw [et] at hR' ⊢
          rw [List.map_append]
          rcases List.mem_append.mp hR' with z | z
          · rw [if_neg (gne _ (List.mem_map.mpr ⟨R', z, rfl⟩))] at hn
            exact List.mem_append_left _ (okB.sub R' z n hn)
          · rw [List.mem_singleton.mp z, if_pos rfl] at hn
            rcases (hns n).mp hn with rfl | ⟨m, h1, h2⟩
            · exact List.mem_append_right _ List.mem_cons_self
            · exact List.mem_append_left _ (keyg m (ysub m h1) n h2)
    · rintro σ H1 ⟨y2, y3, y4, y5, es, g, rfl, s1, b1, hes, okB⟩
      rw [show rw.length = Ps.length from lrw, List.take_length] at hes okB
      exact ⟨_, rfl, q _ D es g s1 nD b1 hes okB⟩
end
end K20
namespace K20
open PySem PySem.Spec PyProof.Rows L2 TL TR QR
open GxR (TabB TabG Tabbed)
open PySem.W (EachIs)
open GX (dNO KeysAt)
abbrev sBT : Stmt := topS 19
abbrev nBT : List Str := ["state", "row", "most", "below", "ids", "good", "name", "patch", "one"]
theorem scBT : FnScope nBT ["state", "row", "most"] (defScope sBT) := ⟨rfl, rfl, rfl, by decide +kernel, rfl, by decide +kernel, by decide +kernel⟩
/-- names in their order -/
def srtN (l : List Nm) : List Nm := l.mergeSort (PySem.W.dataLe false nmD)
theorem BwOk.at {Ps : List Pat} {l : Lab} {g : Nm → List Nm} (ok : PsOk l Ps) (h : BwOk Ps g) : ∀ (k i : Nat) (R : Pat), i < k → Ps[i]? = some R → ∀ n ∈ g R.nm, ∀ m ∈ g n, m ∈ g R.nm := by
  intro k
  induction k with
  | zero => intro i R hi; omega
  | succ k ih =>
    intro i R hi hR n hn m hm
    have hRm := List.mem_of_getElem? hR
    rcases (h.iff R hRm n).mp hn with rfl | ⟨q, h1, h2⟩
    · exact hm
    · obtain ⟨T, hT, e⟩ := List.mem_map.mp (ok.needs hR q h1)
      obtain ⟨j, hj⟩ := List.mem_iff_getElem?.mp hT
      have hji : j < i := by
        have := (List.getElem?_eq_some_iff.mp hj).1
        rw [List.length_take] at this
        omega
      rw [List.getElem?_take_of_lt hji] at hj
      have := ih j T (by omega) hj n (by rw [e]; exact h2) m hm
      rw [e] at this
      exact (h.iff R hRm m).mpr (.inr ⟨q, h1, this⟩)
/-- good names: of these patches, each once, with all below -/
structure GoodN (Ps : List Pat) (g : Nm → List Nm) (gs : List Nm) : Prop where
  nd : gs.Nodup
  sub : ∀ n ∈ gs, n ∈ Ps.map (·.nm)
  cl : ∀ n ∈ gs, ∀ m ∈ g n, m ∈ gs
theorem GoodN.nil {Ps : List Pat} {g : Nm → List Nm} : GoodN Ps g [] := ⟨List.nodup_nil, (fun _ h => nomatch h), (fun _ h => nomatch h)⟩
theorem GoodN.more {Ps : List Pat} {l : Lab} {g : Nm → List Nm} {gs : List Nm} (ok : PsOk l Ps) (b : BwOk Ps g) (h : GoodN Ps g gs) {R : Pat} (hR : R ∈ Ps) : GoodN Ps g (gs ++ (g R.nm).filter fun n => decide (¬ n ∈ gs)) := by
  obtain ⟨i, hi⟩ := List.mem_iff_getElem?.mp hR
  refine ⟨List.nodup_append.mpr ⟨h.nd, (b.nd R hR).filter _, fun a ha c hc z => of_decide_eq_true (List.mem_filter.mp hc).2 (z ▸ ha)⟩, fun n hn => ?_, fun n hn m hm => ?_⟩
  · rcases List.mem_append.mp hn with z | z
    · exact h.sub n z
    · exact b.sub R hR n (List.mem_filter.mp z).1
  · by_cases hm' : m ∈ gs
    · exact List.mem_append_left _ hm'
    · rcases List.mem_append.mp hn with z | z
      · exact absurd (h.cl n z m hm) hm'
      · exact List.mem_append_right _ (List.mem_filter.mpr ⟨b.at ok (i + 1) i R (Nat.lt_succ_self i) hi n (List.mem_filter.mp z).1 m hm, decide_eq_true hm'⟩)
theorem self_in {Ps : List Pat} {g : Nm → List Nm} (b : BwOk Ps g) {R : Pat} (hR : R ∈ Ps) : R.nm ∈ g R.nm := (b.iff R hR _).mpr (.inl rfl)
section
variable {P : Program} {w : World} {K : PySem.W.Frag} {mg : Str → Option Value} {base : Heap} {H : Hp} {v : V} {Q : VK} {E : XK} {Ts : List Addr}
structure BTI (P : Program) (w : World) (p c D I : Addr) (H0 H : Hp) (es : List (Nm × Addr × V)) (g : Nm → List Nm) (ids : List Nm) (iw : List V) (G : Addr) (gw : List V) (gs : List Nm) : Prop where
  dr : Dr p c H0 H
  bw : BwAt P w (fun a => H0 a = none) H D es g
  eI : H I = some (.lst iw)
  nI : H0 I = none
  hI : EachIs (NmAt H) iw ids
  eG : H G = some (.lst gw)
  nG : H0 G = none
  hG : EachIs (NmAt H) gw gs
section
variable {p c D I G : Addr} {H0 H' : Hp} {es : List (Nm × Addr × V)} {g : Nm → List Nm} {ids gs : List Nm} {iw gw : List V}
theorem BTI.lf (b : BTI P w p c D I H0 H es g ids iw G gw gs) (s : LF (fun a => H0 a = none) H H') (d : Dr p c H0 H') (hD : H' D = H D) : BTI P w p c D I H0 H' es g ids iw G gw gs :=
  ⟨d, b.bw.lf s hD, s.ls _ _ b.nI b.eI, b.nI, each_nm s.ts b.hI, s.ls _ _ b.nG b.eG, b.nG, each_nm s.ts b.hG⟩
theorem BTI.same (b : BTI P w p c D I H0 H es g ids iw G gw gs) (s : Same H H') : BTI P w p c D I H0 H' es g ids iw G gw gs :=
  b.lf (Same.lf s) (b.dr.same s) (by rw [b.bw.rd]; exact s _ _ b.bw.rd)
theorem BTI.draw (st : StateAt H0 p c) (nD : H0 D = none) (b : BTI P w p c D I H0 H es g ids iw G gw gs) (d : Dr p c H H') : BTI P w p c D I H0 H' es g ids iw G gw gs :=
  b.lf (dr_lf0 st b.dr.st d) (b.dr.trans d) (by rw [b.bw.rd]; exact d.ou _ _ (st.new nD).1 (st.new nD).2 b.bw.rd)
theorem grow {D' : Ends} {na rv : Addr} {m : Int} {y7 y8 : Option V} {nm : Nm} (b : BTI P w p c D I H0 H es g ids iw G gw gs) (hes : es.map (·.1) = ids) (hin : nm ∈ ids) (hn : NmAt H (.ref na) nm) (l1 : (g nm).length ≤ 30) (l2 : gs.length ≤ 30)
    (q : ∀ G' gw' Hx, BTI P w p c D I H0 Hx es g ids iw G' gw' (gs ++ (g nm).filter fun n => decide (¬ n ∈ gs)) → D'.nx [some (.ref p), some (.ref rv), some (.int m), some (.ref D), some (.ref I), some (.ref G'), some (.ref na), y7, y8] Hx) :
    tAsg (tOp rCat (tVar 5) (tLc (iList K (tOp (GX.rIxN ktN P w K) (tVar 3) (tVar 6))) (gName 8) (tTest (tOp (GX.rNotInP K) (tVar 8) (tVar 5))) (tVar 8) [8])) (gName 5) D' [some (.ref p), some (.ref rv), some (.int m), some (.ref D), some (.ref I), some (.ref G), some (.ref na), y7, y8] H := by
  have zl := zl
  obtain ⟨e, hfind, he, hek⟩ := find_of (es := es) (k := nm) (by rw [hes]; exact hin)
  obtain ⟨va, vw, eva, nva, hva, hvw⟩ := b.bw.vl e he
  rw [hek] at hvw
  have lvw := hvw.length
  have lgw := b.hG.length
  have evl := Ev.ixN (K := K) (σ := [some (.ref p), some (.ref rv), some (.int m), some (.ref D), some (.ref I), some (.ref G), some (.ref na), y7, y8]) (ta := tVar 3) (tb := tVar 6) (.var rfl) (.var rfl) b.bw.rd b.bw.keys (dp_nm (K := K) hn) hfind
  rw [eva] at evl
  refine ⟨_, rfl, ?_⟩
  refine lc_gen (R := NmAt) (S := fun _ => NmAt) (fun n => decide (¬ n ∈ gs)) id evl hva (by omega) (fun H' s => each_nm (Same.ts s) hvw) (fun h k z => z.ts (ts_but h k)) (fun v x H' hx s hv Q' hq => ?_) (fun v x H' D' hx hf s hv hD Q' hq => ?_) fun G2 g2 H5 s5 nG2 eG2 hG2 => ?_
  · exact Sure.notInD (p := x ∈ gs) (any_nm x gs) (.var rfl) (.var rfl) (dp_nm hv) (.lst (SqL.of (s _ _ b.eG)) (dp_each (fun _ _ h => dp_nm h) (each_nm (Same.ts s) b.hG))) (solid_nms gs) (solid_nm x) (by rw [nm_depth]; decide) Q' hq
  · exact ⟨_, rfl, hq v H' same_refl hv⟩
  rw [List.map_id] at hG2
  have lg2 := hG2.length
  have lfl : ((g nm).filter fun n => decide (¬ n ∈ gs)).length ≤ (g nm).length := List.length_filter_le _ _
  refine ⟨G, G2, gw, g2, rfl, rfl, s5 _ _ b.eG, eG2, by omega, fun r nr => ?_⟩
  have s6 := same_new (o := .lst (gw ++ g2)) nr
  have b6 := b.same (same_trans s5 s6)
  exact q r _ _ ⟨b6.dr, b6.bw, b6.eI, b6.nI, b6.hI, upd_same, b.dr.none (same_none s5 nr), each_app b6.hG (each_nm (Same.ts s6) hG2)⟩
end
theorem len_front {rel : List V → Hp → VK → Prop} {r : R2} {tl tb : TE} {a b : L2.TS} {D : Ends} {σ : L2.St} {H : Hp}
    (h : tl σ H fun v H1 => rel [v] H1 fun x H2 => tb σ H2 fun y H3 => r x y H3 fun z H4 => ∃ k, z = .bl k ∧ if k = true then a D σ H4 else b D σ H4) : tIfS (tTest (tOp r (tCB rel (tCons tl tNil)) tb)) a b D σ H := h
theorem ret_tup2 {rel : List V → Hp → VK → Prop} {ta tl : TE} {D : Ends} {σ : L2.St} {H : Hp}
    (h : ta σ H fun va H1 => tl σ H1 fun v H2 => rel [v] H2 fun x H3 => [va, x].length ≤ sizeLine ∧ ∀ p, H3 p = none → D.rt (.ref p) (upd H3 p (.tup [va, x]))) : tRet (tTup (tCons ta (tCons (tCB rel (tCons tl tNil)) tNil))) D σ H := h
def spBT (P : Program) (w : World) : Sp := fun vs H Q _ => ∃ (p c rv : Addr) (rw : List V) (Ps : List Pat) (l : Lab) (N : Addr → Prop) (m : Nat), vs = [.ref p, .ref rv, .int (m : Int)] ∧ StateAt H p c ∧ rv ≠ p ∧ rv ≠ c ∧ (∀ a, N a → a ≠ p ∧ a ≠ c) ∧ H rv = some (.lst rw) ∧ EachIs (PatAt N H) rw Ps ∧ PsOk l Ps ∧ Ps.length ≤ 20 ∧
  ∀ H' t gv fv g gs, Dr p c H H' → H' t = some (.tup [gv, fv]) → NsAt (fun a => H a = none) H' gv gs → NsAt (fun a => H a = none) H' fv (srtN ((Ps.map (·.nm)).filter fun n => decide (¬ n ∈ gs))) → BwOk Ps g → GoodN Ps g gs → ((Ps.map (·.nm)).filter fun n => decide (¬ n ∈ gs)).length ≤ m → Q (.ref t) H'
theorem ok_BT {f fAB fD : Addr} {fd fdAB fdD : FuncData} (F : Fun K "_law_between" "_law_between" sBT f fd)
    (GAB : FnOk P w K mg base CX0 2 fAB fdAB ["row"] (spAB P w)) (bAB : Binds K fdAB ["row"] []) (gAB : mg "_law_all_below" = some (.ref fAB)) (kAB : PySem.W.keepIn K (.ref fAB) = true)
    (GD : FnOk P w K mg base CX0 1 fD fdD ["state", "many"] spDraw) (bD : Binds K fdD ["state", "many"] []) (gD : mg "_law_draw" = some (.ref fD)) (kD : PySem.W.keepIn K (.ref fD) = true)
    (m_len : mg "len" = none) (m_sorted : mg "sorted" = none) : FnOk P w K mg base CX0 3 f fd ["state", "row", "most"] (spBT P w) := by
  refine F.ok scBT (fun vs H Q E h => ?_) (fun cdv A outer s H vs Q E hr h => ?_)
  · obtain ⟨p, c, rv, rw, Ps, l, N, m, rfl, _⟩ := h
    rfl
  · obtain ⟨p, c, rv, rw, Ps, l, N, m, rfl, st, nrp, nrc, hN, hrv, hrw, ok, l20, q⟩ := h
    have hu := hr.units
    have hu1 := hu_of hr
    have hr1 : Room 1 _ := hr.mono (by decide)
    have hr2 : Room 2 _ := hr.mono (by decide)
    have zl := zl
    refine ⟨_, (pss_cons (ps_set (i := 3) scBT.nd rfl (.inl rfl) (pe_call GAB hr2 (by rfl) gAB kAB bAB .nil pass0 (pa_cons (pv 1) pa_nil)))
      (pss_cons (ps_setLc (i := 4) (own := [("patch", 7)]) (g := gName 7) (tt := tYes) (te := tOp (rIxT K) (tVar 7) (tC (.int 1))) rfl scBT.nd rfl rfl (sw_true rfl rfl rfl (by decide +kernel)) (pi_list (pv 1)) (blkOk_by (N := nBT) (sc := defScope sBT) (by decide +kernel)) (fun _ _ _ _ _ => by exact pg_name (i := 7) scBT.nd rfl (.inl rfl)) (fun _ _ _ _ _ => pts_nil) (fun _ _ _ _ _ => by exact pe_ix ix_tup (pv 7) (pe_int) (fun _ _ => rfl)))
      (pss_cons (ps_set (i := 5) scBT.nd rfl (.inr rfl) (pe_lst (pa_nil)))
      (pss_cons (ps_for PassesOwn.never rfl (pi_list (pv 4)) (pg_name (i := 6) scBT.nd rfl (.inl rfl))
      (pss_one (ps_if (pt_cmpR op_eq (pe_call GD hr1 (by rfl) gD kD bD .nil pass0 (pa_cons (pv 0) (pa_cons (pe_int) pa_nil))) (pe_int) (nomark _))
      (pss_one (ps_set (i := 5) scBT.nd rfl (.inr rfl) (pe_op op_cat (pv 5) (pe_lc (own := [("one", 8)]) (g := gName 8) (tt := tTest (tOp (GX.rNotInP K) (tVar 8) (tVar 5))) (te := tVar 8) rfl scBT.nd (pi_list (pe_ix (GX.ix_N (T := ktN) hu) (pv 3) (pv 6) (fun _ _ => rfl))) (blkOk_by (N := nBT) (sc := defScope sBT) (by decide +kernel)) (fun _ _ _ _ _ => by exact pg_name (i := 8) scBT.nd rfl (.inl rfl)) (fun _ _ _ _ _ => by exact pts_one (pt_cmpR (GX.op_notInP hu) (pv 8) (pv 5) (by rfl))) (fun _ _ _ _ _ => by exact pv 8))))) pss_nil)))
      (pss_cons (ps_for PassesOwn.never rfl (pi_list (pv 4)) (pg_name (i := 6) scBT.nd rfl (.inl rfl))
      (pss_one (ps_if (pt_cmpR op_gt (pe_callB call_len_seq (by rfl) m_len PySem.boot_len (pa_cons (pe_lc (own := [("one", 8)]) (g := gName 8) (tt := tTest (tOp (GX.rNotInP K) (tVar 8) (tVar 5))) (te := tVar 8) rfl scBT.nd (pi_list (pv 4)) (blkOk_by (N := nBT) (sc := defScope sBT) (by decide +kernel)) (fun _ _ _ _ _ => by exact pg_name (i := 8) scBT.nd rfl (.inl rfl)) (fun _ _ _ _ _ => by exact pts_one (pt_cmpR (GX.op_notInP hu) (pv 8) (pv 5) (by rfl))) (fun _ _ _ _ _ => by exact pv 8)) pa_nil)) (pv 2) (nomark _))
      (pss_one (ps_set (i := 5) scBT.nd rfl (.inr rfl) (pe_op op_cat (pv 5) (pe_lc (own := [("one", 8)]) (g := gName 8) (tt := tTest (tOp (GX.rNotInP K) (tVar 8) (tVar 5))) (te := tVar 8) rfl scBT.nd (pi_list (pe_ix (GX.ix_N (T := ktN) hu) (pv 3) (pv 6) (fun _ _ => rfl))) (blkOk_by (N := nBT) (sc := defScope sBT) (by decide +kernel)) (fun _ _ _ _ _ => by exact pg_name (i := 8) scBT.nd rfl (.inl rfl)) (fun _ _ _ _ _ => by exact pts_one (pt_cmpR (GX.op_notInP hu) (pv 8) (pv 5) (by rfl))) (fun _ _ _ _ _ => by exact pv 8))))) pss_nil)))
      (pss_one (ps_ret (pe_tup (pa_cons (pv 5) (pa_cons (pe_callB (GX.cr_sortedD hu) (by rfl) m_sorted (by decide +kernel) (pa_cons (pe_lc (own := [("name", 6)]) (g := gName 6) (tt := tTest (tOp (GX.rNotInP K) (tVar 6) (tVar 5))) (te := tVar 6) rfl scBT.nd (pi_list (pv 4)) (blkOk_by (N := nBT) (sc := defScope sBT) (by decide +kernel)) (fun _ _ _ _ _ => by exact pg_name (i := 6) scBT.nd rfl (.inl rfl)) (fun _ _ _ _ _ => by exact pts_one (pt_cmpR (GX.op_notInP hu) (pv 6) (pv 5) (by rfl))) (fun _ _ _ _ _ => by exact pv 6)) pa_nil)) pa_nil)))))))))), ?_⟩
    dsimp only [cxOf, Cx.nox]
    refine ⟨_, rfl, rv, rw, Ps, l, N, rfl, hrv, hrw, ok, l20, fun H1 D es g s1 nD bw hes bok => name_to ?_⟩
    dsimp only
    refine asg_seq ?_
    refine lc_gen (R := fun H' => PatAt N H') (S := fun _ => NmAt) (fun _ => true) (·.nm) (.var rfl) (s1 _ _ hrv) (by omega) (fun H' s => hrw.mono fun _ _ z => z.lf (Same.lf (same_trans s1 s))) (fun h k z => z.ts (ts_but h k)) (fun v x H' hx s hv Q' hq => hq) (fun v x H' D' hx hf s hv hD Q' hq => ?_) fun I iw H2 s2 nI eI hI => ?_
    · obtain ⟨pa, nv, ca, cs, rfl, h1, hn, _⟩ := hv
      exact Ev.ixT (i := 1) (.var rfl) .con h1 rfl _ (hq _ H' same_refl hn)
    rw [List.filter_eq_self.mpr fun _ _ => rfl] at hI
    have s12 := same_trans s1 s2
    have nI0 := same_none s1 nI
    refine ⟨by show 0 ≤ sizeLine; omega, fun G nG => name_to ?_⟩
    have s3 := same_new (o := .lst ([] : List V)) nG
    have s13 := same_trans s12 s3
    have b0 : BTI P w p c D I H (upd H2 G (.lst [])) es g (Ps.map (·.nm)) iw G [] [] := ⟨(Dr.refl st).same s13, bw.same (same_trans s2 s3), s3 _ _ eI, nI0, each_nm (Same.ts s3) hI, upd_same, same_none s12 nG, .nil⟩
    generalize upd H2 G (.lst []) = H3 at b0
    dsimp only
    have gl : ∀ n ∈ Ps.map (·.nm), (g n).length ≤ 30 := fun n hn => by
      obtain ⟨R, hR, rfl⟩ := List.mem_map.mp hn
      have := nd_len (bok.nd R hR) (bok.sub R hR)
      rw [List.length_map] at this
      omega
    have gsl : ∀ gs, GoodN Ps g gs → gs.length ≤ 30 := fun gs h => by
      have := nd_len h.nd h.sub
      rw [List.length_map] at this
      omega
    have lids : iw.length = (Ps.map (·.nm)).length := hI.length
    have lps : (Ps.map (·.nm)).length ≤ 20 := by rw [List.length_map]; exact l20
    refine ⟨_, rfl, I, rfl, ⟨iw, SqL.of b0.eI⟩, ?_⟩
    refine for_list (xs := iw) (fun i σ H' => ∃ (y6 y7 y8 : Option V) (G : Addr) (gw : List V) (gs : List Nm), σ = [some (.ref p), some (.ref rv), some (.int (m : Int)), some (.ref D), some (.ref I), some (.ref G), y6, y7, y8] ∧ BTI P w p c D I H H' es g (Ps.map (·.nm)) iw G gw gs ∧ GoodN Ps g gs)
      ⟨_, _, _, G, [], [], rfl, b0, GoodN.nil⟩ (fun i σ H' _ ⟨_, _, _, _, _, _, _, b, _⟩ => SqL.of b.eI) ?_ ?_
    · rintro i x σ H4 hx ⟨y6, y7, y8, G, gw, gs, rfl, b, gd⟩
      obtain ⟨nm, hnm, hxn⟩ := each_at b.hI hx
      have hin := List.mem_of_getElem? hnm
      refine name_to ?_
      refine ⟨_, rfl, p, c, 4, rfl, by decide, b.dr.st, fun H5 r _ hr st5 d5 => ⟨rfl, _, rfl, ite2 (fun _ => ?_) (fun _ => ?_)⟩⟩
      · have b5 := b.draw st nD ((Dr.refl b.dr.st).drawn st5 d5)
        have hn5 := hxn.ts (((Dr.refl b.dr.st).drawn st5 d5).ts b.dr.st)
        obtain ⟨na, lv, rfl, _⟩ := hxn
        refine grow b5 hes hin hn5 (gl nm hin) (gsl gs gd) fun G' gw' Hx bx => ⟨_, _, _, G', gw', _, rfl, bx, ?_⟩
        obtain ⟨R, hR, rfl⟩ := List.mem_map.mp hin
        exact gd.more ok bok hR
      · exact ⟨_, _, _, G, gw, gs, rfl, b.draw st nD ((Dr.refl b.dr.st).drawn st5 d5), gd⟩
    · rintro σ H4 ⟨y6, y7, y8, G, gw, gs, rfl, b4, gd4⟩
      dsimp only
      refine ⟨_, rfl, I, rfl, ⟨iw, SqL.of b4.eI⟩, ?_⟩
      refine for_list (xs := iw) (fun i σ H' => ∃ (y6 y7 y8 : Option V) (G : Addr) (gw : List V) (gs : List Nm), σ = [some (.ref p), some (.ref rv), some (.int (m : Int)), some (.ref D), some (.ref I), some (.ref G), y6, y7, y8] ∧ BTI P w p c D I H H' es g (Ps.map (·.nm)) iw G gw gs ∧ GoodN Ps g gs ∧ (((Ps.map (·.nm)).filter fun n => decide (¬ n ∈ gs)).length ≤ m ∨ ∀ n ∈ (Ps.map (·.nm)).take i, n ∈ gs))
        ⟨_, _, _, G, gw, gs, rfl, b4, gd4, .inr fun n h => by rw [List.take_zero] at h; cases h⟩ (fun i σ H' _ ⟨_, _, _, _, _, _, _, b, _⟩ => SqL.of b.eI) ?_ ?_
      · rintro i x σ H5 hx ⟨y6, y7, y8, G, gw, gs, rfl, b, gd, cnt⟩
        obtain ⟨nm, hnm, hxn⟩ := each_at b.hI hx
        have hin := List.mem_of_getElem? hnm
        have et : (Ps.map (·.nm)).take (i + 1) = (Ps.map (·.nm)).take i ++ [nm] := by rw [List.take_add_one, hnm]; rfl
        refine name_to ?_
        refine len_front ?_
        refine lc_gen (R := NmAt) (S := fun _ => NmAt) (fun n => decide (¬ n ∈ gs)) id (.var rfl) b.eI (by have := b.hI.length; omega) (fun H' s => each_nm (Same.ts s) b.hI) (fun h k z => z.ts (ts_but h k)) (fun v x H' hx s hv Q' hq => ?_) (fun v x H' D' hx hf s hv hD Q' hq => ?_) fun F fw H6 s6 nF eF hF => ?_
        · exact Sure.notInD (p := x ∈ gs) (any_nm x gs) (.var rfl) (.var rfl) (dp_nm hv) (.lst (SqL.of (s _ _ b.eG)) (dp_each (fun _ _ h => dp_nm h) (each_nm (Same.ts s) b.hG))) (solid_nms gs) (solid_nm x) (by rw [nm_depth]; decide) Q' hq
        · exact ⟨_, rfl, hq v H' same_refl hv⟩
        rw [List.map_id] at hF
        have lF := hF.length
        refine ⟨F, fw, rfl, .inl (SqL.of eF), _, rfl, _, _, rfl, rfl, _, rfl, ite2 (fun h => ?_) (fun h => ?_)⟩
        · have h := of_decide_eq_true h
          have cnt2 : ∀ n ∈ (Ps.map (·.nm)).take i, n ∈ gs := cnt.resolve_left fun z => by omega
          have b6 := b.same s6
          have hn6 := hxn.ts (Same.ts s6)
          obtain ⟨na, lv, rfl, _⟩ := hxn
          refine grow b6 hes hin hn6 (gl nm hin) (gsl gs gd) fun G' gw' Hx bx => ⟨_, _, _, G', gw', _, rfl, bx, ?_, .inr fun n hn => ?_⟩
          · obtain ⟨R, hR, rfl⟩ := List.mem_map.mp hin
            exact gd.more ok bok hR
          · rw [et] at hn
            by_cases hng : n ∈ gs
            · exact List.mem_append_left _ hng
            · rcases List.mem_append.mp hn with z | z
              · exact absurd (cnt2 n z) hng
              · rw [List.mem_singleton.mp z] at hng ⊢
                obtain ⟨R, hR, rfl⟩ := List.mem_map.mp hin
                exact List.mem_append_right _ (List.mem_filter.mpr ⟨self_in bok hR, decide_eq_true hng⟩)
        · have h : ¬ (m : Int) < (fw.length : Int) := fun z => h (decide_eq_true z)
          exact ⟨_, _, _, G, gw, gs, rfl, b.same s6, gd, .inl (by omega)⟩
      · rintro σ H5 ⟨y6, y7, y8, G, gw, gs, rfl, b, gd, cnt⟩
        dsimp only
        rw [lids, List.take_length] at cnt
        have cnt : ((Ps.map (·.nm)).filter fun n => decide (¬ n ∈ gs)).length ≤ m := cnt.elim id fun h => by
          have e : ((Ps.map (·.nm)).filter fun n => decide (¬ n ∈ gs)) = [] := List.filter_eq_nil_iff.mpr fun n hn z => absurd (h n hn) (of_decide_eq_true z)
          rw [e]
          exact Nat.zero_le _
        refine ret_tup2 ⟨_, rfl, ?_⟩
        refine lc_gen (R := NmAt) (S := fun _ => NmAt) (fun n => decide (¬ n ∈ gs)) id (.var rfl) b.eI (by have := b.hI.length; omega) (fun H' s => each_nm (Same.ts s) b.hI) (fun h k z => z.ts (ts_but h k)) (fun v x H' hx s hv Q' hq => ?_) (fun v x H' D' hx hf s hv hD Q' hq => ?_) fun F fw H6 s6 nF eF hF => ?_
        · exact Sure.notInD (p := x ∈ gs) (any_nm x gs) (.var rfl) (.var rfl) (dp_nm hv) (.lst (SqL.of (s _ _ b.eG)) (dp_each (fun _ _ h => dp_nm h) (each_nm (Same.ts s) b.hG))) (solid_nms gs) (solid_nm x) (by rw [nm_depth]; decide) Q' hq
        · exact ⟨_, rfl, hq v H' same_refl hv⟩
        rw [List.map_id] at hF
        refine ⟨F, fw, Nm, _, nmD, NmAt H6, rfl, SqL.of eF, hF, fun v x h => dp_nm h, PySem.W.AllAlike.of alike_nm, PySem.W.Sortable.tuples fun x => ⟨_, _, rfl⟩, fun x _ => by rw [nm_depth]; decide, fun ys u ey nu => ⟨by show 2 ≤ sizeLine; omega, fun t nt => ?_⟩⟩
        have s7 := same_trans (same_new (o := .lst ys) nu) (same_new (o := .tup [.ref G, .ref u]) nt)
        have b7 := b.same (same_trans s6 s7)
        exact q _ t _ _ g gs b7.dr upd_same ⟨G, gw, rfl, b7.nG, b7.eG, b7.hG⟩ ⟨u, ys, rfl, (b.same s6).dr.none nu, same_new nt _ _ upd_same, each_nm (Same.ts s7) ey⟩ bok gd cnt
end
end K20
namespace K20
open PySem PySem.Spec PyProof.Rows L2 TL TR QR
open GxR (TabB TabG Tabbed)
open PySem.W (EachIs)
open GX (dNO KeysAt)
abbrev sCA : Stmt := topS 21
abbrev nCA : List Str := ["row", "fresh", "below", "found", "k", "other", "name"]
theorem scCA : FnScope nCA ["row", "fresh"] (defScope sCA) := ⟨rfl, rfl, rfl, by decide +kernel, rfl, by decide +kernel, by decide +kernel⟩
/-- a list of lists of names -/
def LsAt (N : Addr → Prop) (H : Hp) (v : V) (xss : List (List Nm)) : Prop := ∃ a ws, v = .ref a ∧ N a ∧ H a = some (.lst ws) ∧ EachIs (NsAt N H) ws xss
theorem LsAt.lf {N : Addr → Prop} {H H' : Hp} {v : V} (s : LF N H H') {xs : List (List Nm)} : LsAt N H v xs → LsAt N H' v xs := fun ⟨a, ws, e, n, h, q⟩ => ⟨a, ws, e, n, s.ls _ _ n h, q.mono fun _ _ z => z.lf s⟩
theorem LsAt.imp {N N' : Addr → Prop} {H : Hp} {v : V} (k : ∀ a, N a → N' a) {xs : List (List Nm)} : LsAt N H v xs → LsAt N' H v xs := fun ⟨a, ws, e, n, h, q⟩ => ⟨a, ws, e, k a n, h, q.mono fun _ _ z => z.imp k⟩
/-- the pairs with the name at k -/
def pairsAt (g : Nm → List Nm) (one : Nm) (rest : List Nm) : List (List Nm) := (rest.filter fun o => decide (¬ one ∈ g o ∧ ¬ o ∈ g one)).map fun o => [one, o]
def pairsOf (g : Nm → List Nm) : List Nm → List (List Nm)
  | [] => []
  | n :: r => pairsAt g n r ++ pairsOf g r
def causesOf (g : Nm → List Nm) (fs : List Nm) : List (List Nm) := (fs.map fun n => [n]) ++ pairsOf g fs
section
variable {P : Program} {w : World} {K : PySem.W.Frag} {mg : Str → Option Value} {base : Heap} {H : Hp} {v : V} {Q : VK} {E : XK} {Ts : List Addr}
theorem each_drop {α : Type} {R : V → α → Prop} : ∀ {ws : List V} {xs : List α}, EachIs R ws xs → ∀ m : Nat, EachIs R (ws.drop m) (xs.drop m)
  | _, _, h, 0 => h
  | _, _, .nil, _ + 1 => .nil
  | _, _, .cons _ t, m + 1 => each_drop t m
theorem BwAt.new {N : Addr → Prop} {D F : Addr} {es : List (Nm × Addr × V)} {g : Nm → List Nm} (n : H F = none) (h : BwAt P w N H D es g) : BwAt P w (fun a => N a ∧ a ≠ F) H D es g :=
  ⟨h.rd, h.ky, fun e he => let ⟨a, ws, e1, e2, e3, e4⟩ := h.vl e he; ⟨a, ws, e1, ⟨e2, ne_of_none e3 n⟩, e3, e4⟩⟩
theorem BwAt.look {N : Addr → Prop} {D na : Addr} {es : List (Nm × Addr × V)} {g : Nm → List Nm} {nm : Nm} {σ : L2.St} {ta tb : TE} (h : BwAt P w N H D es g) (hin : nm ∈ es.map (·.1)) (hn : NmAt H (.ref na) nm) (ea : Ev ta σ H (.ref D)) (eb : Ev tb σ H (.ref na)) :
    ∃ a ws, Ev (tOp (GX.rIxN ktN P w K) ta tb) σ H (.ref a) ∧ N a ∧ H a = some (.lst ws) ∧ EachIs (NmAt H) ws (g nm) := by
  obtain ⟨e, hfind, he, hek⟩ := find_of hin
  obtain ⟨va, vw, eva, nva, hva, hvw⟩ := h.vl e he
  rw [hek] at hvw
  have evl := Ev.ixN (K := K) ea eb h.rd h.keys (dp_nm (K := K) hn) hfind
  rw [eva] at evl
  exact ⟨va, vw, evl, nva, hva, hvw⟩
theorem pairsAt_cons (g : Nm → List Nm) (one o : Nm) (r : List Nm) : pairsAt g one (o :: r) = if ¬ one ∈ g o ∧ ¬ o ∈ g one then [one, o] :: pairsAt g one r else pairsAt g one r := by
  unfold pairsAt
  rw [List.filter_cons]
  by_cases h : ¬ one ∈ g o ∧ ¬ o ∈ g one
  · rw [if_pos (decide_eq_true h), if_pos h, List.map_cons]
  · rw [if_neg (by rw [decide_eq_true_iff]; exact h), if_neg h]
theorem cut_from (xs : List V) (k : Nat) (h : k < xs.length) : cutV xs (some ((k : Int) + 1)) none = xs.drop (k + 1) := by
  unfold cutV
  have e : HT.sIx xs.length 0 (some ((k : Int) + 1)) = k + 1 := by
    have := HT.sIx_nat xs.length 0 (k + 1)
    rw [Int.natCast_add] at this
    rw [show ((k : Int) + 1) = (k : Int) + ((1 : Nat) : Int) from rfl, this]
    omega
  rw [e, HT.sIx_none, List.take_of_length_le (by rw [List.length_drop]; omega)]
def spCA (P : Program) (w : World) : Sp := fun vs H Q _ => ∃ (rv fv : Addr) (rw fw : List V) (Ps : List Pat) (l : Lab) (N : Addr → Prop) (fs : List Nm), vs = [.ref rv, .ref fv] ∧ H rv = some (.lst rw) ∧ EachIs (PatAt N H) rw Ps ∧ PsOk l Ps ∧ Ps.length ≤ 20 ∧ H fv = some (.lst fw) ∧ EachIs (NmAt H) fw fs ∧ (∀ n ∈ fs, n ∈ Ps.map (·.nm)) ∧ fs.length ≤ 20 ∧
  ∀ H' v g, Same H H' → BwOk Ps g → LsAt (fun a => H a = none) H' v (causesOf g fs) → Q v H'
theorem ok_CA {f fAB : Addr} {fd fdAB : FuncData} (F : Fun K "_law_causes" "_law_causes" sCA f fd)
    (GAB : FnOk P w K mg base CX0 2 fAB fdAB ["row"] (spAB P w)) (bAB : Binds K fdAB ["row"] []) (gAB : mg "_law_all_below" = some (.ref fAB)) (kAB : PySem.W.keepIn K (.ref fAB) = true)
    (m_len : mg "len" = none) (m_range : mg "range" = none) : FnOk P w K mg base CX0 3 f fd ["row", "fresh"] (spCA P w) := by
  refine F.ok scCA (fun vs H Q E h => ?_) (fun cdv A outer s H vs Q E hr h => ?_)
  · obtain ⟨rv, fv, rw, fw, Ps, l, N, fs, rfl, _⟩ := h
    rfl
  · obtain ⟨rv, fv, rw, fw, Ps, l, N, fs, rfl, hrv, hrw, ok, l20, hfv, hfw, fsub, f20, q⟩ := h
    have hu := hr.units
    have hu1 := hu_of hr
    have hr1 : Room 1 _ := hr.mono (by decide)
    have hr2 : Room 2 _ := hr.mono (by decide)
    have zl := zl
    refine ⟨_, (pss_cons (ps_set (i := 2) scCA.nd rfl (.inl rfl) (pe_call GAB hr2 (by rfl) gAB kAB bAB .nil pass0 (pa_cons (pv 0) pa_nil)))
      (pss_cons (ps_setLc (i := 3) (own := [("name", 6)]) (g := gName 6) (tt := tYes) (te := tLst (tCons (tVar 6) tNil)) rfl scCA.nd rfl rfl (sw_true rfl rfl rfl (by decide +kernel)) (pi_list (pv 1)) (blkOk_by (N := nCA) (sc := defScope sCA) (by decide +kernel)) (fun _ _ _ _ _ => by exact pg_name (i := 6) scCA.nd rfl (.inl rfl)) (fun _ _ _ _ _ => pts_nil) (fun _ _ _ _ _ => by exact pe_lst (pa_cons (pv 6) pa_nil)))
      (pss_cons (ps_for PassesOwn.never rfl (pi_range1 (by rfl) m_range (pa_cons (pe_callB call_len_seq (by rfl) m_len PySem.boot_len (pa_cons (pv 1) pa_nil)) pa_nil)) (pg_name (i := 4) scCA.nd rfl (.inl rfl))
      (pss_one (ps_for PassesOwn.never rfl (pi_list (pe_slice sl_list (pv 1) (po_some (pe_op op_add (pv 4) (pe_int))) (po_none))) (pg_name (i := 5) scCA.nd rfl (.inl rfl))
      (pss_one (ps_if (PW.pt (pw_and (pt_cmpR (GX.op_notInP hu) (pe_ix ix_list (pv 1) (pv 4) (fun _ _ => rfl)) (pe_ix (GX.ix_N (T := ktN) hu) (pv 2) (pv 5) (fun _ _ => rfl)) (by rfl)) (pw_and1 (pt_cmpR (GX.op_notInP hu) (pv 5) (pe_ix (GX.ix_N (T := ktN) hu) (pv 2) (pe_ix ix_list (pv 1) (pv 4) (fun _ _ => rfl)) (fun _ _ => rfl)) (by rfl)))))
      (pss_one (ps_expr (pe_bm PySem.F.plainAttrs_list PySem.F.slot_list_append PySem.F.type_list_append mt_append (pv 3) (pa_cons (pe_lst (pa_cons (pe_ix ix_list (pv 1) (pv 4) (fun _ _ => rfl)) (pa_cons (pv 5) pa_nil))) pa_nil)))) pss_nil)))))
      (pss_one (ps_ret (pv 3)))))), ?_⟩
    dsimp only [cxOf, Cx.nox]
    refine ⟨_, rfl, rv, rw, Ps, l, N, rfl, hrv, hrw, ok, l20, fun H1 D es g s1 nD bw hes bok => name_to ?_⟩
    dsimp only
    have lfw := hfw.length
    refine asg_seq ?_
    refine lc_gen (R := NmAt) (S := fun F H' v y => NsAt (fun a => H a = none ∧ a ≠ F) H' v y) (fun _ => true) (fun n => [n]) (.var rfl) (s1 _ _ hfv) (by omega) (fun H' s => each_nm (Same.ts (same_trans s1 s)) hfw)
      (fun h k z => z.lf ⟨ts_but h k, fun a xs n e => k a _ n.2 e⟩) (fun v x H' hx s hv Q' hq => hq) (fun v x H' F hx hf s hv hF Q' hq => ?_) fun F ww H2 s2 nF eF hww => ?_
    · refine ⟨_, rfl, by show 1 ≤ sizeLine; omega, fun p np => ?_⟩
      have sp := same_new (o := .lst [v]) np
      refine hq _ _ sp ⟨p, [v], rfl, ⟨same_none s1 (same_none s np), fun z => ?_⟩, upd_same, .cons (hv.ts (Same.ts sp)) .nil⟩
      obtain ⟨us, hF⟩ := hF
      rw [z, hF] at np
      cases np
    rw [List.filter_eq_self.mpr fun _ _ => rfl] at hww
    have s12 := same_trans s1 s2
    have nF0 := same_none s1 nF
    have b2 := (bw.new nF).same s2
    have hes2 : ∀ n ∈ fs, n ∈ es.map (·.1) := fun n hn => by rw [hes]; exact fsub n hn
    refine for_rng (Ev.len (.var rfl) (s12 _ _ hfv)) ?_
    refine ⟨_, rfl, by omega, by omega, ?_⟩
    refine for_it (walk_range (lo := 0) (n := ((fw.length : Nat) : Int).toNat)) (fun k σ H' => ∃ (y4 y5 y6 : Option V) (ww : List V) (xss : List (List Nm)), σ = [some (.ref rv), some (.ref fv), some (.ref D), some (.ref F), y4, y5, y6] ∧ Same H H' ∧ BwAt P w (fun a => H a = none ∧ a ≠ F) H' D es g ∧ H' F = some (.lst ww) ∧ EachIs (NsAt (fun a => H a = none ∧ a ≠ F) H') ww xss ∧ xss ++ pairsOf g (fs.drop k) = causesOf g fs ∧ xss.length ≤ 20 + 20 * k)
      ⟨_, _, _, ww, _, rfl, s12, b2, eF, hww, rfl, by rw [List.length_map]; omega⟩ ?_ ?_ ?_
    · exact fun _ _ _ _ _ => trivial
    · rintro k x σ H3 H3' hk ⟨y4, y5, y6, ww, xss, rfl, s3, b3, eF, hww, hxs, lxs⟩ ⟨rfl, rfl⟩
      have hk : k < fs.length := by omega
      obtain ⟨ow, how, hone0⟩ := each_get hfw (List.getElem?_eq_getElem hk)
      have hone := hone0
      obtain ⟨oa, olv, rfl, _⟩ := hone
      have hdrop : fs.drop k = fs[k] :: fs.drop (k + 1) := List.drop_eq_getElem_cons hk
      generalize fs[k] = one at hone0 hdrop
      have oin : one ∈ fs := by
        have : one ∈ fs.drop k := by rw [hdrop]; exact List.mem_cons_self
        exact List.mem_of_mem_drop this
      refine name_to ?_
      have hfv3 := s3 _ _ hfv
      refine ⟨_, rfl, _, rfl, _, _, rfl, rfl, _, rfl, fv, fw, rfl, SqL.of hfv3, fun p np => ⟨p, rfl, ⟨_, SqL.of upd_same⟩, ?_⟩⟩
      rw [show cutV fw (some ((0 + (k : Int)) + 1)) none = fw.drop (k + 1) from by rw [Int.zero_add]; exact cut_from fw k (by omega)]
      have sp := same_new (o := .lst (fw.drop (k + 1))) np
      have ep : upd _ p (.lst (fw.drop (k + 1))) p = some (.lst (fw.drop (k + 1))) := upd_same (H := H3')
      have b4 := b3.same sp
      have s4 := same_trans s3 sp
      have eF4 := sp _ _ eF
      have hww4 := hww.mono fun _ _ z => NsAt.lf (Same.lf sp) z
      have npF : p ≠ F := fun z => by rw [z, eF] at np; cases np
      have hrest : EachIs (NmAt H) (fw.drop (k + 1)) (fs.drop (k + 1)) := each_drop hfw (k + 1)
      have lrest := hrest.length
      generalize upd H3' p (.lst (fw.drop (k + 1))) = H4 at *
      generalize fw.drop (k + 1) = gw at *
      have hsub : ∀ o ∈ fs.drop (k + 1), o ∈ fs := fun o h => List.mem_of_mem_drop h
      have ldr : (fs.drop (k + 1)).length ≤ 20 := by rw [List.length_drop]; omega
      rw [hdrop] at hxs
      generalize fs.drop (k + 1) = rest at *
      refine for_list (xs := gw) (fun j σ H' => ∃ (y5 y6 : Option V) (ww : List V) (xss : List (List Nm)), σ = [some (.ref rv), some (.ref fv), some (.ref D), some (.ref F), some (.int (0 + (k : Int))), y5, y6] ∧ Same H H' ∧ BwAt P w (fun a => H a = none ∧ a ≠ F) H' D es g ∧ H' F = some (.lst ww) ∧ H' p = some (.lst gw) ∧ EachIs (NsAt (fun a => H a = none ∧ a ≠ F) H') ww xss ∧ xss ++ (pairsAt g one (rest.drop j) ++ pairsOf g rest) = causesOf g fs ∧ xss.length ≤ 20 + 20 * k + j)
        ⟨_, _, ww, xss, rfl, s4, b4, eF4, ep, hww4, hxs, by omega⟩ (fun j σ H' _ ⟨_, _, _, _, _, _, _, _, e, _⟩ => SqL.of e) ?_ ?_
      · rintro j x σ H5 hx ⟨y5, y6, ww, xss, rfl, s5, b5, eF5, ep5, hww5, hxs, lxs⟩
        obtain ⟨o, ho, hxo0⟩ := each_at hrest hx
        have hxo := hxo0
        obtain ⟨na, lv, rfl, _⟩ := hxo
        have hj := (List.getElem?_eq_some_iff.mp ho).1
        have hoin := hsub o (List.mem_of_getElem? ho)
        have hjd : rest.drop j = o :: rest.drop (j + 1) := by
          rw [List.drop_eq_getElem_cons hj]
          have := (List.getElem?_eq_some_iff.mp ho).2
          rw [this]
        rw [hjd, pairsAt_cons] at hxs
        refine name_to ?_
        have ev1 : ∀ (σ : L2.St), σ[1]? = some (some (.ref fv)) → σ[4]? = some (some (.int (0 + (k : Int)))) → Ev (tOp (rIxL K) (tVar 1) (tVar 4)) σ H5 (.ref oa) := fun σ h1 h4 => Ev.ixL (i := k) (.var h1) (.var (by rw [h4, Int.zero_add])) (s5 _ _ hfv) how
        obtain ⟨a1, w1, ea1, _, ha1, hw1⟩ := b5.look (K := K) (σ := [some (.ref rv), some (.ref fv), some (.ref D), some (.ref F), some (.int (0 + (k : Int))), some (.ref na), y6]) (ta := tVar 2) (tb := tVar 5) (hes2 o hoin) (hxo0.ts (Same.ts s5)) (.var rfl) (.var rfl)
        obtain ⟨a2, w2, ea2, _, ha2, hw2⟩ := b5.look (K := K) (σ := [some (.ref rv), some (.ref fv), some (.ref D), some (.ref F), some (.int (0 + (k : Int))), some (.ref na), y6]) (ta := tVar 2) (tb := tOp (rIxL K) (tVar 1) (tVar 4)) (hes2 one oin) (hone0.ts (Same.ts s5)) (.var rfl) (ev1 _ rfl rfl)
        refine ifS (p := ¬ one ∈ g o ∧ ¬ o ∈ g one) ((Sure.notInD (p := one ∈ g o) (any_nm one (g o)) (ev1 _ rfl rfl) ea1 (dp_nm (hone0.ts (Same.ts s5))) (.lst (SqL.of ha1) (dp_each (fun _ _ h => dp_nm h) hw1)) (solid_nms _) (solid_nm _) (by rw [nm_depth]; decide)).and
          fun _ => Sure.notInD (p := o ∈ g one) (any_nm o (g one)) (.var rfl) ea2 (dp_nm (hxo0.ts (Same.ts s5))) (.lst (SqL.of ha2) (dp_each (fun _ _ h => dp_nm h) hw2)) (solid_nms _) (solid_nm _) (by rw [nm_depth]; decide)) (fun h => ?_) (fun h => ?_)
        · rw [if_pos h] at hxs
          have lww := hww5.length
          refine ⟨_, rfl, .inl ⟨rfl, _, .inl (.inl eF5)⟩, ?_⟩
          refine ev1 _ rfl rfl _ ⟨_, rfl, by show 2 ≤ sizeLine; omega, fun t nt => ?_⟩
          have st := same_new (o := .lst [.ref oa, .ref na]) nt
          have ntF : t ≠ F := fun z => by rw [z, eF5] at nt; cases nt
          have ht : NsAt (fun a => H a = none ∧ a ≠ F) (upd H5 t (.lst [.ref oa, .ref na])) (.ref t) [one, o] := ⟨t, _, rfl, ⟨same_none s5 nt, ntF⟩, upd_same, .cons (hone0.ts (Same.ts (same_trans s5 st))) (.cons (hxo0.ts (Same.ts (same_trans s5 st))) .nil)⟩
          have b6 := b5.same st
          have s6 := same_trans s5 st
          have eF6 := st _ _ eF5
          have ep6 := st _ _ ep5
          have hww6 := hww5.mono fun _ _ z => NsAt.lf (Same.lf st) z
          generalize upd H5 t (.lst [.ref oa, .ref na]) = H6 at *
          have lf : LF (fun a => H a = none ∧ a ≠ F) H6 (upd H6 F (.lst (ww ++ [.ref t]))) := lf_upd eF6 fun z => z.2 rfl
          have nDF : D ≠ F := fun z => by have := b6.rd; rw [z, eF6] at this; cases this
          refine ⟨F, ww, .ref t, rfl, rfl, eF6, by omega, _, _, ww ++ [.ref t], xss ++ [[one, o]], rfl, fun b o' e => by rw [upd_ne (ne_of_none e nF0)]; exact s6 b o' e, b6.lf lf (upd_ne nDF), upd_same, (upd_ne npF).trans ep6, each_snoc (hww6.mono fun _ _ z => NsAt.lf lf z) (ht.lf lf), ?_, by rw [List.length_append]; show _ + 1 ≤ _; omega⟩
          rw [List.append_assoc]
          exact hxs
        · rw [if_neg h] at hxs
          exact ⟨_, _, ww, xss, rfl, s5, b5, eF5, ep5, hww5, hxs, by omega⟩
      · rintro σ H5 ⟨y5, y6, ww, xss, rfl, s5, b5, eF5, ep5, hww5, hxs, lxs⟩
        rw [lrest, List.drop_length] at hxs
        exact ⟨_, _, _, ww, xss, rfl, s5, b5, eF5, hww5, hxs, by omega⟩
    · rintro σ H3 ⟨y4, y5, y6, ww, xss, rfl, s3, b3, eF, hww, hxs, lxs⟩
      rw [show (((fw.length : Nat) : Int)).toNat = fs.length from by omega, List.drop_length] at hxs
      have hxs : xss = causesOf g fs := by rw [← hxs]; exact (List.append_nil _).symm
      rw [hxs] at hww
      exact ⟨_, rfl, q H3 _ g s3 bok ⟨F, ww, rfl, nF0, eF, hww.mono fun _ _ z => z.imp fun a h => h.1⟩⟩
end
end K20
namespace K20
open PySem PySem.Spec PyProof.Rows L2 TL TR QR
open GxR (TabB TabG Tabbed)
open PySem.W (EachIs)
open GX (dNO KeysAt)
abbrev sPR : Stmt := topS 20
abbrev nPR : List Str := ["row", "good", "fresh", "below", "found", "count", "part", "lacks", "size", "k", "name", "one"]
theorem scPR : FnScope nPR ["row", "good", "fresh"] (defScope sPR) := ⟨rfl, rfl, rfl, by decide +kernel, rfl, by decide +kernel, by decide +kernel⟩
def scFree : Scope := { kind := .function, names := [(Str.ofString ".0", .local), (Str.ofString "name", .local), (Str.ofString "len", .globalImplicit), (Str.ofString "below", .free), (Str.ofString "good", .free), (Str.ofString "part", .free)], isGenerator := false, isCoroutine := false, more := [] }
def nm0 : Nm := ((0, []), [], 0)
/-- the part that a count tells -/
def partOf (fs : List Nm) (cnt : Nat) : List Nm := ((List.range fs.length).filter fun k => decide (cnt / 2 ^ k % 2 = 1)).map fun k => fs.getD k nm0
/-- a part to which nothing is lacking -/
def fullP (g : Nm → List Nm) (gs part : List Nm) : Bool := decide ((part.filter fun n => decide (0 < ((g n).filter fun o => decide (¬ o ∈ gs ∧ ¬ o ∈ part)).length)).length = 0)
def encP (l : List Nm) : PyData := .tuple [.int (l.length : Int), .list (l.map nmD)]
def srtP (ps : List (List Nm)) : List (List Nm) := ps.mergeSort (PySem.W.dataLe false encP)
def partsOf (g : Nm → List Nm) (gs fs : List Nm) : List (List Nm) := srtP (((List.range (2 ^ fs.length)).map (partOf fs)).filter (fullP g gs))
theorem alike_nms : ∀ a b : List Nm, PySem.W.alikeAll (a.map nmD) (b.map nmD) = true
  | [], _ => by rw [List.map_nil, PySem.W.alikeAll]
  | _ :: _, [] => by rw [List.map_nil, List.map_cons, PySem.W.alikeAll]
  | x :: a, y :: b => by
    rw [List.map_cons, List.map_cons, PySem.W.alikeAll, alike_nms a b, alike_nm]
    simp
theorem depth_nms : ∀ a : List Nm, PyData.depthAll (a.map nmD) ≤ 3
  | [] => Nat.zero_le _
  | x :: a => by
    rw [List.map_cons, PyData.depthAll, nm_depth]
    have := depth_nms a
    omega
theorem alike_P (a b : List Nm) : PySem.W.alike (encP a) (encP b) = true := by
  unfold encP
  simp [PySem.W.alike, PySem.W.alikeAll, alike_nms]
theorem depth_P (a : List Nm) : (encP a).depth ≤ 60 := by
  have := depth_nms a
  unfold encP
  simp [PyData.depth, PyData.depthAll]
  omega
theorem test_cb {te c : TE} {r : R2} {rd : List V → Hp → VK → Prop} {σ : L2.St} {H : Hp} {R : Bool → Hp → Prop} (h : te σ H fun v H1 => rd [v] H1 fun x H2 => c σ H2 fun y H3 => r x y H3 fun z H4 => ∃ k, z = .bl k ∧ R k H4) : tTest (tOp r (tCB rd (tCons te tNil)) c) σ H R := h
theorem arg_cb {rel : List V → Hp → VK → Prop} {te : TE} {ta : TA} {σ : L2.St} {H : Hp} {R : List V → Hp → Prop} (h : te σ H fun v H1 => rel [v] H1 fun x H2 => ta σ H2 fun xs H3 => (x :: xs).length ≤ sizeLine ∧ ∀ p, H3 p = none → R [.ref p] (upd H3 p (.tup (x :: xs)))) : tCons (tTup (tCons (tCB rel (tCons te tNil)) ta)) tNil σ H R := h
/-- a part with its size -/
def PrAt (N : Addr → Prop) (H : Hp) (v : V) (part : List Nm) : Prop := ∃ t pv, v = .ref t ∧ H t = some (.tup [.int (part.length : Int), pv]) ∧ NsAt N H pv part
theorem PrAt.lf {N : Addr → Prop} {H H' : Hp} {v : V} (s : LF N H H') {x : List Nm} : PrAt N H v x → PrAt N H' v x := fun ⟨t, pv, e, h1, h2⟩ => ⟨t, pv, e, s.ts _ _ h1, h2.lf s⟩
theorem NsAt.new {N : Addr → Prop} {H : Hp} {v : V} {D : Addr} {xs : List Nm} (n : H D = none) (h : NsAt N H v xs) : NsAt (fun a => N a ∧ a ≠ D) H v xs := by
  obtain ⟨a, ws, e, na, ha, q⟩ := h
  exact ⟨a, ws, e, ⟨na, ne_of_none ha n⟩, ha, q⟩
theorem dp_P {N : Addr → Prop} {K : PySem.W.Frag} {H : Hp} {v : V} {x : List Nm} : PrAt N H v x → Dp K H v (encP x) := fun ⟨t, pv, e, h1, ⟨a, ws, e2, _, h3, h4⟩⟩ => by
  rw [e]
  refine .tup (SqT.of h1) (.cons (.int _) (.cons ?_ .nil))
  rw [e2]
  exact .lst (SqL.of h3) (dp_each (fun _ _ h => dp_nm h) h4)
theorem pow_cast (k : Nat) : (1 : Int) * 2 ^ ((k : Int)).toNat = ((2 ^ k : Nat) : Int) := by
  rw [Int.one_mul, Int.toNat_natCast, Int.natCast_pow]
  rfl
theorem part_mem {fs : List Nm} {cnt : Nat} {n : Nm} (h : n ∈ partOf fs cnt) : n ∈ fs := by
  obtain ⟨k, hk, rfl⟩ := List.mem_map.mp h
  have lt := List.mem_range.mp (List.mem_filter.mp hk).1
  rw [List.getD_eq_getElem?_getD, List.getElem?_eq_getElem lt]
  exact List.getElem_mem lt
section
variable {P : Program} {w : World} {K : PySem.W.Frag} {mg : Str → Option Value} {base : Heap} {H : Hp} {v : V} {Q : VK} {E : XK} {Ts : List Addr}
def spPR (P : Program) (w : World) : Sp := fun vs H Q _ => ∃ (rv gv fv : Addr) (rw gw fw : List V) (Ps : List Pat) (l : Lab) (N : Addr → Prop) (gs fs : List Nm), vs = [.ref rv, .ref gv, .ref fv] ∧ H rv = some (.lst rw) ∧ EachIs (PatAt N H) rw Ps ∧ PsOk l Ps ∧ Ps.length ≤ 20 ∧ H gv = some (.lst gw) ∧ EachIs (NmAt H) gw gs ∧ gs.length ≤ 1000 ∧ H fv = some (.lst fw) ∧ EachIs (NmAt H) fw fs ∧ (∀ n ∈ fs, n ∈ Ps.map (·.nm)) ∧ fs.length ≤ 8 ∧
  ∀ H' v g, Same H H' → BwOk Ps g → LsAt (fun a => H a = none) H' v (partsOf g gs fs) → Q v H'
theorem ok_PR {f fAB : Addr} {fd fdAB : FuncData} (F : Fun K "_law_parts" "_law_parts" sPR f fd)
    (GAB : FnOk P w K mg base CX0 2 fAB fdAB ["row"] (spAB P w)) (bAB : Binds K fdAB ["row"] []) (gAB : mg "_law_all_below" = some (.ref fAB)) (kAB : PySem.W.keepIn K (.ref fAB) = true)
    (m_len : mg "len" = none) (m_range : mg "range" = none) (m_sorted : mg "sorted" = none) : FnOk P w K mg base CX0 3 f fd ["row", "good", "fresh"] (spPR P w) := by
  refine F.ok scPR (fun vs H Q E h => ?_) (fun cdv A outer s H vs Q E hr h => ?_)
  · obtain ⟨rv, gv, fv, rw, gw, fw, Ps, l, N, gs, fs, rfl, _⟩ := h
    rfl
  · obtain ⟨rv, gv, fv, rw, gw, fw, Ps, l, N, gs, fs, rfl, hrv, hrw, ok, l20, hgv, hgw, lgs, hfv, hfw, fsub, f8, q⟩ := h
    have hu := hr.units
    have hu1 := hu_of hr
    have hr1 : Room 1 _ := hr.mono (by decide)
    have hr2 : Room 2 _ := hr.mono (by decide)
    have zl := zl
    refine ⟨_, (pss_cons (ps_set (i := 3) scPR.nd rfl (.inr rfl) (pe_call GAB hr2 (by rfl) gAB kAB bAB .nil pass0 (pa_cons (pv 0) pa_nil)))
      (pss_cons (ps_set (i := 4) scPR.nd rfl (.inl rfl) (pe_lst (pa_nil)))
      (pss_cons (ps_for PassesOwn.never rfl (pi_range1 (by rfl) m_range (pa_cons (pe_op op_shl (pe_int) (pe_callB call_len_seq (by rfl) m_len PySem.boot_len (pa_cons (pv 2) pa_nil))) pa_nil)) (pg_name (i := 5) scPR.nd rfl (.inr rfl))
      (pss_cons (ps_set (i := 6) scPR.nd rfl (.inr rfl) (pe_lc (own := [("k", 9)]) (g := gName 9) (tt := tTest (tOp rEq (_) (tC (.int 1)))) (te := tOp (rIxL K) (tVar 2) (tVar 9)) rfl scPR.nd (pi_range1 (by rfl) m_range (pa_cons (pe_callB call_len_seq (by rfl) m_len PySem.boot_len (pa_cons (pv 2) pa_nil)) pa_nil)) (blkOk_by (N := nPR) (sc := defScope sPR) (by decide +kernel)) (fun _ _ _ _ _ => by exact pg_name (i := 9) scPR.nd rfl (.inl rfl)) (fun _ _ _ _ _ => by exact pts_one (pt_cmpR op_eq (pe_op op_mod (pe_op op_fdiv (pv 5) (pe_op op_shl (pe_int) (pv 9))) (pe_int)) (pe_int) (nomark _))) (fun _ _ _ _ _ => by exact pe_ix ix_list (pv 2) (pv 9) (fun _ _ => rfl))))
      (pss_cons (ps_setLc (i := 7) (own := [("name", 10)]) (g := gName 10) (tt := tTest (tOp (rI0 fun i j => .bl (decide (j < i))) (tCB (fun xs H Q => ∃ p ys, xs = [.ref p] ∧ (SqL K H p ys ∨ SqT K H p ys) ∧ Q (.int ys.length) H) (tCons (tLc (iList K (tOp (GX.rIxN ktN P w K) (tVar 3) (tVar 10))) (gName 11) (tAnd (tTest (tOp (GX.rNotInP K) (tVar 11) (tVar 1))) (tTest (tOp (GX.rNotInP K) (tVar 11) (tVar 6)))) (tVar 11) [11]) tNil)) (tC (.int 0)))) (te := tVar 10) rfl scPR.nd rfl rfl (sw_true rfl rfl rfl (by decide +kernel)) (pi_list (pv 6)) (blkOk_by (N := nPR) (sc := defScope sPR) (by decide +kernel)) (fun _ _ _ _ _ => by exact pg_name (i := 10) scPR.nd rfl (.inl rfl)) (fun _ _ _ _ _ => by exact pts_one (pt_cmpR op_gt (pe_callB call_len_seq (by rfl) m_len PySem.boot_len (pa_cons (pe_lc (own := [("one", 11)]) (g := gName 11) (tt := tAnd (tTest (tOp (GX.rNotInP K) (tVar 11) (tVar 1))) (tTest (tOp (GX.rNotInP K) (tVar 11) (tVar 6)))) (te := tVar 11) rfl scPR.nd (pi_list (pe_ix (GX.ix_N (T := ktN) hu) (pv 3) (pv 10) (fun _ _ => rfl))) (blkOk_by (N := nPR) (sc := relS scFree (defScope sPR)) (by decide +kernel)) (fun _ _ _ _ _ => by exact pg_name (i := 11) scPR.nd rfl (.inl rfl)) (fun _ _ _ _ _ => by exact pts_one (PW.pt (pw_and (pt_cmpR (GX.op_notInP hu) (pv 11) (pv 1) (by rfl)) (pw_and1 (pt_cmpR (GX.op_notInP hu) (pv 11) (pv 6) (by rfl)))))) (fun _ _ _ _ _ => by exact pv 11)) pa_nil)) (pe_int) (nomark _))) (fun _ _ _ _ _ => by exact pv 10))
      (pss_one (ps_if (pt_cmpR op_eq (pe_callB call_len_seq (by rfl) m_len PySem.boot_len (pa_cons (pv 7) pa_nil)) (pe_int) (nomark _))
      (pss_one (ps_expr (pe_bm PySem.F.plainAttrs_list PySem.F.slot_list_append PySem.F.type_list_append mt_append (pv 4) (pa_cons (pe_tup (pa_cons (pe_callB call_len_seq (by rfl) m_len PySem.boot_len (pa_cons (pv 6) pa_nil)) (pa_cons (pv 6) pa_nil))) pa_nil)))) pss_nil)))))
      (pss_one (ps_ret (pe_lc (own := [("size", 8), ("part", 6)]) (g := gTup K 2 (gCons (gName 8) (gCons (gName 6) gNil))) (tt := tYes) (te := tVar 6) rfl scPR.nd (pi_list (pe_callB (GX.cr_sortedD hu) (by rfl) m_sorted (by decide +kernel) (pa_cons (pv 4) pa_nil))) (blkOk_by (N := nPR) (sc := defScope sPR) (by decide +kernel)) (fun _ _ _ _ _ => by exact pg_tup (by rfl) (pgs_cons (pg_name (i := 8) scPR.nd rfl (.inl rfl)) (pgs_cons (pg_name (i := 6) scPR.nd rfl (.inl rfl)) pgs_nil))) (fun _ _ _ _ _ => pts_nil) (fun _ _ _ _ _ => by exact pv 6))))))), ?_⟩
    dsimp only [cxOf, Cx.nox]
    refine ⟨_, rfl, rv, rw, Ps, l, N, rfl, hrv, hrw, ok, l20, fun H1 D es g s1 nD bw hes bok => name_to ?_⟩
    dsimp only
    have lfw := hfw.length
    refine ⟨by show 0 ≤ sizeLine; omega, fun F nF => name_to ?_⟩
    have sF := same_new (o := .lst ([] : List V)) nF
    have nF0 := same_none s1 nF
    have b2 := (bw.new nF).same sF
    have s2 := same_trans s1 sF
    have eF : upd H1 F (.lst []) F = some (.lst []) := upd_same
    generalize upd H1 F (.lst []) = H2 at *
    dsimp only
    have hes2 : ∀ n ∈ fs, n ∈ es.map (·.1) := fun n hn => by rw [hes]; exact fsub n hn
    have gl : ∀ n ∈ fs, (g n).length ≤ 30 := fun n hn => by
      obtain ⟨R, hR, rfl⟩ := List.mem_map.mp (fsub n hn)
      have := nd_len (bok.nd R hR) (bok.sub R hR)
      rw [List.length_map] at this
      omega
    have p256 : 2 ^ fw.length ≤ 256 := Nat.le_trans (Nat.pow_le_pow_right (by decide : 2 > 0) (by omega : fw.length ≤ 8)) (by decide)
    refine for_rng (ev_cast (Ev.opI .con (Ev.len (.var rfl) (s2 _ _ hfv)) ⟨by omega, by omega, by decide⟩) (congrArg V.int (pow_cast fw.length))) ?_
    rw [lfw] at p256
    rw [show fw.length = fs.length from lfw]
    generalize hM : 2 ^ fs.length = M at p256
    refine ⟨_, rfl, by omega, by omega, ?_⟩
    refine for_it (walk_range (lo := 0) (n := ((M : Nat) : Int).toNat)) (fun c σ H' => ∃ (y5 y6 y7 y8 y9 y10 y11 : Option V) (ww : List V) (ps : List (List Nm)), σ = [some (.ref rv), some (.ref gv), some (.ref fv), some (.ref D), some (.ref F), y5, y6, y7, y8, y9, y10, y11] ∧ Same H H' ∧ BwAt P w (fun a => H a = none ∧ a ≠ F) H' D es g ∧ H' F = some (.lst ww) ∧ EachIs (PrAt (fun a => H a = none ∧ a ≠ F) H') ww ps ∧ ps = ((List.range c).map (partOf fs)).filter (fullP g gs) ∧ ps.length ≤ c)
      ⟨_, _, _, _, _, _, _, [], [], rfl, s2, b2, eF, .nil, rfl, Nat.le_refl _⟩ ?_ ?_ ?_
    · exact fun _ _ _ _ _ => trivial
    · rintro c x σ H3' H3 hc ⟨y5, y6, y7, y8, y9, y10, y11, ww, ps, rfl, s3, b3, eF3, hww, hps, lps⟩ ⟨rfl, rfl⟩
      have hc : c < M := by omega
      refine name_to ?_
      refine asg_seq ?_
      refine lc_rng (Ev.len (.var rfl) (s3 _ _ hfv)) ?_
      rw [show fw.length = fs.length from lfw]
      refine lc_genR (S := fun _ => NmAt) (fun k => decide (c / 2 ^ k % 2 = 1)) (fun k => fs.getD k nm0) (by omega) (fun h k z => z.ts (ts_but h k)) (fun k H' hk s Q' hq => ?_) (fun k H' D' hk hf s hD Q' hq => ?_) fun G gw2 H4 s4 nG eG hG => ?_
      · have k256 : 2 ^ k ≤ 256 := Nat.le_trans (Nat.pow_le_pow_right (by decide : 2 > 0) (by omega : k ≤ 8)) (by decide)
        have kpos : 0 < 2 ^ k := Nat.pow_pos (by decide)
        have e : (0 + (c : Int)) / (1 * 2 ^ ((k : Int)).toNat) % 2 = ((c / 2 ^ k % 2 : Nat) : Int) := by
          rw [pow_cast, Int.zero_add, Int.natCast_emod, Int.natCast_ediv]
          rfl
        exact Sure.eqN (i := c / 2 ^ k % 2) (j := 1) (ev_cast (Ev.opI (Ev.opI (.var rfl) (Ev.opI .con (.var rfl) ⟨by omega, by omega, by decide⟩) (by rw [pow_cast]; exact ⟨by omega, by omega⟩)) .con (by decide)) (congrArg V.int e)) .con Q' hq
      · obtain ⟨ow, how, hone⟩ := each_get hfw (List.getElem?_eq_getElem hk)
        refine Ev.ixL (i := k) (.var rfl) (.var rfl) (s _ _ (s3 _ _ hfv)) how _ (hq _ H' same_refl ?_)
        rw [List.getD_eq_getElem?_getD, List.getElem?_eq_getElem hk]
        exact hone.ts (Same.ts (same_trans s3 s))
      have hG : EachIs (NmAt H4) gw2 (partOf fs c) := hG
      have hpm : ∀ n ∈ partOf fs c, n ∈ fs := fun n h => part_mem h
      have lpt : (partOf fs c).length ≤ 8 := by
        unfold partOf
        rw [List.length_map]
        exact Nat.le_trans (List.length_filter_le _ _) (by rw [List.length_range]; exact f8)
      have s34 := same_trans s3 s4
      have b4 := b3.same s4
      have nG0 := same_none s3 nG
      have nGF : G ≠ F := fun z => by rw [z, eF3] at nG; cases nG
      have eF4 := s4 _ _ eF3
      have hww4 := hww.mono fun _ _ z => PrAt.lf (Same.lf s4) z
      have hfull : ∀ part, fullP g gs part = decide ((part.filter fun n => decide (0 < ((g n).filter fun o => decide (¬ o ∈ gs ∧ ¬ o ∈ part)).length)).length = 0) := fun _ => rfl
      have er : ((List.range (c + 1)).map (partOf fs)).filter (fullP g gs) = ps ++ if fullP g gs (partOf fs c) = true then [partOf fs c] else [] := by
        rw [List.range_succ, List.map_append, List.filter_append, hps]
        congr 1
        rw [List.map_cons, List.map_nil, List.filter_cons]
        split <;> rfl
      generalize partOf fs c = part at *
      dsimp only
      refine asg_seq ?_
      refine lc_genS (R := NmAt) (S := fun _ => NmAt) (fun n => decide (0 < ((g n).filter fun o => decide (¬ o ∈ gs ∧ ¬ o ∈ part)).length)) id (.var rfl) eG (by omega) (fun H' s => each_nm (Same.ts s) hG) (fun h k z => z.ts (ts_but h k)) (fun v x H' hx s hv Q' hq => ?_) (fun v x H' D' hx hf s hv hD Q' hq => ?_) fun L lw H5 s5 nL eL hL => ?_
      · have hv0 := hv
        obtain ⟨na, lv, rfl, _⟩ := hv
        have b5 := b4.same s
        obtain ⟨a2, w2, ea2, _, ha2, hw2⟩ := b5.look (K := K) (σ := (wipe [some (.ref rv), some (.ref gv), some (.ref fv), some (.ref D), some (.ref F), some (.int (0 + (c : Int))), some (.ref G), y7, y8, y9, y10, y11] [10]).set 10 (some (V.ref na))) (ta := tVar 3) (tb := tVar 10) (hes2 x (hpm x hx)) hv0 (.var rfl) (.var rfl)
        have lw2 := hw2.length
        have lg := gl x (hpm x hx)
        refine test_cb ?_
        refine lc_gen (R := NmAt) (S := fun _ => NmAt) (fun o => decide (¬ o ∈ gs ∧ ¬ o ∈ part)) id ea2 ha2 (by omega) (fun H' s => each_nm (Same.ts s) hw2) (fun h k z => z.ts (ts_but h k)) (fun v o H6 hx s6 hv Q' hq => ?_) (fun v o H6 D' hx hf s6 hv hD Q' hq => ?_) fun T tw H6 s6 nT eT hT => ?_
        · have s06 := same_trans (same_trans s34 s) s6
          exact ((Sure.notInD (p := o ∈ gs) (any_nm o gs) (.var rfl) (.var rfl) (dp_nm hv) (.lst (SqL.of (s06 _ _ hgv)) (dp_each (fun _ _ h => dp_nm h) (each_nm (Same.ts s06) hgw))) (solid_nms _) (solid_nm _) (by rw [nm_depth]; decide)).and
            fun _ => Sure.notInD (p := o ∈ part) (any_nm o part) (.var rfl) (.var rfl) (dp_nm hv) (.lst (SqL.of (same_trans s s6 _ _ eG)) (dp_each (fun _ _ h => dp_nm h) (each_nm (Same.ts (same_trans s s6)) hG))) (solid_nms _) (solid_nm _) (by rw [nm_depth]; decide)) Q' hq
        · exact ⟨_, rfl, hq v H6 same_refl hv⟩
        rw [List.map_id] at hT
        have lT := hT.length
        refine ⟨T, tw, rfl, .inl (SqL.of eT), _, _, rfl, rfl, _, rfl, ?_⟩
        rw [show decide ((0 : Int) < (tw.length : Int)) = decide (0 < ((g x).filter fun o => decide (¬ o ∈ gs ∧ ¬ o ∈ part)).length) from decide_eq_decide.mpr (by rw [lT]; omega)]
        exact hq H6 s6
      · exact ⟨_, rfl, hq v H' same_refl hv⟩
      rw [List.map_id] at hL
      have lL := hL.length
      have b5 := b4.same s5
      have s35 := same_trans s34 s5
      have eF5 := s5 _ _ eF4
      have hww5 := hww4.mono fun _ _ z => PrAt.lf (Same.lf s5) z
      refine ifS (p := lw.length = 0) (Sure.eqN (j := 0) (Ev.len (.var rfl) eL) .con) (fun h => ?_) (fun h => ?_)
      · have hf : fullP g gs part = true := by rw [hfull]; exact decide_eq_true (by rw [← lL]; exact h)
        rw [if_pos hf] at er
        have lww := hww5.length
        refine ⟨_, rfl, .inl ⟨rfl, _, .inl (.inl eF5)⟩, ?_⟩
        refine arg_cb ⟨_, rfl, G, gw2, rfl, .inl (SqL.of (s5 _ _ eG)), _, rfl, by show 2 ≤ sizeLine; omega, fun t nt => ?_⟩
        have lgw2 := hG.length
        rw [lgw2]
        have st := same_new (o := .tup [.int (part.length : Int), .ref G]) nt
        have ht : PrAt (fun a => H a = none ∧ a ≠ F) (upd H5 t (.tup [.int (part.length : Int), .ref G])) (.ref t) part := ⟨t, .ref G, rfl, upd_same, G, gw2, rfl, ⟨nG0, nGF⟩, st _ _ (s5 _ _ eG), each_nm (Same.ts (same_trans s5 st)) hG⟩
        have b6 := b5.same st
        have s6 := same_trans s35 st
        have eF6 := st _ _ eF5
        have hww6 := hww5.mono fun _ _ z => PrAt.lf (Same.lf st) z
        generalize upd H5 t (.tup [.int (part.length : Int), .ref G]) = H6 at *
        have lf : LF (fun a => H a = none ∧ a ≠ F) H6 (upd H6 F (.lst (ww ++ [.ref t]))) := lf_upd eF6 fun z => z.2 rfl
        have nDF : D ≠ F := fun z => by have := b6.rd; rw [z, eF6] at this; cases this
        exact ⟨F, ww, .ref t, rfl, rfl, eF6, by omega, _, _, _, _, _, _, _, ww ++ [.ref t], ps ++ [part], rfl, fun b o' e => by rw [upd_ne (ne_of_none e nF0)]; exact s6 b o' e, b6.lf lf (upd_ne nDF), upd_same, each_snoc (hww6.mono fun _ _ z => PrAt.lf lf z) (ht.lf lf), er.symm, by rw [List.length_append]; show _ + 1 ≤ _; omega⟩
      · have hf : ¬ fullP g gs part = true := by rw [hfull, decide_eq_true_iff, ← lL]; exact h
        rw [if_neg hf, List.append_nil] at er
        exact ⟨_, _, _, _, _, _, _, ww, ps, rfl, s35, b5, eF5, hww5, er.symm, by omega⟩
    · rintro σ H3 ⟨y5, y6, y7, y8, y9, y10, y11, ww, ps, rfl, s3, b3, eF3, hww, hps, lps⟩
      dsimp only
      rw [show (((M : Nat) : Int)).toNat = M from Int.toNat_natCast M, ← hM] at hps
      have lww := hww.length
      have zl := zl
      refine ⟨_, rfl, F, ww, List Nm, ps, encP, PrAt (fun a => H a = none ∧ a ≠ F) H3, rfl, SqL.of eF3, hww, fun v x h => dp_P h, PySem.W.AllAlike.of alike_P, PySem.W.Sortable.tuples (fun b => ⟨_, _, rfl⟩), fun b _ => depth_P b, fun ys u ey nu => ⟨u, rfl, ⟨ys, SqL.of upd_same⟩, fun D2 nD2 => ?_⟩⟩
      have su := same_new (o := .lst ys) nu
      have eu : upd H3 u (.lst ys) u = some (.lst ys) := upd_same
      have s4 := same_trans s3 su
      have ey4 := ey.mono fun _ _ z => PrAt.lf (Same.lf su) z
      generalize upd H3 u (.lst ys) = H4 at *
      have hsr : ps.mergeSort (PySem.W.dataLe false encP) = partsOf g gs fs := by rw [hps]; rfl
      rw [hsr] at ey4
      have lys := ey4.length
      have lpo : (partsOf g gs fs).length ≤ 256 := by
        rw [← hsr, List.length_mergeSort]
        omega
      have nD20 := same_none s4 nD2
      have nuD : u ≠ D2 := fun z => by rw [← z, eu] at nD2; cases nD2
      generalize hpp : partsOf g gs fs = pp at hsr ey4 lys lpo
      refine lc_list (xs := ys) (fun i H' => Same H4 H' ∧ ∃ us, H' D2 = some (.lst us) ∧ EachIs (NsAt (fun a => (H a = none ∧ a ≠ F) ∧ a ≠ D2) H') us (pp.take i)) ⟨same_new nD2, [], upd_same, .nil⟩ (fun i H' _ h => SqL.of (h.1 _ _ eu)) ?_ ?_
      · rintro i x H' hx ⟨s5, us, eD, hus⟩
        obtain ⟨part, hp, hxp⟩ := each_at ey4 hx
        obtain ⟨t, pv, rfl, ht, hpv⟩ := hxp
        have hi := (List.getElem?_eq_some_iff.mp hp).1
        have lus := hus.length
        rw [List.length_take] at lus
        have lf : LF (fun a => (H a = none ∧ a ≠ F) ∧ a ≠ D2) H' (upd H' D2 (.lst (us ++ [pv]))) := lf_upd eD fun z => z.2 rfl
        refine ⟨t, _, rfl, SqT.of (s5 _ _ ht), rfl, _, _, rfl, _, _, rfl, rfl, rfl, _, rfl, us, eD, by omega, fun b o e => ?_, us ++ [pv], upd_same, ?_⟩
        · rw [upd_ne (ne_of_none e nD2)]
          exact s5 _ _ e
        · rw [List.take_add_one, hp]
          exact each_snoc (hus.mono fun _ _ z => z.lf lf) (((hpv.new nD2).lf (Same.lf s5)).lf lf)
      · rintro H' ⟨s5, us, eD, hus⟩
        rw [lys, List.take_length, ← hpp] at hus
        exact q H' _ g (same_trans s4 s5) bok ⟨D2, us, rfl, nD20, eD, hus.mono fun _ _ z => z.imp fun a h => h.1.1⟩
end
end K20
namespace GX
open PySem PySem.Spec PyProof.Rows L2 GxR
def rInP (K : PySem.W.Frag) : R2 := fun x y H Q => ∃ (xs : List PyData) (d : PyData), Dp K H y (.list xs) ∧ Dp K H x d ∧ PyData.plainAll xs = true ∧ d.plain = true ∧ d.depth ≤ 60 ∧ Q (.bl (xs.any fun y => PyData.eqv y d)) H
theorem op_inP {X : Cx} (hu : X.A.units + 64 < cLine) : OpR X (compareOp .In) (rInP X.K) := fun pins s σ H x y v u Q I rx ry ⟨xs, d, hy, hx, px, pd, dd, q⟩ => by
  obtain ⟨as, r1⟩ := Dp.reads I _ y u hy ry
  obtain ⟨bs, r2⟩ := Dp.reads I d x v hx rx
  exact PySem.SeqAt.in_list_data r1 r2 px pd (by omega) ⟨.bl _, H, I, rfl, q⟩
end GX
namespace K20
open PySem PySem.Spec PyProof.Rows L2 TL TR QR
open GxR (TabB TabG Tabbed)
open PySem.W (EachIs)
open GX (dNO KeysAt)
abbrev sBD : Stmt := topS 22
abbrev nBD : List Str := ["part", "cause", "name"]
theorem scBD : FnScope nBD ["part", "cause"] (defScope sBD) := ⟨rfl, rfl, rfl, by decide +kernel, rfl, by decide +kernel, by decide +kernel⟩
def badB (part cause : List Nm) : Bool := decide (∀ n ∈ cause, n ∈ part)
section
variable {P : Program} {w : World} {K : PySem.W.Frag} {mg : Str → Option Value} {base : Heap} {H : Hp} {v : V} {Q : VK} {E : XK} {Ts : List Addr}
theorem Ev.inD {σ : L2.St} {ta tb : TE} {x y : V} {xs : List PyData} {d : PyData} {p : Prop} [Decidable p] (hp : (xs.any fun y => PyData.eqv y d) = true ↔ p) (ha : Ev ta σ H x) (hb : Ev tb σ H y) (hx : Dp K H x d) (hy : Dp K H y (.list xs)) (sx : solidAll xs = true) (sd : solid d = true) (dd : d.depth ≤ 60) : Ev (tOp (GX.rInP K) ta tb) σ H (.bl (decide p)) := fun R r => ha _ (hb _ ⟨xs, d, hy, hx, solidAll_plain _ sx, solid_plain _ sd, dd, by
  rw [show (xs.any fun y => PyData.eqv y d) = decide p from by
    rw [Bool.eq_iff_iff, decide_eq_true_iff]
    exact hp]
  exact r⟩)
theorem ret_op {r : R2} {c : V} {tl : TE} {D : Ends} {σ : L2.St} {H : Hp} (h : tl σ H fun v H1 => r c v H1 D.rt) : tRet (tOp r (tC c) tl) D σ H := h
def spBD : Sp := fun vs H Q _ => ∃ (pa ca : Addr) (pw cw : List V) (part cause : List Nm), vs = [.ref pa, .ref ca] ∧ H pa = some (.lst pw) ∧ EachIs (NmAt H) pw part ∧ H ca = some (.lst cw) ∧ EachIs (NmAt H) cw cause ∧ part.length ≤ 1000 ∧ cause.length ≤ 1000 ∧ ∀ H', Same H H' → Q (.bl (badB part cause)) H'
theorem ok_BD {f : Addr} {fd : FuncData} (F : Fun K "_law_bad" "_law_bad" sBD f fd) : FnOk P w K mg base CX0 1 f fd ["part", "cause"] spBD := by
  refine F.ok scBD (fun vs H Q E h => ?_) (fun cdv A outer s H vs Q E hr h => ?_)
  · obtain ⟨pa, ca, pw, cw, part, cause, rfl, _⟩ := h
    rfl
  · obtain ⟨pa, ca, pw, cw, part, cause, rfl, hpa, hpw, hca, hcw, l1, l2, q⟩ := h
    have hu := hr.units
    have hu1 := hu_of hr
    have zl := zl
    refine ⟨_, (pss_one (ps_ret (pe_cmpR op_notIn_seq (pe_bl) (pe_lc (own := [("name", 2)]) (g := gName 2) (tt := tYes) (te := tOp (GX.rInP K) (tVar 2) (tVar 0)) rfl scBD.nd (pi_list (pv 1)) (blkOk_by (N := nBD) (sc := defScope sBD) (by decide +kernel)) (fun _ _ _ _ _ => by exact pg_name (i := 2) scBD.nd rfl (.inl rfl)) (fun _ _ _ _ _ => pts_nil) (fun _ _ _ _ _ => by exact pe_cmpR (GX.op_inP hu) (pv 2) (pv 0) (by rfl))) (by rfl)))), ?_⟩
    dsimp only [cxOf, Cx.nox]
    refine ret_op ?_
    refine lc_gen (R := NmAt) (S := fun _ _ v b => v = V.bl b) (fun _ => true) (fun n => decide (n ∈ part)) (.var rfl) hca (by omega) (fun H' s => each_nm (Same.ts s) hcw) (fun _ _ z => z) (fun v x H' hx s hv Q' hq => hq) (fun v x H' D' hx hf s hv hD Q' hq => ?_) fun F us H1 s1 nF eF hus => ?_
    · exact Ev.inD (p := x ∈ part) (any_nm x part) (.var rfl) (.var rfl) (dp_nm hv) (.lst (SqL.of (s _ _ hpa)) (dp_each (fun _ _ h => dp_nm h) (each_nm (Same.ts s) hpw))) (solid_nms _) (solid_nm _) (by rw [nm_depth]; decide) _ (hq _ H' same_refl rfl)
    rw [List.filter_eq_self.mpr fun _ _ => rfl] at hus
    have eu : us = (cause.map fun n => decide (n ∈ part)).map V.bl := by
      have : ∀ {ws : List V} {bs : List Bool}, EachIs (fun v b => v = V.bl b) ws bs → ws = bs.map V.bl := by
        intro ws bs h
        induction h with
        | nil => rfl
        | cons h _ ih => rw [h, ih]; rfl
      exact this hus
    refine ⟨F, us, rfl, .inl (SqL.of eF), rfl, ?_, ?_⟩
    · rw [eu, List.all_eq_true]
      intro x hx
      obtain ⟨b, _, rfl⟩ := List.mem_map.mp hx
      rfl
    · have e : (!inV (.bl false) us) = badB part cause := by
        rw [eu]
        unfold badB inV
        rw [Bool.eq_iff_iff, decide_eq_true_iff, Bool.not_eq_true', List.any_eq_false]
        constructor
        · intro h n hn
          refine Decidable.byContradiction fun z => h (V.bl (decide (n ∈ part))) (List.mem_map.mpr ⟨_, List.mem_map.mpr ⟨n, hn, rfl⟩, rfl⟩) ?_
          rw [decide_eq_false z]
          rfl
        · intro h x hx
          obtain ⟨b, hb, rfl⟩ := List.mem_map.mp hx
          obtain ⟨n, hn, rfl⟩ := List.mem_map.mp hb
          rw [decide_eq_true (h n hn)]
          decide
      show Q (.bl (!inV (.bl false) us)) H1
      rw [e]
      exact q H1 s1
end
end K20
namespace K20
open PySem PySem.Spec PyProof.Rows L2 TL TR QR
open GxR (TabB TabG Tabbed)
open PySem.W (EachIs)
open GX (dNO KeysAt)
abbrev sCS : Stmt := topS 23
abbrev nCS : List Str := ["state", "label", "row", "files", "good", "fresh", "causes", "tests", "cause", "part"]
theorem scCS : FnScope nCS ["state"] (defScope sCS) := ⟨rfl, rfl, rfl, by decide +kernel, rfl, by decide +kernel, by decide +kernel⟩
section
variable {P : Program} {w : World} {K : PySem.W.Frag} {mg : Str → Option Value} {base : Heap} {H : Hp} {v : V} {Q : VK} {E : XK} {Ts : List Addr}
/-- those that a draw each lets through -/
theorem lc_draw {p c a : Addr} {H0 : Hp} {ws : List V} {xss : List (List Nm)} {j : Nat} {tl : TE} {σ : L2.St} (st0 : StateAt H0 p c) (d0 : Dr p c H0 H) (h0 : ∀ v, ((wipe σ [j]).set j (some v))[0]? = some (some (.ref p))) (hj : ∀ v, ((wipe σ [j]).set j (some v))[j]? = some (some v))
    (ev : Ev tl σ H (.ref a)) (na : H0 a = none) (ha : H a = some (.lst ws)) (he : EachIs (NsAt (fun a => H0 a = none) H) ws xss) (lx : xss.length ≤ 100000)
    (q : ∀ D us H' yss, Dr p c H H' → H D = none → H' D = some (.lst us) → EachIs (NsAt (fun a => H0 a = none) H') us yss → yss.Sublist xss → Q (.ref D) H') :
    tLc (iList K tl) (gName j) (tTest (tOp (rI0 fun i j => V.bl (decide (j < i))) (tCall spDraw [] E0 (tCons (tVar 0) (tCons (tC (V.int 3)) tNil))) (tC (V.int 0)))) (tVar j) [j] σ H Q := by
  have zl := zl
  refine ev _ ⟨a, rfl, ⟨ws, SqL.of ha⟩, fun D nD => ?_⟩
  have nDa : a ≠ D := fun z => by rw [z, nD] at ha; cases ha
  have nDp := d0.st.new nD
  have nap := st0.new na
  have lw := he.length
  have hN : ∀ b, (H0 b = none ∧ b ≠ D) → b ≠ p ∧ b ≠ c := fun b h => st0.new h.1
  have he' := he.mono fun _ _ z => NsAt.new nD z
  refine lc_list (xs := ws) (fun i H' => Dr p c H H' ∧ ∃ us yss, H' D = some (.lst us) ∧ EachIs (NsAt (fun a => H0 a = none ∧ a ≠ D) H') us yss ∧ yss.Sublist (xss.take i)) ⟨(Dr.refl d0.st).same (same_new nD), [], [], upd_same, .nil, List.nil_sublist _⟩ (fun i H' _ h => SqL.of (h.1.ou _ _ nap.1 nap.2 ha)) ?_ ?_
  · rintro i v H' hv ⟨d, us, yss, eD, hs, sub⟩
    obtain ⟨x, hx, hR⟩ := each_at he' hv
    have et : xss.take (i + 1) = xss.take i ++ [x] := by rw [List.take_add_one, hx]; rfl
    have lt := (List.getElem?_eq_some_iff.mp hx).1
    have lus := hs.length
    have lsub := sub.length_le
    rw [List.length_take] at lsub
    refine ⟨by simp only [wipe, List.set_set], ?_⟩
    refine ⟨_, h0 v, p, c, 3, rfl, by decide, d.st, fun H2 r _ _ st2 dd => ⟨_, _, rfl, rfl, _, rfl, ?_⟩⟩
    have d2 := (Dr.refl d.st).drawn st2 dd
    have dH := d.trans d2
    have eD2 := d2.ou D _ nDp.1 nDp.2 eD
    have hs2 := hs.mono fun _ _ z => NsAt.lf (Dr.lf d.st d2 hN) z
    have hR2 := hR.lf (Dr.lf d0.st dH hN)
    by_cases hr : (0 : Int) < (r : Int)
    · refine yes_if (decide_eq_true hr) ⟨v, hj v, us, eD2, by omega, Dr.updF d0.st dH nD, us ++ [v], yss ++ [x], upd_same, ?_, ?_⟩
      · have lf : LF (fun a => H0 a = none ∧ a ≠ D) H2 (upd H2 D (.lst (us ++ [v]))) := lf_upd eD2 fun z => z.2 rfl
        exact each_snoc (hs2.mono fun _ _ z => z.lf lf) (hR2.lf lf)
      · rw [et]
        exact sub.append (List.Sublist.refl _)
    · refine no_if (decide_eq_false hr) ⟨dH, us, yss, eD2, hs2, ?_⟩
      rw [et]
      exact sub.trans (List.sublist_append_left _ _)
  · rintro H' ⟨d, us, yss, eD, hs, sub⟩
    rw [lw, List.take_length] at sub
    exact q D us H' yss d nD eD (hs.mono fun _ _ z => z.imp fun a h => h.1) sub
theorem sl_front {te : TE} {k : Int} {σ : L2.St} (h : te σ H fun x H1 => ∃ i, V.int k = V.int i ∧ rSlL K x none (some i) H1 Q) : tSl (rSlL K) te tNoPart (tPart (tC (.int k))) σ H Q := h
theorem lc_call {tl te : TE} {g : L2.TG} {tt : TT} {vs : List Nat} {σ : L2.St} (h : tl σ H fun v H1 => tLc (iList K (tC v)) g tt te vs σ H1 Q) : tLc (iList K tl) g tt te vs σ H Q := h
theorem cut_to (xs : List V) (k : Nat) : cutV xs none (some (k : Int)) = xs.take k := by
  unfold cutV
  rw [HT.sIx_none, HT.sIx_nat, List.drop_zero, Nat.sub_zero]
  by_cases h : k ≤ xs.length
  · rw [Nat.min_eq_left h]
  · rw [Nat.min_eq_right (by omega), List.take_of_length_le (Nat.le_refl _), List.take_of_length_le (by omega)]
theorem each_take {α : Type} {R : V → α → Prop} : ∀ {ws : List V} {xs : List α}, EachIs R ws xs → ∀ m : Nat, EachIs R (ws.take m) (xs.take m)
  | _, _, _, 0 => .nil
  | _, _, .nil, _ + 1 => .nil
  | _, _, .cons h t, m + 1 => .cons h (each_take t m)
def spCS : Sp := fun vs H Q _ => ∃ (p c : Addr), vs = [.ref p] ∧ StateAt H p c ∧
  ∀ H' t cv tv l Ps g2 g3 gs css tss, Dr p c H H' → H' t = some (.tup [cv, tv]) → LsAt (fun a => H a = none) H' cv css → LsAt (fun a => H a = none) H' tv tss → l.1 < 8 → l.2 ∈ marks3 → PsOk l Ps → Ps.length ≤ 8 → BwOk Ps g2 → BwOk Ps g3 →
    css.Sublist (causesOf g2 (srtN ((Ps.map (·.nm)).filter fun n => decide (¬ n ∈ gs)))) → css.length ≤ 7 → tss.Sublist (partsOf g3 gs (srtN ((Ps.map (·.nm)).filter fun n => decide (¬ n ∈ gs)))) → tss.length ≤ 12 → gs.Nodup → ((Ps.map (·.nm)).filter fun n => decide (¬ n ∈ gs)).length ≤ 5 → Q (.ref t) H'
theorem ok_CS {f fPW fBT fCA fPR fD : Addr} {fd fdPW fdBT fdCA fdPR fdD : FuncData} (F : Fun K "_law_case" "_law_case" sCS f fd)
    (GPW : FnOk P w K mg base CX0 5 fPW fdPW ["state", "most"] spPW) (bPW : Binds K fdPW ["state", "most"] []) (gPW : mg "_law_patchwork" = some (.ref fPW)) (kPW : PySem.W.keepIn K (.ref fPW) = true)
    (GBT : FnOk P w K mg base CX0 3 fBT fdBT ["state", "row", "most"] (spBT P w)) (bBT : Binds K fdBT ["state", "row", "most"] []) (gBT : mg "_law_between" = some (.ref fBT)) (kBT : PySem.W.keepIn K (.ref fBT) = true)
    (GCA : FnOk P w K mg base CX0 3 fCA fdCA ["row", "fresh"] (spCA P w)) (bCA : Binds K fdCA ["row", "fresh"] []) (gCA : mg "_law_causes" = some (.ref fCA)) (kCA : PySem.W.keepIn K (.ref fCA) = true)
    (GPR : FnOk P w K mg base CX0 3 fPR fdPR ["row", "good", "fresh"] (spPR P w)) (bPR : Binds K fdPR ["row", "good", "fresh"] []) (gPR : mg "_law_parts" = some (.ref fPR)) (kPR : PySem.W.keepIn K (.ref fPR) = true)
    (GD : FnOk P w K mg base CX0 1 fD fdD ["state", "many"] spDraw) (bD : Binds K fdD ["state", "many"] []) (gD : mg "_law_draw" = some (.ref fD)) (kD : PySem.W.keepIn K (.ref fD) = true) : FnOk P w K mg base CX0 6 f fd ["state"] spCS := by
  refine F.ok scCS (fun vs H Q E h => ?_) (fun cdv A outer s H vs Q E hr h => ?_)
  · obtain ⟨p, c, rfl, _⟩ := h
    rfl
  · obtain ⟨p, c, rfl, st, q⟩ := h
    have hu := hr.units
    have hu1 := hu_of hr
    have hr1 : Room 1 _ := hr.mono (by decide)
    have hr2 : Room 2 _ := hr.mono (by decide)
    have hr3 : Room 3 _ := hr.mono (by decide)
    have hr4 : Room 4 _ := hr.mono (by decide)
    have hr5 : Room 5 _ := hr.mono (by decide)
    have zl := zl
    refine ⟨_, (pss_cons (ps_asg (pe_call GPW hr5 (by rfl) gPW kPW bPW .nil pass0 (pa_cons (pv 0) (pa_cons (pe_int) pa_nil))) (pg_tup (by rfl) (pgs_cons (pg_name (i := 1) scCS.nd rfl (.inl rfl)) (pgs_cons (pg_name (i := 2) scCS.nd rfl (.inl rfl)) (pgs_cons (pg_name (i := 3) scCS.nd rfl (.inl rfl)) pgs_nil)))))
      (pss_cons (ps_asg (pe_call GBT hr3 (by rfl) gBT kBT bBT .nil pass0 (pa_cons (pv 0) (pa_cons (pv 2) (pa_cons (pe_int) pa_nil)))) (pg_tup (by rfl) (pgs_cons (pg_name (i := 4) scCS.nd rfl (.inl rfl)) (pgs_cons (pg_name (i := 5) scCS.nd rfl (.inl rfl)) pgs_nil))))
      (pss_cons (ps_set (i := 6) scCS.nd rfl (.inl rfl) (pe_call GCA hr3 (by rfl) gCA kCA bCA .nil pass0 (pa_cons (pv 2) (pa_cons (pv 5) pa_nil))))
      (pss_cons (ps_set (i := 6) scCS.nd rfl (.inl rfl) (pe_slice sl_list (pe_lc (own := [("cause", 8)]) (g := gName 8) (tt := tTest (tOp (rI0 fun i j => .bl (decide (j < i))) (tCall spDraw [] E0 (tCons (tVar 0) (tCons (tC (.int 3)) tNil))) (tC (.int 0)))) (te := tVar 8) rfl scCS.nd (pi_list (pv 6)) (blkOk_by (N := nCS) (sc := defScope sCS) (by decide +kernel)) (fun _ _ _ _ _ => by exact pg_name (i := 8) scCS.nd rfl (.inl rfl)) (fun _ _ _ _ _ => by exact pts_one (pt_cmpR op_gt (pe_call GD hr1 (by rfl) gD kD bD .nil pass0 (pa_cons (pv 0) (pa_cons (pe_int) pa_nil))) (pe_int) (nomark _))) (fun _ _ _ _ _ => by exact pv 8)) (po_none) (po_some (pe_int))))
      (pss_cons (ps_set (i := 7) scCS.nd rfl (.inl rfl) (pe_slice sl_list (pe_lc (own := [("part", 9)]) (g := gName 9) (tt := tTest (tOp (rI0 fun i j => .bl (decide (j < i))) (tCall spDraw [] E0 (tCons (tVar 0) (tCons (tC (.int 3)) tNil))) (tC (.int 0)))) (te := tVar 9) rfl scCS.nd (pi_list (pe_call GPR hr3 (by rfl) gPR kPR bPR .nil pass0 (pa_cons (pv 2) (pa_cons (pv 4) (pa_cons (pv 5) pa_nil))))) (blkOk_by (N := nCS) (sc := defScope sCS) (by decide +kernel)) (fun _ _ _ _ _ => by exact pg_name (i := 9) scCS.nd rfl (.inl rfl)) (fun _ _ _ _ _ => by exact pts_one (pt_cmpR op_gt (pe_call GD hr1 (by rfl) gD kD bD .nil pass0 (pa_cons (pv 0) (pa_cons (pe_int) pa_nil))) (pe_int) (nomark _))) (fun _ _ _ _ _ => by exact pv 9)) (po_none) (po_some (pe_int))))
      (pss_one (ps_ret (pe_tup (pa_cons (pv 6) (pa_cons (pv 7) pa_nil)))))))))), ?_⟩
    dsimp only [cxOf, Cx.nox]
    refine ⟨_, rfl, p, c, 8, rfl, by decide, st, fun H1 t1 lv rv fv0 l Ps d1 ht1 hlab l8 lm ⟨rw, nrv, hrv, hrw⟩ ok lP => ?_⟩
    refine ⟨t1, _, rfl, SqT.of ht1, rfl, lv, _, rfl, .ref rv, _, rfl, fv0, _, rfl, rfl, ?_⟩
    dsimp only
    have nrp := st.new nrv
    have hN : ∀ a, H a = none → a ≠ p ∧ a ≠ c := fun a h => st.new h
    refine ⟨_, rfl, _, rfl, p, c, rv, rw, Ps, l, fun a => H a = none, 5, rfl, d1.st, nrp.1, nrp.2, hN, hrv, hrw, ok, by omega, fun H2 t2 gv fv g gs d2 ht2 hgs hfs bok gd lfs => ?_⟩
    refine ⟨t2, _, rfl, SqT.of ht2, rfl, gv, _, rfl, fv, _, rfl, rfl, ?_⟩
    dsimp only
    have d12 := d1.trans d2
    have lf12 : LF (fun a => H a = none) H1 H2 := dr_lf0 st d1.st d2
    have hrv2 := lf12.ls _ _ nrv hrv
    have hrw2 := hrw.mono fun _ _ z => PatAt.lf lf12 z
    have hgs2 := hgs.imp (N' := fun a => H a = none) fun a n => d1.none n
    have hfs2 := hfs.imp (N' := fun a => H a = none) fun a n => d1.none n
    obtain ⟨ga, gw, rfl, nga, hga, hgw⟩ := hgs2
    obtain ⟨fa, fw, rfl, nfa, hfa, hfw⟩ := hfs2
    have fsub : ∀ n ∈ srtN ((Ps.map (·.nm)).filter fun n => decide (¬ n ∈ gs)), n ∈ Ps.map (·.nm) := fun n h => (List.mem_filter.mp (List.mem_mergeSort.mp h)).1
    have lsr : (srtN ((Ps.map (·.nm)).filter fun n => decide (¬ n ∈ gs))).length ≤ 5 := by
      unfold srtN
      rw [List.length_mergeSort]
      exact lfs
    have lgs : gs.length ≤ 8 := by
      have := nd_len gd.nd gd.sub
      rw [List.length_map] at this
      omega
    refine ⟨_, rfl, _, rfl, rv, fa, rw, fw, Ps, l, fun a => H a = none, _, rfl, hrv2, hrw2, ok, by omega, hfa, hfw, fsub, by omega, fun H3 cv g2 s3 bok2 hcs => name_to ?_⟩
    dsimp only
    have d13 := d12.same s3
    have hcs3 := hcs.imp (N' := fun a => H a = none) fun a n => d12.none n
    obtain ⟨ca, cw, rfl, nca, hca, hcw⟩ := hcs3
    refine asg_seq (sl_front ?_)
    refine lc_draw st d13 (fun _ => rfl) (fun _ => rfl) (.var rfl) nca hca hcw (by
      have := hcw.length
      have l1 : ∀ (g : Nm → List Nm) (one : Nm) (r : List Nm), (pairsAt g one r).length ≤ r.length := fun g one r => by unfold pairsAt; rw [List.length_map]; exact List.length_filter_le _ _
      have l2 : ∀ (g : Nm → List Nm) (fs : List Nm), (pairsOf g fs).length ≤ fs.length * fs.length := fun g fs => by
        induction fs with
        | nil => exact Nat.le_refl _
        | cons n r ih =>
          show (pairsAt g n r ++ pairsOf g r).length ≤ _
          rw [List.length_append, List.length_cons]
          have := l1 g n r
          have : (r.length + 1) * (r.length + 1) = r.length * r.length + 2 * r.length + 1 := by
            rw [Nat.succ_mul, Nat.mul_succ]
            omega
          omega
      have l3 := l2 g2 (srtN ((Ps.map (·.nm)).filter fun n => decide (¬ n ∈ gs)))
      have l4 : (srtN ((Ps.map (·.nm)).filter fun n => decide (¬ n ∈ gs))).length * (srtN ((Ps.map (·.nm)).filter fun n => decide (¬ n ∈ gs))).length ≤ 5 * 5 := Nat.mul_le_mul lsr lsr
      unfold causesOf
      rw [List.length_append, List.length_map]
      omega) fun G us H4 css d4 nG eG hG subc => ⟨7, rfl, G, us, rfl, SqL.of eG, fun C nC => ?_⟩
    have d14 := d13.trans d4
    rw [show cutV us none (some 7) = us.take 7 from cut_to us 7]
    have sC := same_new (o := .lst (us.take 7)) nC
    have hC : LsAt (fun a => H a = none) (upd H4 C (.lst (us.take 7))) (.ref C) (css.take 7) := ⟨C, _, rfl, d14.none nC, upd_same, each_take (hG.mono fun _ _ z => z.lf (Same.lf sC)) 7⟩
    have d15 := d14.same sC
    have lf15 : LF (fun a => H a = none) H2 (upd H4 C (.lst (us.take 7))) := ((Same.lf s3).trans (dr_lf0 st d13.st d4)).trans (Same.lf sC)
    generalize upd H4 C (.lst (us.take 7)) = H5 at *
    dsimp only
    refine asg_seq (sl_front ?_)
    refine lc_call ⟨_, rfl, _, rfl, _, rfl, rv, ga, fa, rw, gw, fw, Ps, l, fun a => H a = none, gs, _, rfl, lf15.ls _ _ nrv hrv2, hrw2.mono fun _ _ z => PatAt.lf lf15 z, ok, by omega, lf15.ls _ _ nga hga, each_nm lf15.ts hgw, by omega, lf15.ls _ _ nfa hfa, each_nm lf15.ts hfw, fsub, by omega, fun H6 pv g3 s6 bok3 hps => ?_⟩
    have d16 := d15.same s6
    have hps6 := hps.imp (N' := fun a => H a = none) fun a n => d15.none n
    obtain ⟨pa, pw, rfl, npa, hpa, hpw⟩ := hps6
    refine lc_draw st d16 (fun _ => rfl) (fun _ => rfl) .con npa hpa hpw (by
      unfold partsOf srtP
      rw [List.length_mergeSort]
      refine Nat.le_trans (List.length_filter_le _ _) ?_
      rw [List.length_map, List.length_range]
      exact Nat.le_trans (Nat.pow_le_pow_right (by decide : 2 > 0) lsr) (by decide)) fun T tw H7 tss d7 nT eT hT subt => ⟨12, rfl, T, tw, rfl, SqL.of eT, fun Z nZ => ?_⟩
    have d17 := d16.trans d7
    rw [show cutV tw none (some 12) = tw.take 12 from cut_to tw 12]
    have sZ := same_new (o := .lst (tw.take 12)) nZ
    refine ⟨_, rfl, _, rfl, by show 2 ≤ sizeLine; omega, fun t nt => ?_⟩
    have st2 := same_new (o := .tup [.ref C, .ref Z]) nt
    have hZ : LsAt (fun a => H a = none) (upd H7 Z (.lst (tw.take 12))) (.ref Z) (tss.take 12) := ⟨Z, _, rfl, d17.none nZ, upd_same, each_take (hT.mono fun _ _ z => z.lf (Same.lf sZ)) 12⟩
    have lf57 : LF (fun a => H a = none) H5 (upd H7 Z (.lst (tw.take 12))) := ((Same.lf s6).trans (dr_lf0 st d16.st d7)).trans (Same.lf sZ)
    exact q _ t _ _ l Ps g2 g3 gs (css.take 7) (tss.take 12) ((d17.same sZ).same st2) upd_same ((hC.lf lf57).lf (Same.lf st2)) (hZ.lf (Same.lf st2)) l8 lm ok lP bok2 bok3 ((List.take_sublist _ _).trans subc) (List.length_take_le _ _) ((List.take_sublist _ _).trans subt) (List.length_take_le _ _) gd.nd lfs
end
end K20
namespace K20
open PySem PySem.Spec PyProof.Rows L2 TL TR QR
open GxR (TabB TabG Tabbed)
open PySem.W (EachIs)
open GX (dNO KeysAt)
abbrev sIB : Stmt := topS 1
abbrev nIB : List Str := ["part", "cause", "name"]
theorem scIB : FnScope nIB ["part", "cause"] (defScope sIB) := ⟨rfl, rfl, rfl, by decide +kernel, rfl, by decide +kernel, by decide +kernel⟩
theorem tabbed_refl {P : Addr} {H : Hp} (h : TabG H P) : Tabbed P H H := ⟨h, fun _ _ => rfl⟩
theorem tabbed_ts {T : Addr} {H H' : Hp} (g : TabG H T) (t : Tabbed T H H') : TS H H' := fun b xs e => (t.2 b (tab_ne g e fun _ z => nomatch z)).trans e
theorem tabbed_ls {T : Addr} {H H' : Hp} (g : TabG H T) (t : Tabbed T H H') {a : Addr} {xs : List V} (e : H a = some (.lst xs)) : H' a = some (.lst xs) := (t.2 a (tab_ne g e fun _ z => nomatch z)).trans e
section
variable {P : Program} {w : World} {K : PySem.W.Frag} {mg : Str → Option Value} {base : Heap} {H : Hp} {v : V} {Q : VK} {E : XK} {Ts : List Addr}
def spIB (T : Addr) : Sp := fun vs H Q _ => ∃ (pa ca : Addr) (pw cw : List V) (part cause : List Nm), vs = [.ref pa, .ref ca] ∧ H pa = some (.lst pw) ∧ EachIs (NmAt H) pw part ∧ H ca = some (.lst cw) ∧ EachIs (NmAt H) cw cause ∧ TabG H T ∧ ∀ H', Tabbed T H H' → Q (.bl (badB part cause)) H'
theorem ok_IB {T1 c f : Addr} {oc kV doc pm ct : Value} {od an : Option Addr} {osl : Array (Option Value)} (lk : K.lookup f = some ⟨oc, od, .func (PySem.W.fnOf "is_bad" "is_bad" (defArgs sIB) (defBody sIB) (defScope sIB) .none kV doc pm an (.ref c) ct), osl⟩)
    (hcd : PySem.W.codeIn K (.ref c) "is_bad" = true) (TB : TabB base mg c T1) (m_all : mg "all" = none) :
    FnOk P w K mg base CX0 2 f (PySem.W.fnOf "is_bad" "is_bad" (defArgs sIB) (defBody sIB) (defScope sIB) .none kV doc pm an (.ref c) ct) ["part", "cause"] (spIB T1) := by
  refine fn_of lk hcd scIB (fun vs H Q E h => ?_) fun A outer s H vs Q E hr h => ?_
  · obtain ⟨pa, ca, pw, cw, part, cause, rfl, _⟩ := h
    rfl
  · obtain ⟨pa, ca, pw, cw, part, cause, rfl, hpa, hpw, hca, hcw, hT, q⟩ := h
    have hu := hr.units
    have hu1 := hu_of hr
    have zl := zl
    have hrX : Room (0 + 1) _ := hr
    refine ⟨_, (pss_one (ps_ret (GX.pe_allG (k := 0) (own := [("name", 2)]) (g := gName 2) (tt := tYes) (te := tOp (GX.rInP K) (tVar 2) (tVar 0)) hrX rfl scIB.nd (by rfl) m_all ⟨blkOk_by (N := nIB) (sc := defScope sIB) (by decide +kernel), by decide +kernel, rfl, rfl, TB, rfl⟩ (pi_list (pv 1)) (fun _ _ _ _ _ _ hrG => by exact pg_name (i := 2) scIB.nd rfl (.inl rfl)) (fun _ _ _ _ _ _ hrG => pts_nil) (fun _ _ _ _ _ _ hrG => by exact pe_cmpR (GX.op_inP hrG.units) (pv 2) (pv 0) (by rfl)) (fun _ => rfl)))), ?_⟩
    dsimp only [cxOf, Cx.nox]
    refine ⟨_, rfl, ca, rfl, ⟨_, SqL.of hca⟩, hT, fun H4 t4 => ?_⟩
    have lcw := hcw.length
    refine GX.wk_list (xs := cw) (fun i H' => Tabbed T1 H H' ∧ ∀ n ∈ cause.take i, n ∈ part) ⟨t4, fun n h => by rw [List.take_zero] at h; cases h⟩ (fun i H' _ h => SqL.of (tabbed_ls hT h.1 hca)) ?_ ?_
    · rintro i v H5 hv ⟨t5, hn⟩
      obtain ⟨x, hx, hxv⟩ := each_at hcw hv
      have ts := tabbed_ts hT t5
      refine ⟨rfl, ?_⟩
      refine Ev.inD (p := x ∈ part) (any_nm x part) (.var rfl) (.var rfl) (dp_nm (hxv.ts ts)) (.lst (SqL.of (tabbed_ls hT t5 hpa)) (dp_each (fun _ _ h => dp_nm h) (each_nm ts hpw))) (solid_nms _) (solid_nm _) (by rw [nm_depth]; decide) _ ⟨_, rfl, ?_⟩
      by_cases hp : x ∈ part
      · rw [if_neg (by simp [hp])]
        refine ⟨t5, fun n h => ?_⟩
        rw [List.take_add_one, hx] at h
        rcases List.mem_append.mp h with z | z
        · exact hn n z
        · rw [List.mem_singleton.mp z]
          exact hp
      · rw [if_pos (by simp [hp])]
        have e : badB part cause = false := decide_eq_false fun h => hp (h x (List.mem_of_getElem? hx))
        have := q H5 t5
        rw [e] at this
        exact this
    · rintro H5 ⟨t5, hn⟩
      rw [lcw, List.take_length] at hn
      have e : badB part cause = true := decide_eq_true hn
      have := q H5 t5
      rw [e] at this
      exact this
end
end K20
/-! a comprehension over enumerate(xs) -/
namespace K20
open PySem PySem.Spec PyProof.Rows L2 TL TR QR
open PySem.W (EachIs)
def enumFM {α β : Type} (f : Nat → α → Bool) (m : Nat → α → β) (xs : List α) : List β := ((xs.zipIdx).filter fun p => f p.2 p.1).map fun p => m p.2 p.1
theorem enumFM_snoc {α β : Type} (f : Nat → α → Bool) (m : Nat → α → β) (xs : List α) (x : α) : enumFM f m (xs ++ [x]) = enumFM f m xs ++ if f xs.length x = true then [m xs.length x] else [] := by
  unfold enumFM
  rw [List.zipIdx_append, List.filter_append, List.map_append]
  congr 1
  rw [List.zipIdx_cons, List.zipIdx_nil, List.filter_cons, Nat.zero_add]
  split <;> rfl
section
variable {P : Program} {w : World} {K : PySem.W.Frag}
theorem lc_enum {α β : Type} {R : Hp → V → α → Prop} {S : Addr → Hp → V → β → Prop} {a : Addr} {ws : List V} {xs : List α} {i j : Nat} {tl te : TE} {tt : TT} {σ : L2.St} {H : Hp} {Q : VK} (f : Nat → α → Bool) (m : Nat → α → β)
    (ev : Ev tl σ H (.ref a)) (ha : H a = some (.lst ws)) (lx : xs.length ≤ 1000000) (he : ∀ H', Same H H' → EachIs (R H') ws xs)
    (hw : ∀ u v, wipe (((wipe σ [i, j]).set i (some u)).set j (some v)) [i, j] = wipe σ [i, j])
    (st : ∀ {D : Addr} {H1 H2 : Hp} {v : V} {y : β}, (∃ us, H1 D = some (.lst us)) → (∀ b o, b ≠ D → H1 b = some o → H2 b = some o) → S D H1 v y → S D H2 v y)
    (ht : ∀ (k : Nat) (v : V) (x : α) (H' : Hp), xs[k]? = some x → Same H H' → R H' v x → ∀ Q' : Bool → Hp → Prop, Q' (f k x) H' → tt (((wipe σ [i, j]).set i (some (.int (k : Int)))).set j (some v)) H' Q')
    (hm : ∀ (k : Nat) (v : V) (x : α) (H' : Hp) (D : Addr), xs[k]? = some x → f k x = true → Same H H' → R H' v x → (∃ us, H' D = some (.lst us)) → ∀ Q' : VK, (∀ y H'', Same H' H'' → S D H'' y (m k x) → Q' y H'') → te (((wipe σ [i, j]).set i (some (.int (k : Int)))).set j (some v)) H' Q')
    (q : ∀ (D : Addr) (us : List V) (H' : Hp), Same H H' → H D = none → H' D = some (.lst us) → EachIs (S D H') us (enumFM f m xs) → Q (.ref D) H') :
    tLc (iEnum K (tCons tl tNil)) (gTup K 2 (gCons (gName i) (gCons (gName j) gNil))) tt te [i, j] σ H Q := by
  have zl := zl
  refine ev _ ⟨a, ws, rfl, SqL.of ha, fun D nD => ?_⟩
  have lw := (he H same_refl).length
  refine lc_it (walk_enum (K := K) (a := a) (xs := ws)) (fun k H' => Same H H' ∧ ∃ us, H' D = some (.lst us) ∧ EachIs (S D H') us (enumFM f m (xs.take k))) ⟨same_new nD, [], upd_same, .nil⟩ ?_ ?_ ?_
  · rintro k H' _ ⟨s, _⟩
    exact SqL.of (s _ _ ha)
  · rintro k y H' H1 hk ⟨s, us, eD, hs⟩ ⟨T, y1, y2, rfl, nT, rfl, hy1, hy2⟩
    cases hy1
    have sT := same_new (o := .tup [.int (k : Int), y2]) nT
    have s1 := same_trans s sT
    have eD1 := sT _ _ eD
    have hs1 := hs.mono fun _ _ z => st ⟨us, eD⟩ (fun b o _ e => sT b o e) z
    have eT : upd H' T (.tup [.int (k : Int), y2]) T = some (.tup [.int (k : Int), y2]) := upd_same
    generalize upd H' T (.tup [.int (k : Int), y2]) = H2 at *
    obtain ⟨x, hx, hR⟩ := each_at (he H2 s1) hy2
    have lt := (List.getElem?_eq_some_iff.mp hx).1
    have ul := hs.length
    have et : enumFM f m (xs.take (k + 1)) = enumFM f m (xs.take k) ++ if f k x = true then [m k x] else [] := by
      rw [List.take_add_one, hx]
      show enumFM f m (xs.take k ++ [x]) = _
      rw [enumFM_snoc, List.length_take, Nat.min_eq_left (by omega)]
    have fl : (enumFM f m (xs.take k)).length ≤ k := by
      unfold enumFM
      rw [List.length_map]
      exact Nat.le_trans (List.length_filter_le _ _) (by rw [List.length_zipIdx, List.length_take]; omega)
    refine ⟨T, _, rfl, SqT.of eT, rfl, _, _, rfl, _, _, rfl, rfl, hw _ _, ht k y2 x H2 hx s1 hR _ ?_⟩
    by_cases hf : f k x = true
    · rw [if_pos hf]
      rw [if_pos hf] at et
      refine hm k y2 x H2 D hx hf s1 hR ⟨us, eD1⟩ _ fun y H3 s3 hy => ?_
      have but : ∀ b o, b ≠ D → H3 b = some o → upd H3 D (.lst (us ++ [y])) b = some o := fun b o n e => by rw [upd_ne n]; exact e
      have eD3 := s3 _ _ eD1
      refine ⟨us, eD3, by omega, fun b o e => ?_, us ++ [y], upd_same, ?_⟩
      · rw [upd_ne (ne_of_none e nD)]
        exact s3 _ _ (s1 _ _ e)
      · rw [et]
        exact each_snoc (hs1.mono fun _ _ z => st ⟨us, eD3⟩ but (st ⟨us, eD1⟩ (fun b o _ e => s3 b o e) z)) (st ⟨us, eD3⟩ but hy)
    · rw [if_neg hf]
      rw [if_neg hf, List.append_nil] at et
      refine ⟨s1, us, eD1, ?_⟩
      rw [et]
      exact hs1
  · rintro H' ⟨s, us, eD, hs⟩
    rw [lw, List.take_length] at hs
    exact q D us H' s nD eD hs
end
end K20
namespace K20
open PySem PySem.Spec PyProof.Rows L2 TL TR QR
open GxR (TabB TabG Tabbed)
open PySem.W (EachIs)
open GX (dNO KeysAt)
abbrev sFd (i : Nat) : Stmt := inClass (topS 2) i
abbrev sFI : Stmt := sFd 0
abbrev nFI : List Str := ["self", "causes", "tests", "cause", "part"]
theorem scFI : FnScope nFI ["self", "causes", "tests"] (defScope sFI) := ⟨rfl, rfl, rfl, by decide +kernel, rfl, by decide +kernel, by decide +kernel⟩
abbrev sBO : Stmt := sFd 1
abbrev nBO : List Str := ["self", "words", "k", "word"]
theorem scBO : FnScope nBO ["self", "words"] (defScope sBO) := ⟨rfl, rfl, rfl, by decide +kernel, rfl, by decide +kernel, by decide +kernel⟩
abbrev sNM : Stmt := sFd 2
abbrev nNM : List Str := ["self", "bits", "k", "cause"]
theorem scNM : FnScope nNM ["self", "bits"] (defScope sNM) := ⟨rfl, rfl, rfl, by decide +kernel, rfl, by decide +kernel, by decide +kernel⟩
abbrev sSD : Stmt := sFd 3
abbrev nSD : List Str := ["self", "bits", "rows", "kind", "bad"]
theorem scSD : FnScope nSD ["self", "bits"] (defScope sSD) := ⟨rfl, rfl, rfl, by decide +kernel, rfl, by decide +kernel, by decide +kernel⟩
abbrev sFE : Stmt := sFd 4
abbrev nFE : List Str := ["self", "bits", "numbers", "bad", "good"]
theorem scFE : FnScope nFE ["self", "bits"] (defScope sFE) := ⟨rfl, rfl, rfl, by decide +kernel, rfl, by decide +kernel, by decide +kernel⟩
abbrev sFT : Stmt := sFd 5
abbrev nFT : List Str := ["self", "bits", "index", "kind", "bad"]
theorem scFT : FnScope nFT ["self", "bits"] (defScope sFT) := ⟨rfl, rfl, rfl, by decide +kernel, rfl, by decide +kernel, by decide +kernel⟩
abbrev sBE : Stmt := sFd 6
abbrev nBE : List Str := ["self", "bits", "index", "bad"]
theorem scBE : FnScope nBE ["self", "bits"] (defScope sBE) := ⟨rfl, rfl, rfl, by decide +kernel, rfl, by decide +kernel, by decide +kernel⟩
/-- the number that words tell, from the bit k on -/
def bitsN (bs : List Bool) : Nat := ((enumFM (fun _ b => b) (fun k _ => 2 ^ k) bs)).sum
theorem sum_cast : ∀ l : List Nat, (l.map fun n : Nat => (n : Int)).sum = ((l.sum : Nat) : Int)
  | [] => rfl
  | n :: r => by rw [List.map_cons, List.sum_cons, List.sum_cons, sum_cast r, Int.natCast_add]
section
variable {P : Program} {w : World} {K : PySem.W.Frag} {mg : Str → Option Value} {base : Heap} {H : Hp} {v : V} {Q : VK} {E : XK} {Ts : List Addr}
def spBO : Sp := fun vs H Q _ => ∃ (x a : Addr) (bs : List Bool), vs = [.ref x, .ref a] ∧ H a = some (.lst (bs.map V.bl)) ∧ bs.length ≤ 64 ∧ ∀ H', Same H H' → Q (.int (bitsN bs : Int)) H'
theorem ok_BO {f : Addr} {fd : FuncData} (F : Fun K "bits_of" "Finder.bits_of" sBO f fd) (m_sum : mg "sum" = none) (m_enumerate : mg "enumerate" = none) : FnOk P w K mg base CX0 1 f fd ["self", "words"] spBO := by
  refine F.ok scBO (fun vs H Q E h => ?_) (fun cdv A outer s H vs Q E hr h => ?_)
  · obtain ⟨x, a, bs, rfl, _⟩ := h
    rfl
  · obtain ⟨x, a, bs, rfl, ha, l64, q⟩ := h
    have hu := hr.units
    have hu1 := hu_of hr
    have zl := zl
    refine ⟨_, (pss_one (ps_ret (pe_callB (cr_sum rfl) (by rfl) m_sum (by decide +kernel) (pa_cons (pe_lc (own := [("k", 2), ("word", 3)]) (g := gTup K 2 (gCons (gName 2) (gCons (gName 3) gNil))) (tt := tB (tVar 3)) (te := tOp (rI CPow fun i j => .int (i * 2 ^ j.toNat)) (tC (.int 1)) (tVar 2)) rfl scBO.nd (pi_enum (by rfl) m_enumerate (pa_cons (pv 1) pa_nil)) (blkOk_by (N := nBO) (sc := defScope sBO) (by decide +kernel)) (fun _ _ _ _ _ => by exact pg_tup (by rfl) (pgs_cons (pg_name (i := 2) scBO.nd rfl (.inl rfl)) (pgs_cons (pg_name (i := 3) scBO.nd rfl (.inl rfl)) pgs_nil))) (fun _ _ _ _ _ => by exact pts_one (pt_val (pv 3))) (fun _ _ _ _ _ => by exact pe_op op_shl (pe_int) (pv 2))) pa_nil)))), ?_⟩
    dsimp only [cxOf, Cx.nox]
    refine ret_cb ?_
    have hbs : EachIs (fun v b => v = V.bl b) (bs.map V.bl) bs := by
      clear ha l64 q
      induction bs with
      | nil => exact .nil
      | cons b r ih => exact .cons rfl ih
    refine lc_enum (R := fun _ v b => v = V.bl b) (S := fun _ _ v n => v = V.int ((n : Nat) : Int)) (fun _ b => b) (fun k _ => 2 ^ k) (.var rfl) ha (by omega) (fun _ _ => hbs) (fun _ _ => rfl) (fun _ _ z => z) (fun k v b H' hx s hv Q' hq => ?_) (fun k v b H' D' hx hf s hv hD Q' hq => ?_) fun D us H1 s1 nD eD hus => ?_
    · subst hv
      exact ⟨_, rfl, _, rfl, hq⟩
    · have hk : k < bs.length := (List.getElem?_eq_some_iff.mp hx).1
      exact ev_cast (Ev.opI .con (.var rfl) ⟨by omega, by omega, by decide⟩) (congrArg V.int (pow_cast k)) _ (hq _ H' same_refl rfl)
    · have eu : us = (((enumFM (fun _ b => b) (fun k _ => 2 ^ k) bs).map fun n : Nat => (n : Int))).map V.int := by
        rw [List.map_map]
        have : ∀ {ws : List V} {ns : List Nat}, EachIs (fun v n => v = V.int ((n : Nat) : Int)) ws ns → ws = ns.map (V.int ∘ fun n : Nat => (n : Int)) := by
          intro ws ns h
          induction h with
          | nil => rfl
          | cons h _ ih => rw [h, ih]; rfl
        exact this hus
      rw [eu] at eD
      refine ⟨D, _, rfl, SqL.of eD, ?_⟩
      rw [sum_cast]
      exact q H1 s1
end
end K20
namespace K20
open PySem PySem.Spec PyProof.Rows L2 TL TR QR
open GxR (TabB TabG Tabbed)
open PySem.W (EachIs)
open GX (dNO KeysAt)
def tTrI (K : PySem.W.Frag) (ta : TE) : TT := fun σ H Q => ta σ H fun x H' => ∃ k, TruV K x H' k ∧ Q k H'
structure TxtF (K : PySem.W.Frag) (mg : Str → Option Value) (C : Addr) : Prop where
  cl : Cls K C
  n1 : NoAttr K C "causes"
  n2 : NoAttr K C "all_bits"
  n3 : NoAttr K C "bad_bits"
  n4 : NoAttr K C "kinds"
  n5 : NoAttr K C "least"
  mg : mg "Finder" = some (.ref C)
theorem and_nat (a b : Nat) : Builtin.bitAnd (a : Int) (b : Int) = ((a &&& b : Nat) : Int) := by
  rw [PyProof.Rows.bitAnd_pp (by omega) (by omega)]
  simp
theorem bit_and1 (a k : Nat) : (Builtin.bitAnd ((a : Int) / 2 ^ ((k : Int)).toNat) 1 != 0) = a.testBit k := by
  rw [Int.toNat_natCast, show ((a : Int) / 2 ^ k) = ((a / 2 ^ k : Nat) : Int) by simp, show (1 : Int) = ((1 : Nat) : Int) from rfl, and_nat, Nat.and_one_is_mod, Nat.testBit_eq_decide_div_mod_eq, Bool.eq_iff_iff, decide_eq_true_iff]
  have : a / 2 ^ k % 2 < 2 := Nat.mod_lt _ (by decide)
  simp only [bne_iff_ne, ne_eq]
  omega
/-- the causes whose bit is set -/
def namedL (css : List (List Nm)) (bits : Nat) : List (List Nm) := enumFM (fun k _ => bits.testBit k) (fun _ c => c) css
section
variable {P : Program} {w : World} {K : PySem.W.Frag} {mg : Str → Option Value} {base : Heap} {H : Hp} {v : V} {Q : VK} {E : XK} {Ts : List Addr} {C : Addr}
def spNM (C : Addr) : Sp := fun vs H Q _ => ∃ (x dx : Addr) (fs : List (Str × V)) (cv : V) (css : List (List Nm)) (N : Addr → Prop) (bits : Nat), vs = [.ref x, .int (bits : Int)] ∧ H x = some (.ins C dx fs) ∧ fs.lookup ("causes" : Str) = some cv ∧ LsAt N H cv css ∧ css.length ≤ 1000 ∧ (∀ c ∈ css, c.length ≤ 1000) ∧
  ∀ H' v, Same H H' → LsAt (fun a => H a = none) H' v (namedL css bits) → Q v H'
theorem ok_NM {f : Addr} {fd : FuncData} (F : Fun K "named" "Finder.named" sNM f fd) (T : TxtF K mg C) (m_list : mg "list" = none) (m_enumerate : mg "enumerate" = none) : FnOk P w K mg base CX0 1 f fd ["self", "bits"] (spNM C) := by
  refine F.ok scNM (fun vs H Q E h => ?_) (fun cdv A outer s H vs Q E hr h => ?_)
  · obtain ⟨x, dx, fs, cv, css, N, bits, rfl, _⟩ := h
    rfl
  · obtain ⟨x, dx, fs, cv, css, N, bits, rfl, hx, hf, hc, lc, lcs, q⟩ := h
    have hu := hr.units
    have hu1 := hu_of hr
    have zl := zl
    refine ⟨_, (pss_one (ps_ret (pe_lc (own := [("k", 2), ("cause", 3)]) (g := gTup K 2 (gCons (gName 2) (gCons (gName 3) gNil))) (tt := tTrI K (tOp (rI0 fun i j => .int (Builtin.bitAnd i j)) (tOp (rI (fun _ j => 0 ≤ j) fun i j => .int (i / 2 ^ j.toNat)) (tVar 1) (tVar 2)) (tC (.int 1)))) (te := tCB (fun xs H Q => ∃ p ys, xs = [.ref p] ∧ (SqL K H p ys ∨ SqT K H p ys) ∧ ∀ l, H l = none → Q (.ref l) (upd H l (.lst ys))) (tCons (tVar 3) tNil)) rfl scNM.nd (pi_enum (by rfl) m_enumerate (pa_cons (pe_fld (pv 0) rfl) pa_nil)) (blkOk_by (N := nNM) (sc := defScope sNM) (by decide +kernel)) (fun _ _ _ _ _ => by exact pg_tup (by rfl) (pgs_cons (pg_name (i := 2) scNM.nd rfl (.inl rfl)) (pgs_cons (pg_name (i := 3) scNM.nd rfl (.inl rfl)) pgs_nil))) (fun _ _ _ _ _ => by exact pts_one (pt_truth (pe_op op_and (pe_op op_shr (pv 1) (pv 2)) (pe_int)) (by intro _; rfl))) (fun _ _ _ _ _ => by exact pe_callTy call_list_of (by rfl) m_list (by decide +kernel) (pa_cons (pv 3) pa_nil))))), ?_⟩
    dsimp only [cxOf, Cx.nox]
    obtain ⟨ca, cw, rfl, nca, hca, hcw⟩ := hc
    refine (?_ : tLc _ _ _ _ _ _ _ _)
    refine lc_enum (R := fun H' v c => NsAt N H' v c) (S := fun D H' v c => NsAt (fun a => H a = none ∧ a ≠ D) H' v c) (fun k _ => bits.testBit k) (fun _ c => c) (fun Q' hq => ⟨_, rfl, x, C, dx, fs, _, rfl, hx, T.cl, T.n1, hf, hq⟩) hca (by omega) (fun H' s => hcw.mono fun _ _ z => z.lf (Same.lf s)) (fun _ _ => rfl)
      (fun h k z => z.lf ⟨ts_but h k, fun a xs n e => k a _ n.2 e⟩) (fun k v c H' hx' s hv Q' hq => ?_) (fun k v c H' D' hx' hf' s hv hD Q' hq => ?_) fun D us H1 s1 nD eD hus => ?_
    · refine ⟨_, rfl, _, rfl, _, _, rfl, rfl, (show (0 : Int) ≤ (k : Int) by omega), _, _, rfl, rfl, _, rfl, ?_⟩
      rw [bit_and1]
      exact hq
    · obtain ⟨a1, w1, rfl, _, h1, h2⟩ := hv
      have lc1 := lcs c (List.mem_of_getElem? hx')
      refine ⟨_, rfl, a1, w1, rfl, .inl (SqL.of h1), fun l nl => ?_⟩
      have sl := same_new (o := .lst w1) nl
      refine hq _ _ sl ⟨l, w1, rfl, ⟨same_none s nl, fun z => ?_⟩, upd_same, each_nm (Same.ts sl) h2⟩
      obtain ⟨us, hD⟩ := hD
      rw [z, hD] at nl
      cases nl
    · exact q H1 _ s1 ⟨D, us, rfl, nD, eD, hus.mono fun _ _ z => z.imp fun a h => h.1⟩
end
end K20
/-! plans and the fewest tests: mathematics -/
namespace K20
abbrev Grp := List (List Nm)
inductive Pl where
  | found (g : Grp)
  | test (i : Int) (b g : Pl)
def minD : List Nat → Nat
  | [] => 0
  | x :: r => r.foldl min x
theorem fold_le : ∀ (r : List Nat) (x : Nat), r.foldl min x ≤ x ∧ (∀ y ∈ r, r.foldl min x ≤ y) ∧ (r.foldl min x = x ∨ r.foldl min x ∈ r)
  | [], x => ⟨Nat.le_refl _, (fun y h => nomatch h), .inl rfl⟩
  | z :: r, x => by
    obtain ⟨a, b, c⟩ := fold_le r (min x z)
    rw [List.foldl_cons]
    refine ⟨by omega, fun y h => ?_, ?_⟩
    · rcases List.mem_cons.mp h with e | h
      · rw [e]; omega
      · exact b y h
    · rcases c with c | c
      · rw [c]
        rcases Nat.le_total x z with h | h
        · exact .inl (Nat.min_eq_left h)
        · rw [Nat.min_eq_right h]
          exact .inr (List.mem_cons_self ..)
      · exact .inr (List.mem_cons_of_mem _ c)
theorem minD_le {l : List Nat} {x : Nat} (h : x ∈ l) : minD l ≤ x := by
  cases l with
  | nil => cases h
  | cons y r =>
    obtain ⟨a, b, _⟩ := fold_le r y
    rcases List.mem_cons.mp h with e | h
    · rw [e]; exact a
    · exact b x h
theorem minD_mem {l : List Nat} (h : l ≠ []) : minD l ∈ l := by
  cases l with
  | nil => exact absurd rfl h
  | cons y r =>
    rcases (fold_le r y).2.2 with e | e
    · show r.foldl min y ∈ _
      rw [e]
      exact List.mem_cons_self ..
    · exact List.mem_cons_of_mem _ e
theorem minD_ext {l k : List Nat} (h : ∀ x, x ∈ l ↔ x ∈ k) : minD l = minD k := by
  by_cases e : l = []
  · have : k = [] := by
      cases k with
      | nil => rfl
      | cons y r =>
        have := (h y).mpr (List.mem_cons_self ..)
        rw [e] at this
        cases this
    rw [e, this]
  · have e2 : k ≠ [] := fun z => e (by
      cases l with
      | nil => rfl
      | cons y r =>
        have := (h y).mp (List.mem_cons_self ..)
        rw [z] at this
        cases this)
    exact Nat.le_antisymm (minD_le ((h _).mpr (minD_mem e2))) (minD_le ((h _).mp (minD_mem e)))
/-! ### the sides of a test -/
def badG (t : List Nm) (g : Grp) : Grp := g.filter (badB t)
def goodG (t : List Nm) (g : Grp) : Grp := g.filter fun c => !badB t c
def splitB (t : List Nm) (g : Grp) : Bool := decide (badG t g ≠ [] ∧ goodG t g ≠ [])
theorem sides_len (t : List Nm) : ∀ g : Grp, (badG t g).length + (goodG t g).length = g.length
  | [] => rfl
  | c :: g => by
    have := sides_len t g
    unfold badG goodG at *
    rw [List.filter_cons, List.filter_cons]
    cases badB t c <;> simp <;> omega
theorem split_len {t : List Nm} {g : Grp} (h : splitB t g = true) : (badG t g).length < g.length ∧ (goodG t g).length < g.length ∧ 0 < (badG t g).length ∧ 0 < (goodG t g).length := by
  obtain ⟨a, b⟩ := of_decide_eq_true h
  have := sides_len t g
  have := List.length_pos_iff.mpr a
  have := List.length_pos_iff.mpr b
  omega
theorem split_nil (t : List Nm) : splitB t [] = false := rfl
def fwF : Nat → List (List Nm) → Grp → Nat
  | 0, _, _ => 0
  | k + 1, tss, g => minD ((tss.filter fun t => splitB t g).map fun t => 1 + max (fwF k tss (badG t g)) (fwF k tss (goodG t g)))
theorem fwF_nil (k : Nat) (tss : List (List Nm)) : fwF k tss [] = 0 := by
  cases k with
  | zero => rfl
  | succ k =>
    show minD ((tss.filter fun t => splitB t []).map _) = 0
    rw [List.filter_eq_nil_iff.mpr fun t _ => by rw [split_nil]; decide]
    rfl
theorem fwF_eq (tss : List (List Nm)) : ∀ (k j : Nat) (g : Grp), g.length ≤ k → g.length ≤ j → fwF k tss g = fwF j tss g
  | 0, j, g, h, _ => by
    rw [List.length_eq_zero_iff.mp (Nat.le_zero.mp h), fwF_nil, fwF_nil]
  | k + 1, 0, g, _, h => by
    rw [List.length_eq_zero_iff.mp (Nat.le_zero.mp h), fwF_nil, fwF_nil]
  | k + 1, j + 1, g, h, h2 => by
    unfold fwF
    congr 1
    refine List.map_congr_left fun t ht => ?_
    obtain ⟨a, b, _⟩ := split_len (List.mem_filter.mp ht).2
    rw [fwF_eq tss k j _ (by omega) (by omega), fwF_eq tss k j (goodG t g) (by omega) (by omega)]
def fw (tss : List (List Nm)) (g : Grp) : Nat := fwF g.length tss g
def valT (tss : List (List Nm)) (g : Grp) (t : List Nm) : Nat := 1 + max (fw tss (badG t g)) (fw tss (goodG t g))
theorem fw_rec (tss : List (List Nm)) (g : Grp) : fw tss g = minD ((tss.filter fun t => splitB t g).map (valT tss g)) := by
  unfold fw
  rw [fwF_eq tss g.length (g.length + 1) g (Nat.le_refl _) (by omega)]
  show minD _ = _
  congr 1
  refine List.map_congr_left fun t ht => ?_
  obtain ⟨a, b, _⟩ := split_len (List.mem_filter.mp ht).2
  unfold valT fw
  rw [fwF_eq tss g.length (badG t g).length _ (by omega) (Nat.le_refl _), fwF_eq tss g.length (goodG t g).length _ (by omega) (Nat.le_refl _)]
/-! ### the first test of the best plan -/
def valO (tss : List (List Nm)) (g : Grp) (t : List Nm) : Option Nat := if splitB t g = true then some (valT tss g t) else none
theorem vals_somes (tss0 : List (List Nm)) (g : Grp) : ∀ tss : List (List Nm), (tss.map (valO tss0 g)).filterMap id = (tss.filter fun t => splitB t g).map (valT tss0 g)
  | [] => rfl
  | t :: r => by
    rw [List.map_cons, List.filter_cons]
    unfold valO
    by_cases h : splitB t g = true
    · rw [if_pos h, if_pos h, List.map_cons, List.filterMap_cons]
      show _ :: _ = _
      rw [← vals_somes tss0 g r]
      rfl
    · rw [if_neg h, if_neg h, List.filterMap_cons]
      show _ = _
      rw [← vals_somes tss0 g r]
      rfl
def pickB (vs : List (Option Nat)) : Nat × Option Nat := (minD (vs.filterMap id), vs.findIdx? fun v => decide (v = some (minD (vs.filterMap id))))
theorem pick_nil : pickB [] = (0, none) := rfl
theorem pick_none (pre : List (Option Nat)) : pickB (pre ++ [none]) = pickB pre := by
  unfold pickB
  have e : (pre ++ [none]).filterMap id = pre.filterMap (id : Option Nat → Option Nat) := by
    rw [List.filterMap_append]
    show _ ++ [] = _
    rw [List.append_nil]
  rw [e, List.findIdx?_append]
  congr 1
  cases pre.findIdx? fun v => decide (v = some (minD (pre.filterMap id))) <;> rfl
theorem somes_mem {pre : List (Option Nat)} {x : Nat} : x ∈ pre.filterMap id ↔ some x ∈ pre := by
  rw [List.mem_filterMap]
  exact ⟨fun ⟨a, h, e⟩ => by rw [← show a = some x from e]; exact h, fun h => ⟨_, h, rfl⟩⟩
theorem pick_is_none {pre : List (Option Nat)} : (pickB pre).2 = none ↔ pre.filterMap id = [] := by
  unfold pickB
  show pre.findIdx? _ = none ↔ _
  rw [List.findIdx?_eq_none_iff]
  constructor
  · intro h
    refine Decidable.byContradiction fun e => ?_
    have := h _ (somes_mem.mp (minD_mem e))
    rw [decide_eq_false_iff_not] at this
    exact this rfl
  · intro h x hx
    rw [decide_eq_false_iff_not]
    rintro rfl
    have := somes_mem.mpr hx
    rw [h] at this
    cases this
theorem minD_snoc {l : List Nat} {v : Nat} (h : l ≠ []) : minD (l ++ [v]) = min (minD l) v := by
  cases l with
  | nil => exact absurd rfl h
  | cons y r =>
    show (r ++ [v]).foldl min y = _
    rw [List.foldl_append]
    rfl
theorem pick_some (pre : List (Option Nat)) (v : Nat) : pickB (pre ++ [some v]) = if (pickB pre).2 = none ∨ v < (pickB pre).1 then (v, some pre.length) else pickB pre := by
  have e : (pre ++ [some v]).filterMap id = pre.filterMap (id : Option Nat → Option Nat) ++ [v] := by
    rw [List.filterMap_append]
    rfl
  by_cases h0 : pre.filterMap id = []
  · rw [if_pos (.inl (pick_is_none.mpr h0))]
    unfold pickB
    rw [e, h0]
    show (v, _) = _
    congr 1
    rw [List.findIdx?_append, show pre.findIdx? (fun w => decide (w = some (minD ([] ++ [v])))) = none from ?_]
    · show (Option.map _ (List.findIdx? (fun w => decide (w = some v)) [some v])) = _
      rw [List.findIdx?_cons, decide_eq_true rfl]
      show some (0 + pre.length) = _
      rw [Nat.zero_add]
    · rw [List.findIdx?_eq_none_iff]
      intro x hx
      rw [decide_eq_false_iff_not]
      rintro rfl
      have := somes_mem.mpr hx
      rw [h0] at this
      cases this
  · have n2 : ¬ (pickB pre).2 = none := fun z => h0 (pick_is_none.mp z)
    by_cases hv : v < (pickB pre).1
    · rw [if_pos (.inr hv)]
      unfold pickB at hv ⊢
      have hv : v < minD (pre.filterMap id) := hv
      rw [e, minD_snoc h0, Nat.min_eq_right (by omega)]
      congr 1
      rw [List.findIdx?_append, show pre.findIdx? (fun w => decide (w = some v)) = none from ?_]
      · show (Option.map _ (List.findIdx? (fun w => decide (w = some v)) [some v])) = _
        rw [List.findIdx?_cons, decide_eq_true rfl]
        show some (0 + pre.length) = _
        rw [Nat.zero_add]
      · rw [List.findIdx?_eq_none_iff]
        intro x hx
        rw [decide_eq_false_iff_not]
        rintro rfl
        have := minD_le (somes_mem.mpr hx)
        omega
    · rw [if_neg (by rintro (z | z); exact n2 z; exact hv z)]
      unfold pickB at hv n2 ⊢
      have hv : ¬ v < minD (pre.filterMap id) := hv
      rw [e, minD_snoc h0, Nat.min_eq_left (by omega)]
      congr 1
      rw [List.findIdx?_append]
      have n2 : ¬ pre.findIdx? (fun v => decide (v = some (minD (pre.filterMap id)))) = none := n2
      cases h : pre.findIdx? (fun v => decide (v = some (minD (pre.filterMap id)))) with
      | none => exact absurd h n2
      | some i => rfl
def firstT (tss : List (List Nm)) (g : Grp) : Option Nat := (pickB (tss.map (valO tss g))).2
theorem pick_fw (tss : List (List Nm)) (g : Grp) : pickB (tss.map (valO tss g)) = (fw tss g, firstT tss g) := by
  unfold firstT
  refine Prod.ext ?_ rfl
  show minD _ = _
  rw [vals_somes, ← fw_rec]
theorem first_none {tss : List (List Nm)} {g : Grp} (h : firstT tss g = none) : ∀ t ∈ tss, splitB t g = false := by
  intro t ht
  unfold firstT at h
  rw [pick_is_none, vals_somes] at h
  have := List.map_eq_nil_iff.mp h
  rw [List.filter_eq_nil_iff] at this
  exact Bool.eq_false_iff.mpr (this t ht)
theorem first_some {tss : List (List Nm)} {g : Grp} {i : Nat} (h : firstT tss g = some i) : ∃ t, tss[i]? = some t ∧ splitB t g = true ∧ fw tss g = valT tss g t := by
  have e := congrArg Prod.fst (pick_fw tss g)
  unfold firstT at h
  unfold pickB at h e
  have e : minD ((tss.map (valO tss g)).filterMap id) = fw tss g := e
  rw [e] at h
  have h : (tss.map (valO tss g)).findIdx? (fun v => decide (v = some (fw tss g))) = some i := h
  rw [List.findIdx?_eq_some_iff_getElem] at h
  obtain ⟨lt, h, _⟩ := h
  rw [List.length_map] at lt
  rw [List.getElem_map, decide_eq_true_iff] at h
  refine ⟨tss[i], List.getElem?_eq_getElem lt, ?_⟩
  unfold valO at h
  by_cases s : splitB tss[i] g = true
  · rw [if_pos s] at h
    exact ⟨s, (Option.some.inj h).symm⟩
  · rw [if_neg s] at h
    cases h
/-- the first whose value is the least -/
theorem first_is {tss : List (List Nm)} {g : Grp} {i : Nat} {t : List Nm} (hi : tss[i]? = some t) (h : valO tss g t = some (fw tss g)) (hb : ∀ j < i, ∀ u, tss[j]? = some u → valO tss g u ≠ some (fw tss g)) : firstT tss g = some i := by
  have e := congrArg Prod.fst (pick_fw tss g)
  unfold firstT
  unfold pickB at e ⊢
  have e : minD ((tss.map (valO tss g)).filterMap id) = fw tss g := e
  rw [e]
  show (tss.map (valO tss g)).findIdx? (fun v => decide (v = some (fw tss g))) = some i
  rw [List.findIdx?_eq_some_iff_getElem]
  obtain ⟨lt, et⟩ := List.getElem?_eq_some_iff.mp hi
  refine ⟨by rw [List.length_map]; exact lt, ?_, fun j hj => ?_⟩
  · rw [List.getElem_map, et, h]
    exact decide_eq_true rfl
  · rw [List.getElem_map, decide_eq_true_iff]
    exact hb j hj _ (List.getElem?_eq_getElem (by omega))
theorem first_not {tss : List (List Nm)} {g : Grp} (h : ∀ t ∈ tss, valO tss g t ≠ some (fw tss g)) : firstT tss g = none := by
  cases e : firstT tss g with
  | none => rfl
  | some i =>
    obtain ⟨t, ht, hs, hv⟩ := first_some e
    refine absurd ?_ (h t (List.mem_of_getElem? ht))
    unfold valO
    rw [if_pos hs, hv]
/-! ### the best plan -/
def bpF : Nat → List (List Nm) → Grp → Pl
  | 0, _, g => .found g
  | k + 1, tss, g => match firstT tss g with
    | none => .found g
    | some i => .test (i : Int) (bpF k tss (badG (tss.getD i []) g)) (bpF k tss (goodG (tss.getD i []) g))
theorem first_nil (tss : List (List Nm)) : firstT tss [] = none := by
  cases e : firstT tss [] with
  | none => rfl
  | some i =>
    obtain ⟨t, _, hs, _⟩ := first_some e
    rw [split_nil] at hs
    cases hs
theorem bpF_nil (k : Nat) (tss : List (List Nm)) : bpF k tss [] = .found [] := by
  cases k with
  | zero => rfl
  | succ k =>
    unfold bpF
    rw [first_nil]
theorem getD_of {α : Type} {xs : List α} {i : Nat} {x d : α} (h : xs[i]? = some x) : xs.getD i d = x := by
  rw [List.getD_eq_getElem?_getD, h]
  rfl
theorem bpF_eq (tss : List (List Nm)) : ∀ (k j : Nat) (g : Grp), g.length ≤ k → g.length ≤ j → bpF k tss g = bpF j tss g
  | 0, j, g, h, _ => by
    rw [List.length_eq_zero_iff.mp (Nat.le_zero.mp h), bpF_nil, bpF_nil]
  | k + 1, 0, g, _, h => by
    rw [List.length_eq_zero_iff.mp (Nat.le_zero.mp h), bpF_nil, bpF_nil]
  | k + 1, j + 1, g, h, h2 => by
    unfold bpF
    cases e : firstT tss g with
    | none => rfl
    | some i =>
      obtain ⟨t, ht, hs, _⟩ := first_some e
      obtain ⟨a, b, _⟩ := split_len hs
      dsimp only
      rw [getD_of ht, bpF_eq tss k j _ (by omega) (by omega), bpF_eq tss k j (goodG t g) (by omega) (by omega)]
def bp (tss : List (List Nm)) (g : Grp) : Pl := bpF g.length tss g
theorem bp_none {tss : List (List Nm)} {g : Grp} (h : firstT tss g = none) : bp tss g = .found g := by
  unfold bp
  cases g.length with
  | zero => rfl
  | succ k =>
    unfold bpF
    rw [h]
theorem bp_some {tss : List (List Nm)} {g : Grp} {i : Nat} {t : List Nm} (h : firstT tss g = some i) (ht : tss[i]? = some t) : bp tss g = .test (i : Int) (bp tss (badG t g)) (bp tss (goodG t g)) := by
  obtain ⟨t', ht', hs, _⟩ := first_some h
  rw [ht] at ht'
  cases ht'
  obtain ⟨a, b, _⟩ := split_len hs
  unfold bp
  rw [bpF_eq tss g.length (g.length + 1) g (Nat.le_refl _) (by omega)]
  show (match firstT tss g with | none => Pl.found g | some i => _) = _
  rw [h]
  dsimp only
  rw [getD_of ht, bpF_eq tss g.length (badG t g).length _ (by omega) (Nat.le_refl _), bpF_eq tss g.length (goodG t g).length _ (by omega) (Nat.le_refl _)]
def depthP : Pl → Nat
  | .found _ => 0
  | .test _ a b => 1 + max (depthP a) (depthP b)
def rightP (tss : List (List Nm)) : Grp → Pl → Bool
  | g, .found l => decide ((∀ t ∈ tss, splitB t g = false) ∧ l = g)
  | g, .test i a b => decide (0 ≤ i ∧ i < tss.length) && rightP tss (badG (tss.getD i.toNat []) g) a && rightP tss (goodG (tss.getD i.toNat []) g) b
/-- an induction over groups along the splits -/
theorem grp_ind {C : Grp → Prop} (h : ∀ g, (∀ k : Grp, k.length < g.length → C k) → C g) (g : Grp) : C g := by
  have : ∀ (n : Nat) (g : Grp), g.length ≤ n → C g := fun n => by
    induction n with
    | zero => exact fun g hg => h g fun k hk => by omega
    | succ n ih => exact fun g hg => h g fun k hk => ih k (by omega)
  exact this _ g (Nat.le_refl _)
theorem bp_depth (tss : List (List Nm)) (g : Grp) : depthP (bp tss g) = fw tss g := by
  refine grp_ind (C := fun g => depthP (bp tss g) = fw tss g) (fun g ih => ?_) g
  cases e : firstT tss g with
  | none =>
    rw [bp_none e, fw_rec, List.filter_eq_nil_iff.mpr fun t ht => by rw [first_none e t ht]; decide]
    rfl
  | some i =>
    obtain ⟨t, ht, hs, hv⟩ := first_some e
    obtain ⟨a, b, _⟩ := split_len hs
    rw [bp_some e ht, hv]
    show 1 + max _ _ = _
    rw [ih _ a, ih _ b]
    rfl
theorem bp_right (tss : List (List Nm)) (g : Grp) : rightP tss g (bp tss g) = true := by
  refine grp_ind (C := fun g => rightP tss g (bp tss g) = true) (fun g ih => ?_) g
  cases e : firstT tss g with
  | none =>
    rw [bp_none e]
    exact decide_eq_true ⟨first_none e, rfl⟩
  | some i =>
    obtain ⟨t, ht, hs, hv⟩ := first_some e
    obtain ⟨a, b, _⟩ := split_len hs
    have lt := (List.getElem?_eq_some_iff.mp ht).1
    rw [bp_some e ht]
    unfold rightP
    rw [Int.toNat_natCast, getD_of ht, ih _ a, ih _ b, decide_eq_true (by omega)]
    rfl
theorem fw_none {tss : List (List Nm)} {g : Grp} (h : ∀ t ∈ tss, splitB t g = false) : fw tss g = 0 := by
  rw [fw_rec, List.filter_eq_nil_iff.mpr fun t ht => by rw [h t ht]; decide]
  rfl
theorem fw_le {tss : List (List Nm)} {g : Grp} {t : List Nm} (ht : t ∈ tss) (hs : splitB t g = true) : fw tss g ≤ valT tss g t := by
  rw [fw_rec]
  exact minD_le (List.mem_map.mpr ⟨t, List.mem_filter.mpr ⟨ht, hs⟩, rfl⟩)
theorem bad_all {t : List Nm} {g : Grp} (h : goodG t g = []) : badG t g = g := by
  unfold badG goodG at *
  rw [List.filter_eq_self]
  intro c hc
  rw [List.filter_eq_nil_iff] at h
  have := h c hc
  revert this
  cases badB t c <;> simp
theorem good_all {t : List Nm} {g : Grp} (h : badG t g = []) : goodG t g = g := by
  unfold badG goodG at *
  rw [List.filter_eq_self]
  intro c hc
  rw [List.filter_eq_nil_iff] at h
  have := h c hc
  revert this
  cases badB t c <;> simp
theorem right_least (tss : List (List Nm)) : ∀ (t : Pl) (g : Grp), rightP tss g t = true → fw tss g ≤ depthP t
  | .found l, g, h => by
    unfold rightP at h
    rw [fw_none (of_decide_eq_true h).1]
    exact Nat.zero_le _
  | .test i a b, g, h => by
    unfold rightP at h
    rw [Bool.and_eq_true, Bool.and_eq_true, decide_eq_true_iff] at h
    obtain ⟨⟨⟨h1, h2⟩, h3⟩, h4⟩ := h
    have lt : i.toNat < tss.length := by omega
    have ht : tss[i.toNat]? = some tss[i.toNat] := List.getElem?_eq_getElem lt
    rw [getD_of ht] at h3 h4
    have h3 := right_least tss a _ h3
    have h4 := right_least tss b _ h4
    show _ ≤ 1 + max _ _
    by_cases eb : badG tss[i.toNat] g = []
    · rw [good_all eb] at h4
      omega
    · by_cases eg : goodG tss[i.toNat] g = []
      · rw [bad_all eg] at h3
        omega
      · have := fw_le (List.getElem_mem lt) (decide_eq_true (p := badG tss[i.toNat] g ≠ [] ∧ goodG tss[i.toNat] g ≠ []) ⟨eb, eg⟩)
        unfold valT at this
        omega
/-! ### how many tests part a group -/
def nsT (tss : List (List Nm)) (g : Grp) : Nat := (tss.filter fun t => splitB t g).length
theorem filter_sub {α : Type} {p q : α → Bool} (h : ∀ x, q x = true → p x = true) : ∀ l : List α, (l.filter q).length ≤ (l.filter p).length
  | [] => Nat.le_refl _
  | x :: r => by
    have := filter_sub h r
    rw [List.filter_cons, List.filter_cons]
    by_cases hq : q x = true
    · rw [if_pos hq, if_pos (h x hq), List.length_cons, List.length_cons]
      omega
    · rw [if_neg hq]
      split
      · rw [List.length_cons]; omega
      · exact this
theorem filter_less {α : Type} {p q : α → Bool} (h : ∀ x, q x = true → p x = true) {x : α} (hp : p x = true) (hq : q x = false) : ∀ l : List α, x ∈ l → (l.filter q).length < (l.filter p).length
  | [], m => nomatch m
  | y :: r, m => by
    rw [List.filter_cons, List.filter_cons]
    rcases List.mem_cons.mp m with e | m
    · rw [← e, hq, hp, if_pos rfl, if_neg (by decide), List.length_cons]
      have := filter_sub h r
      omega
    · have := filter_less h hp hq r m
      by_cases hy : q y = true
      · rw [if_pos hy, if_pos (h y hy), List.length_cons, List.length_cons]
        omega
      · rw [if_neg hy]
        split
        · rw [List.length_cons]; omega
        · exact this
theorem split_mono {t : List Nm} {g k : Grp} (s : ∀ c ∈ k, c ∈ g) (h : splitB t k = true) : splitB t g = true := by
  obtain ⟨a, b⟩ := of_decide_eq_true h
  refine decide_eq_true ⟨fun z => a ?_, fun z => b ?_⟩
  · unfold badG at *
    rw [List.filter_eq_nil_iff] at z ⊢
    exact fun c hc => z c (s c hc)
  · unfold goodG at *
    rw [List.filter_eq_nil_iff] at z ⊢
    exact fun c hc => z c (s c hc)
theorem ns_bad {tss : List (List Nm)} {g : Grp} {t : List Nm} (ht : t ∈ tss) (hs : splitB t g = true) : nsT tss (badG t g) < nsT tss g :=
  filter_less (p := fun u => splitB u g) (q := fun u => splitB u (badG t g)) (fun u => split_mono fun c hc => (List.mem_filter.mp hc).1) hs (by
    refine decide_eq_false fun z => z.2 ?_
    unfold goodG badG
    rw [List.filter_filter, List.filter_eq_nil_iff]
    intro c _
    cases badB t c <;> simp) tss ht
theorem ns_good {tss : List (List Nm)} {g : Grp} {t : List Nm} (ht : t ∈ tss) (hs : splitB t g = true) : nsT tss (goodG t g) < nsT tss g :=
  filter_less (p := fun u => splitB u g) (q := fun u => splitB u (goodG t g)) (fun u => split_mono fun c hc => (List.mem_filter.mp hc).1) hs (by
    refine decide_eq_false fun z => z.1 ?_
    unfold goodG badG
    rw [List.filter_filter, List.filter_eq_nil_iff]
    intro c _
    cases badB t c <;> simp) tss ht
theorem ns_le (tss : List (List Nm)) (g : Grp) : nsT tss g ≤ tss.length := List.length_filter_le _ _
/-! ### sums of bits -/
def nmK : Nat → Grp → Nat → Grp
  | _, [], _ => []
  | k, c :: r, b => if b.testBit k = true then c :: nmK (k + 1) r b else nmK (k + 1) r b
theorem named_nmK (css : Grp) (b : Nat) : namedL css b = nmK 0 css b := by
  have : ∀ (css : Grp) (k : Nat), ((css.zipIdx k).filter fun p => b.testBit p.2).map (fun p => p.1) = nmK k css b := by
    intro css
    induction css with
    | nil => exact fun k => rfl
    | cons c r ih =>
      intro k
      rw [List.zipIdx_cons, List.filter_cons]
      show (if b.testBit k = true then (c, k) :: _ else _).map _ = if b.testBit k = true then _ else _
      by_cases h : b.testBit k = true
      · rw [if_pos h, if_pos h, List.map_cons, ih (k + 1)]
      · rw [if_neg h, if_neg h, ih (k + 1)]
  exact this css 0
theorem nmK_filter (p : List Nm → Bool) : ∀ (css : Grp) (k b b' : Nat), (∀ i c, css[i]? = some c → b'.testBit (k + i) = (b.testBit (k + i) && p c)) → nmK k css b' = (nmK k css b).filter p
  | [], _, _, _, _ => rfl
  | c :: r, k, b, b', h => by
    have h0 := h 0 c rfl
    have ih := nmK_filter p r (k + 1) b b' fun i d e => by
      have := h (i + 1) d e
      rwa [show k + (i + 1) = k + 1 + i by omega] at this
    rw [Nat.add_zero] at h0
    unfold nmK
    rw [h0, ih]
    cases b.testBit k <;> cases e : p c <;> simp [e]
def bsN : List Bool → Nat
  | [] => 0
  | b :: r => b.toNat + 2 * bsN r
theorem bsN_bit : ∀ (bs : List Bool) (i : Nat), (bsN bs).testBit i = bs.getD i false
  | [], i => by
    show (0 : Nat).testBit i = _
    rw [Nat.zero_testBit]
    rfl
  | b :: r, 0 => by
    show (b.toNat + 2 * bsN r).testBit 0 = b
    rw [Nat.testBit_zero]
    cases b <;> simp
  | b :: r, i + 1 => by
    show (b.toNat + 2 * bsN r).testBit (i + 1) = r.getD i false
    rw [Nat.testBit_succ, ← bsN_bit r i]
    congr 1
    cases b <;> simp <;> omega
theorem bsN_lt : ∀ bs : List Bool, bsN bs < 2 ^ bs.length
  | [] => by decide
  | b :: r => by
    have := bsN_lt r
    show b.toNat + 2 * bsN r < 2 ^ (r.length + 1)
    rw [Nat.pow_succ]
    have : b.toNat ≤ 1 := by cases b <;> decide
    omega
theorem bitsN_bsN (bs : List Bool) : bitsN bs = bsN bs := by
  have : ∀ (bs : List Bool) (k : Nat), (((bs.zipIdx k).filter fun p => p.1).map fun p => 2 ^ p.2).sum = 2 ^ k * bsN bs := by
    intro bs
    induction bs with
    | nil => exact fun k => rfl
    | cons b r ih =>
      intro k
      rw [List.zipIdx_cons, List.filter_cons]
      show ((if b = true then (b, k) :: _ else _).map _).sum = 2 ^ k * (b.toNat + 2 * bsN r)
      have e : 2 ^ k * (b.toNat + 2 * bsN r) = 2 ^ k * b.toNat + 2 ^ (k + 1) * bsN r := by
        rw [Nat.mul_add, ← Nat.mul_assoc, Nat.pow_succ]
      rw [e]
      cases b
      · rw [if_neg (by decide), ih (k + 1)]
        simp
      · rw [if_pos rfl, List.map_cons, List.sum_cons, ih (k + 1)]
        simp
  have e := this bs 0
  rw [Nat.pow_zero, Nat.one_mul] at e
  exact e
theorem and_half (b m : Nat) : (b &&& m) / 2 = b / 2 &&& m / 2 := by
  apply Nat.eq_of_testBit_eq
  intro i
  rw [← Nat.testBit_succ, Nat.testBit_and, Nat.testBit_and, Nat.testBit_succ, Nat.testBit_succ]
theorem sub_bit : ∀ (i b m : Nat), (b - (b &&& m)).testBit i = (b.testBit i && !m.testBit i)
  | 0, b, m => by
    have h0 := Nat.testBit_and b m 0
    rw [Nat.testBit_zero, Nat.testBit_zero, Nat.testBit_zero] at h0
    rw [Nat.testBit_zero, Nat.testBit_zero, Nat.testBit_zero]
    have le : b &&& m ≤ b := Nat.and_le_left
    have : b % 2 = 0 ∨ b % 2 = 1 := by omega
    have : m % 2 = 0 ∨ m % 2 = 1 := by omega
    have : (b &&& m) % 2 = 0 ∨ (b &&& m) % 2 = 1 := by omega
    rcases ‹b % 2 = 0 ∨ b % 2 = 1› with hb | hb <;> rcases ‹m % 2 = 0 ∨ m % 2 = 1› with hm | hm <;> rcases this with h | h <;> simp [hb, hm, h] at h0 ⊢ <;> omega
  | i + 1, b, m => by
    rw [Nat.testBit_succ, Nat.testBit_succ, Nat.testBit_succ, ← sub_bit i (b / 2) (m / 2)]
    congr 1
    rw [← and_half]
    have h0 := Nat.testBit_and b m 0
    rw [Nat.testBit_zero, Nat.testBit_zero, Nat.testBit_zero] at h0
    have le : b &&& m ≤ b := Nat.and_le_left
    have : b % 2 = 0 ∨ b % 2 = 1 := by omega
    have : (b &&& m) % 2 = 0 ∨ (b &&& m) % 2 = 1 := by omega
    rcases ‹b % 2 = 0 ∨ b % 2 = 1› with hb | hb <;> rcases this with h | h <;> simp [hb, h] at h0 <;> omega
def kindN (css : Grp) (t : List Nm) : Nat := bitsN (css.map (badB t))
theorem kind_bit {css : Grp} {t : List Nm} {i : Nat} {c : List Nm} (h : css[i]? = some c) : (kindN css t).testBit i = badB t c := by
  unfold kindN
  rw [bitsN_bsN, bsN_bit, List.getD_eq_getElem?_getD, List.getElem?_map, h]
  rfl
theorem named_bad (css : Grp) (t : List Nm) (b : Nat) : namedL css (b &&& kindN css t) = badG t (namedL css b) := by
  rw [named_nmK, named_nmK]
  refine nmK_filter _ css 0 b _ fun i c h => ?_
  rw [Nat.zero_add, Nat.testBit_and, kind_bit h]
theorem named_good (css : Grp) (t : List Nm) (b : Nat) : namedL css (b - (b &&& kindN css t)) = goodG t (namedL css b) := by
  rw [named_nmK, named_nmK]
  refine nmK_filter _ css 0 b _ fun i c h => ?_
  rw [Nat.zero_add, sub_bit, kind_bit h]
theorem nmK_nil {css : Grp} {b : Nat} : ∀ {k : Nat}, nmK k css b = [] → ∀ i < css.length, b.testBit (k + i) = false := by
  induction css with
  | nil => exact fun _ i h => nomatch h
  | cons c r ih =>
    intro k h i hi
    unfold nmK at h
    by_cases hb : b.testBit k = true
    · rw [if_pos hb] at h
      cases h
    · rw [if_neg hb] at h
      cases i with
      | zero => exact Bool.eq_false_iff.mpr hb
      | succ i =>
        rw [show k + (i + 1) = k + 1 + i by omega]
        exact ih h i (by simpa using hi)
theorem named_nil {css : Grp} {b : Nat} (lt : b < 2 ^ css.length) : namedL css b = [] ↔ b = 0 := by
  rw [named_nmK]
  constructor
  · intro h
    apply Nat.eq_of_testBit_eq
    intro i
    rw [Nat.zero_testBit]
    by_cases hi : i < css.length
    · have := nmK_nil h i hi
      rwa [Nat.zero_add] at this
    · exact Nat.testBit_lt_two_pow (Nat.lt_of_lt_of_le lt (Nat.pow_le_pow_right (by decide) (by omega)))
  · rintro rfl
    have : ∀ (css : Grp) (k : Nat), nmK k css 0 = [] := by
      intro css
      induction css with
      | nil => exact fun _ => rfl
      | cons c r ih =>
        intro k
        unfold nmK
        rw [Nat.zero_testBit, if_neg (by decide), ih]
    exact this css 0
theorem named_all (css : Grp) : namedL css (2 ^ css.length - 1) = css := by
  rw [named_nmK]
  have : ∀ (r : Grp) (k : Nat), k + r.length ≤ css.length → nmK k r (2 ^ css.length - 1) = r := by
    intro r
    induction r with
    | nil => exact fun _ _ => rfl
    | cons c r ih =>
      intro k hk
      rw [List.length_cons] at hk
      unfold nmK
      rw [Nat.testBit_two_pow_sub_one, decide_eq_true (by omega), if_pos rfl, ih (k + 1) (by omega)]
  exact this css 0 (by omega)
theorem and_lt {b m n : Nat} (h : b < n) : b &&& m < n := Nat.lt_of_le_of_lt Nat.and_le_left h
theorem split_bits {css : Grp} {b : Nat} (lt : b < 2 ^ css.length) (t : List Nm) : splitB t (namedL css b) = decide (b &&& kindN css t ≠ 0 ∧ b &&& kindN css t ≠ b) := by
  unfold splitB
  rw [← named_bad, ← named_good]
  have l2 : b - (b &&& kindN css t) < 2 ^ css.length := Nat.lt_of_le_of_lt (Nat.sub_le _ _) lt
  have le : b &&& kindN css t ≤ b := Nat.and_le_left
  refine decide_eq_decide.mpr ⟨fun ⟨x, y⟩ => ⟨fun z => x ((named_nil (and_lt lt)).mpr z), fun z => y ((named_nil l2).mpr (by omega))⟩, fun ⟨x, y⟩ => ⟨fun z => x ((named_nil (and_lt lt)).mp z), fun z => y ?_⟩⟩
  have := (named_nil l2).mp z
  omega
end K20
/-! the texts of groups tell them apart -/
namespace K20
open PySem PySem.Spec PyProof.Rows L2 TL TR QR
def nsD (c : List Nm) : PyData := .list (c.map nmD)
def grD (g : Grp) : PyData := .list (g.map nsD)
section
variable {α : Type}
/-- each text ends where it ends, whatever follows -/
def PF (S : α → Prop) (f : α → List Nat) : Prop := ∀ a b s t, S a → S b → f a ++ s = f b ++ t → a = b ∧ s = t
def NB (S : α → Prop) (f : α → List Nat) : Prop := ∀ a, S a → ∃ c r, f a = c :: r ∧ c ≠ 93
def tailT (f : α → List Nat) : List α → List Nat
  | [] => [93]
  | a :: r => 44 :: 32 :: (f a ++ tailT f r)
def listT (f : α → List Nat) : List α → List Nat
  | [] => [91, 93]
  | a :: r => 91 :: (f a ++ tailT f r)
theorem tail_pf {S : α → Prop} {f : α → List Nat} (h : PF S f) : ∀ (xs ys : List α) (s t : List Nat), (∀ x ∈ xs, S x) → (∀ x ∈ ys, S x) → tailT f xs ++ s = tailT f ys ++ t → xs = ys ∧ s = t
  | [], [], s, t, _, _, e => ⟨rfl, (List.cons.inj e).2⟩
  | [], y :: ys, s, t, _, _, e => by cases (List.cons.inj e).1
  | x :: xs, [], s, t, _, _, e => by cases (List.cons.inj e).1
  | x :: xs, y :: ys, s, t, hx, hy, e => by
    have e := (List.cons.inj (List.cons.inj e).2).2
    have e : (f x ++ tailT f xs) ++ s = (f y ++ tailT f ys) ++ t := e
    rw [List.append_assoc, List.append_assoc] at e
    obtain ⟨rfl, e1⟩ := h x y _ _ (hx x (List.mem_cons_self ..)) (hy y (List.mem_cons_self ..)) e
    obtain ⟨rfl, e2⟩ := tail_pf h xs ys s t (fun z m => hx z (List.mem_cons_of_mem _ m)) (fun z m => hy z (List.mem_cons_of_mem _ m)) e1
    exact ⟨rfl, e2⟩
theorem list_pf {S : α → Prop} {f : α → List Nat} (h : PF S f) (n : NB S f) : PF (fun xs => ∀ x ∈ xs, S x) (listT f)
  | [], [], s, t, _, _, e => ⟨rfl, (List.cons.inj (List.cons.inj e).2).2⟩
  | [], y :: ys, s, t, _, hy, e => by
    obtain ⟨c, r, ec, nc⟩ := n y (hy y (List.mem_cons_self ..))
    have e := (List.cons.inj e).2
    have e : 93 :: s = (f y ++ tailT f ys) ++ t := e
    rw [ec] at e
    exact absurd (List.cons.inj e).1.symm nc
  | x :: xs, [], s, t, hx, _, e => by
    obtain ⟨c, r, ec, nc⟩ := n x (hx x (List.mem_cons_self ..))
    have e := (List.cons.inj e).2
    have e : (f x ++ tailT f xs) ++ s = 93 :: t := e
    rw [ec] at e
    exact absurd (List.cons.inj e).1 nc
  | x :: xs, y :: ys, s, t, hx, hy, e => by
    have e := (List.cons.inj e).2
    have e : (f x ++ tailT f xs) ++ s = (f y ++ tailT f ys) ++ t := e
    rw [List.append_assoc, List.append_assoc] at e
    obtain ⟨rfl, e1⟩ := h x y _ _ (hx x (List.mem_cons_self ..)) (hy y (List.mem_cons_self ..)) e
    obtain ⟨rfl, e2⟩ := tail_pf h xs ys s t (fun z m => hx z (List.mem_cons_of_mem _ m)) (fun z m => hy z (List.mem_cons_of_mem _ m)) e1
    exact ⟨rfl, e2⟩
theorem list_nb {S : List α → Prop} (f : α → List Nat) : NB S (listT f) := fun xs _ => by
  cases xs with
  | nil => exact ⟨91, _, rfl, by decide⟩
  | cons x r => exact ⟨91, _, rfl, by decide⟩
theorem text_tail (d : α → PyData) : ∀ (xs : List α) (k : Nat) (acc : Str), tl (textFrom (k + 1) acc (PyData.shownAll (xs.map d))) ++ [93] = tl acc ++ tailT (fun x => tl (d x).shown) xs
  | [], k, acc => rfl
  | x :: r, k, acc => by
    show tl (textFrom (k + 1 + 1) (acc ++ (if k + 1 > 0 then ", " else "" : String) ++ (d x).shown) (PyData.shownAll (r.map d))) ++ [93] = _
    rw [text_tail d r (k + 1), if_pos (Nat.succ_pos k), tl_app, tl_app, List.append_assoc, List.append_assoc]
    rfl
theorem text_list (d : α → PyData) (xs : List α) : tl (PyData.shown (.list (xs.map d))) = listT (fun x => tl (d x).shown) xs := by
  have e0 : PyData.shown (.list (xs.map d)) = textFrom 0 "[" (PyData.shownAll (xs.map d)) ++ "]" := rfl
  rw [e0, tl_app]
  cases xs with
  | nil => rfl
  | cons x r =>
    show tl (textFrom 1 (("[" : Str) ++ (if 0 > 0 then ", " else "" : String) ++ (d x).shown) (PyData.shownAll (r.map d))) ++ [93] = _
    rw [text_tail d r 0, tl_app]
    rfl
end
/-- names of one label -/
structure NmG (l : Lab) (n : Nm) : Prop where
  lb : n.1 = l
  au : n.2.1 ∈ auths
  nm : n.2.2 < 10
theorem nm_text (l : Lab) (n : Nm) (h : NmG l n) : tl (nmD n).shown = 40 :: (tl (labD l).shown ++ 44 :: 32 :: 39 :: (n.2.1 ++ 39 :: 44 :: 32 :: (48 + n.2.2) :: [41])) := by
  have e0 : (nmD n).shown = (("(" : Str) ++ Str.join ", " [(labD n.1).shown, (PyData.str (Sg n.2.1)).shown, (PyData.int (n.2.2 : Int)).shown] ++ ")") := rfl
  have e1 : Str.join ", " [(labD n.1).shown, (PyData.str (Sg n.2.1)).shown, (PyData.int (n.2.2 : Int)).shown] = (labD n.1).shown ++ ", " ++ ((PyData.str (Sg n.2.1)).shown ++ ", " ++ (PyData.int (n.2.2 : Int)).shown) := rfl
  have e2 : (PyData.int (n.2.2 : Int)).shown = Sg [48 + n.2.2] := by
    show Str.ofString (toString (n.2.2 : Int)) = _
    rw [sg_num, numL_lt h.nm]
  have e3 : tl (PyData.str (Sg n.2.1)).shown = 39 :: (n.2.1 ++ [39]) := by
    obtain ⟨l', a, k⟩ := n
    have ha : a ∈ auths := h.au
    show tl (PyData.str (Sg a)).shown = 39 :: (a ++ [39])
    rcases List.mem_cons.mp ha with rfl | ha
    · decide +kernel
    rcases List.mem_cons.mp ha with rfl | ha
    · decide +kernel
    rw [List.mem_singleton.mp ha]
    decide +kernel
  rw [e0, e1, e2, tl_app, tl_app, tl_app, tl_app, tl_app, tl_app, e3, h.lb]
  show [40] ++ (tl (labD l).shown ++ [44, 32] ++ (39 :: (n.2.1 ++ [39]) ++ [44, 32] ++ [48 + n.2.2])) ++ [41] = _
  simp
theorem au_pf {a b s t : List Nat} (ha : a ∈ auths) (hb : b ∈ auths) (e : a ++ 39 :: s = b ++ 39 :: t) : a = b ∧ s = t := by
  rcases List.mem_cons.mp ha with rfl | ha <;> rcases List.mem_cons.mp hb with rfl | hb
  · simpa using e
  · rcases List.mem_cons.mp hb with rfl | hb
    · simp at e
    · rw [List.mem_singleton.mp hb] at e ⊢
      simp at e
  · rcases List.mem_cons.mp ha with rfl | ha
    · simp at e
    · rw [List.mem_singleton.mp ha] at e ⊢
      simp at e
  · rcases List.mem_cons.mp ha with rfl | ha <;> rcases List.mem_cons.mp hb with rfl | hb
    · simpa using e
    · rw [List.mem_singleton.mp hb] at e ⊢
      simp at e
    · rw [List.mem_singleton.mp ha] at e ⊢
      simp at e
    · rw [List.mem_singleton.mp ha, List.mem_singleton.mp hb] at e ⊢
      simpa using e
theorem nm_pf (l : Lab) : PF (NmG l) fun n => tl (nmD n).shown := fun a b s t ha hb e => by
  have e : tl (nmD a).shown ++ s = tl (nmD b).shown ++ t := e
  rw [nm_text l a ha, nm_text l b hb] at e
  have e := (List.cons.inj e).2
  have e : (tl (labD l).shown ++ 44 :: 32 :: 39 :: (a.2.1 ++ 39 :: 44 :: 32 :: (48 + a.2.2) :: [41])) ++ s = (tl (labD l).shown ++ 44 :: 32 :: 39 :: (b.2.1 ++ 39 :: 44 :: 32 :: (48 + b.2.2) :: [41])) ++ t := e
  rw [List.append_assoc, List.append_assoc] at e
  have e := List.append_cancel_left e
  have e := (List.cons.inj (List.cons.inj (List.cons.inj e).2).2).2
  have e : (a.2.1 ++ 39 :: 44 :: 32 :: (48 + a.2.2) :: [41]) ++ s = (b.2.1 ++ 39 :: 44 :: 32 :: (48 + b.2.2) :: [41]) ++ t := e
  rw [List.append_assoc, List.append_assoc] at e
  obtain ⟨e1, e2⟩ := au_pf ha.au hb.au e
  have e2 := (List.cons.inj (List.cons.inj e2).2).2
  have e3 := (List.cons.inj e2).1
  have e4 := (List.cons.inj (List.cons.inj e2).2).2
  exact ⟨Prod.ext (ha.lb.trans hb.lb.symm) (Prod.ext e1 (by show a.2.2 = b.2.2; omega)), e4⟩
theorem nm_nb (l : Lab) : NB (NmG l) fun n => tl (nmD n).shown := fun a ha => ⟨40, _, nm_text l a ha, by decide⟩
theorem gr_inj {l : Lab} {g k : Grp} (hg : ∀ c ∈ g, ∀ n ∈ c, NmG l n) (hk : ∀ c ∈ k, ∀ n ∈ c, NmG l n) (e : (grD g).shown = (grD k).shown) : g = k := by
  have p1 := list_pf (nm_pf l) (nm_nb l)
  have p2 := list_pf p1 (list_nb _)
  have e := congrArg tl e
  unfold grD at e
  rw [text_list, text_list] at e
  have q : (fun x => tl (nsD x).shown) = listT fun n => tl (nmD n).shown := funext fun x => text_list nmD x
  rw [q] at e
  exact (p2 g k [] [] hg hk (by rw [e])).1
end K20
/-! defs that call repr: no repr is under way; comprehensions whose elements call defs with generators -/
namespace K20
open PySem PySem.Spec PyProof.Rows L2 TL TR QR
open GxR (TabB TabG Tabbed)
open PySem.W (EachIs)
structure FnG (P : Program) (w : World) (K : PySem.W.Frag) (mg : Str → Option Value) (base : Heap) (k : Nat) (f : Addr) (fd : FuncData) (ps : List Str) (sp : Sp) : Prop where
  len : ∀ vs H Q E, sp vs H Q E → vs.length = ps.length
  run : ∀ (A : Around) (outer : List Env) (s : Shared) (H : Hp) (args : Args) (us : List Value) (vs : List V) (Q : VK) (E : XK), A.guards = some [] → Room k A → Env0 P w K mg base A outer s H → BindsTo s fd args (ps.zip us) → Vals vs us → sp vs H Q E →
    codeAny (model P w) A (.call (.ref f) args) (CR CX0 outer P w H s Q E) s
theorem fn_G {P : Program} {w : World} {K : PySem.W.Frag} {mg : Str → Option Value} {base : Heap} {x qual : Str} {st : Stmt} {f : Addr} {fd : FuncData} {N ps : List Str} {k : Nat} {sp : Sp} (F : Fun K x qual st f fd) (S : FnScope N ps (defScope st)) (len : ∀ vs H Q E, sp vs H Q E → vs.length = ps.length)
    (hbody : ∀ (cdv : Value) (A : Around) (outer : List Env) (s : Shared) (H : Hp) (vs : List V) (Q : VK) (E : XK), A.guards = some [] → Room k (A.deeper (envOfC qual (defScope st) s.heap.objs.size f cdv)) → sp vs H Q E →
      ∃ t, PSs (cxOf CX0 P w K mg base N qual (defScope st) f cdv A outer s H E).nox (defBody st) t ∧ t { nx := fun _ H' => Q .non H', rt := Q } (start N vs) H) : FnG P w K mg base (k + 1) f fd ps sp := by
  obtain ⟨oc, od, kV, doc, pm, an, cdv, ct, osl, rfl, lk, hcd⟩ := F.ex
  refine ⟨len, fun A outer s H args us vs Q E hg hr e0 hb r hsp => ?_⟩
  have hl := len _ _ _ _ hsp
  have KX : K.In s.heap := e0.mod.kin.keeps fun b o e => (e0.bs b o e).1
  have lim : s.heap.NoLimit := e0.mod.nolimit.keeps fun b o e => (e0.bs b o e).1
  have hkind : ∀ y ∈ ps.zip us, (defScope st).names.lookup y.1 = some .local ∨ ((defScope st).names.lookup y.1 = some .cell ∧ ((cellsFrom (s.heap.objs.size + 1) (defScope st).names []).lookup y.1).isSome = true) := fun ⟨n, v⟩ hy => by
    rcases S.par n (List.of_mem_zip hy).1 with q | q
    · exact .inl q
    · exact .inr ⟨q, PySem.W.cellsFrom_some _ _ _ (.inl q)⟩
  refine codeAny_call_function hr.depth (KX _ _ lk) rfl S.co S.gen rfl (PySem.W.codeRec_of KX hcd) (hb _ _ _ _ ?_)
  refine wpAny_newFunctionEnv_cells S.kind hkind fun env he s1 z => ?_
  subst he
  refine ⟨lim.keeps z.toInCall.keep, codeAny_func ?_⟩
  obtain ⟨t, ht, hq⟩ := hbody cdv A outer s H vs Q E hg (hr.deeper _) hsp
  have I : Inv (cxOf CX0 P w K mg base N qual (defScope st) f cdv A outer s H E) [] (start N vs) H s1 := inv_start S hr.hd e0 hl r z
  refine wpAny_mono (ht.nox.run [] s1 (start N vs) H _ I hq) (fun fl s' hs => ?_) fun e s' hs => hs
  have fin : ∀ {σ' : L2.St} {H' : Hp} {v : V} {u : Value}, Inv (cxOf CX0 P w K mg base N qual (defScope st) f cdv A outer s H E) [] σ' H' s' → RelV v u → Q v H' → CE outer P w H s Q u s' :=
    fun {σ' H' v u} J rv q => ⟨v, H', J.os, J.bare, J.base, J.hok, rv, q⟩
  cases fl with
  | ret u =>
    obtain ⟨v, σ', H', J, rv, q⟩ := hs
    exact fin J rv q
  | next =>
    obtain ⟨σ', H', J, q⟩ := hs
    exact fin (v := V.non) (u := Value.none) J rfl q
  | brk =>
    obtain ⟨_, _, _, q⟩ := hs
    exact False.elim q
  | cont =>
    obtain ⟨_, _, _, q⟩ := hs
    exact False.elim q
section
variable {X : Cx} {k : Nat} {f : Addr} {fd : FuncData} {ps : List Str} {sp : Sp} {dvs : List V} {ds : List Value} {E : XK} {x : Str} {p pos : Pos} {e : Expr} {es : List Expr} {t : TA}
theorem run_fnG {pins : List (Addr × Obj)} {σ : L2.St} {H : Hp} {s : Shared} {Q : VK} {us : List Value} {vs : List V} (F : FnG X.prog X.w X.K X.mg X.base k f fd ps sp) (hG : X.A.guards = some []) (hr : Room k X.A) (hb : Binds X.K fd ps ds) (hd : Vals dvs ds) (hx : Passes CX0 X E)
    (I : Inv X pins σ H s) (r : Vals vs us) (h : sp (vs ++ dvs) H Q E) : wpAny (model X.prog X.w) X.A (call (.ref f) us) (EP X pins σ Q) X.xe s := by
  have r2 : Vals (vs ++ dvs) (us ++ ds) := r.append hd
  have hl : (us ++ ds).length = ps.length := by rw [← r2.length]; exact F.len _ _ _ _ h
  refine wpAny_call (codeAny_mono (F.run X.A X.stack s H ⟨us, []⟩ (us ++ ds) (vs ++ dvs) Q E hG hr I.env0 (hb s us I.kIn hl) r2 h) fun r s' hq => ?_)
  cases r with
  | error e => exact hx pins σ H s e s' I hq
  | ok fl =>
    cases fl with
    | ret u => exact I.after hq
    | next => exact False.elim hq
    | brk => exact False.elim hq
    | cont => exact False.elim hq
theorem pe_callG (F : FnG X.prog X.w X.K X.mg X.base k f fd ps sp) (hG : X.A.guards = some []) (hr : Room k X.A) (hg : Gl X x) (hm : X.mg x = some (.ref f)) (hk : PySem.W.keepIn X.K (.ref f) = true) (hb : Binds X.K fd ps ds) (hd : Vals dvs ds) (hx : Passes CX0 X E)
    (ha : PA X (e :: es) t) (hdb : (x == ("__debug__" : Str)) = false := by decide) (he : starEach (e :: es) X.env = (false, eval e X.env) :: starEach es X.env := by rfl) (hpl : (backTo pos (starEach es X.env)).any (·.1) = false := by rfl) :
    PE X (.Call (.Name x p) (e :: es) [] pos) (tCall sp dvs E t) := by
  refine ⟨fun pins s σ H Q I h => ?_⟩
  refine wpAny_Call_Name_kw (ld_glob I hg hm ?_ hdb)
  refine PySem.W.callWith_K (h₀ := X.base) I.ok.mod.kin hk (thn (ha.run pos pins s σ H _ I h) fun us s1 ⟨vs, H1, I1, r, q⟩ => ⟨I1.kIn, ?_⟩) he hpl
  exact run_fnG F hG hr hb hd hx I1 r q
end
section
variable {P : Program} {w : World} {K : PySem.W.Frag}
/-- as lc_gen; the elements may write the tables of generators -/
theorem lc_genT {Ts : List Addr} {α β : Type} {R : Hp → V → α → Prop} {S : Addr → Hp → V → β → Prop} {a : Addr} {ws : List V} {xs : List α} {j : Nat} {tl te : TE} {σ : L2.St} {H : Hp} {Q : VK} (m : α → β) (tg : TG Ts H)
    (ev : Ev tl σ H (.ref a)) (ha : H a = some (.lst ws)) (lx : xs.length ≤ 1000000) (he : ∀ H', Tbs Ts H H' → EachIs (R H') ws xs)
    (st : ∀ {D : Addr} {H1 H2 : Hp} {v : V} {y : β}, TG Ts H1 → (∃ us, H1 D = some (.lst us)) → (∀ b o, b ≠ D → b ∉ Ts → H1 b = some o → H2 b = some o) → S D H1 v y → S D H2 v y)
    (hm : ∀ (v : V) (x : α) (H' : Hp) (D : Addr), x ∈ xs → Tbs Ts H H' → R H' v x → (∃ us, H' D = some (.lst us)) → ∀ Q' : VK, (∀ y H'', Tbs Ts H' H'' → S D H'' y (m x) → Q' y H'') → te ((wipe σ [j]).set j (some v)) H' Q')
    (q : ∀ (D : Addr) (us : List V) (H' : Hp), Tbs Ts H H' → H D = none → H' D = some (.lst us) → EachIs (S D H') us (xs.map m) → Q (.ref D) H') :
    tLc (iList K tl) (gName j) tYes te [j] σ H Q := by
  have zl := zl
  refine ev _ ⟨a, rfl, ⟨ws, SqL.of ha⟩, fun D nD => ?_⟩
  have nDa : a ≠ D := fun z => by rw [z, nD] at ha; cases ha
  have lw := (he H (Tbs.refl tg)).length
  refine lc_list (xs := ws) (fun i H' => Tbs Ts H H' ∧ ∃ us, H' D = some (.lst us) ∧ EachIs (S D H') us ((xs.take i).map m)) ⟨(Tbs.refl tg).same (same_new nD), [], upd_same, .nil⟩ (fun i H' _ h => SqL.of (h.1.lst tg ha)) ?_ ?_
  · rintro i v H' hv ⟨s, us, eD, hs⟩
    obtain ⟨x, hx, hR⟩ := each_at (he H' s) hv
    have hx' := List.mem_of_getElem? hx
    have lt := (List.getElem?_eq_some_iff.mp hx).1
    have et : xs.take (i + 1) = xs.take i ++ [x] := by rw [List.take_add_one, hx]; rfl
    refine ⟨by simp only [wipe, List.set_set], ?_⟩
    refine hm v x H' D hx' s hR ⟨us, eD⟩ _ fun y H2 s2 hy => ?_
    have ul := hs.length
    have fl : ((xs.take i).map m).length ≤ i := by
      rw [List.length_map, List.length_take]
      omega
    have eD2 := s2.lst s.tg eD
    have but : ∀ b o, b ≠ D → b ∉ Ts → H2 b = some o → upd H2 D (.lst (us ++ [y])) b = some o := fun b o n _ e => by rw [upd_ne n]; exact e
    have nDT : D ∉ Ts := fun z => by
      obtain ⟨ps, e, _⟩ := tg D z
      rw [nD] at e
      cases e
    have tbs3 : Tbs Ts H (upd H2 D (.lst (us ++ [y]))) := by
      refine ⟨fun b o n e => ?_, fun T hT => ?_⟩
      · rw [upd_ne (ne_of_none e nD)]
        exact s2.sm _ _ n (s.sm _ _ n e)
      · obtain ⟨ps, e1, e2⟩ := s2.tg T hT
        exact ⟨ps, (upd_ne fun z : T = D => nDT (by rw [← z]; exact hT)).trans e1, e2⟩
    refine ⟨us, eD2, by omega, tbs3, us ++ [y], upd_same, ?_⟩
    rw [et, List.map_append]
    exact each_snoc (hs.mono fun _ _ z => st s2.tg ⟨us, eD2⟩ but (st s.tg ⟨us, eD⟩ (fun b o _ n e => s2.sm b o n e) z)) (st s2.tg ⟨us, eD2⟩ but hy)
  · rintro H' ⟨s, us, eD, hs⟩
    rw [lw, List.take_length] at hs
    exact q D us H' s nD eD hs
end
end K20
/-! xs.remove(x), data -/
namespace GX
open PySem PySem.Spec PyProof.Rows L2 GxR
theorem vals_erase : ∀ {xs : List V} {us : List Value} (r : Vals xs us) (j : Nat), Vals (xs.eraseIdx j) (us.eraseIdx j)
  | _, _, .nil, _ => .nil
  | _, _, .cons _ t, 0 => t
  | _, _, .cons h t, j + 1 => .cons h (vals_erase t j)
def rRemD (K : PySem.W.Frag) : V → List V → Hp → VK → Prop := fun x xs H Q => ∃ (l : Addr) (ys : List V) (v : V) (ds : List PyData) (d : PyData) (j : Nat), x = .ref l ∧ xs = [v] ∧ H l = some (.lst ys) ∧ DpAll K H ys ds ∧ Dp K H v d ∧ PyData.plainAll ds = true ∧ d.plain = true ∧ d.depth ≤ 50 ∧ SeqAt.dataPlace ds d = some j ∧ Q .non (upd H l (.lst (ys.eraseIdx j)))
theorem mt_removeD {X : Cx} (hu : X.A.units + 64 < cLine) : MtM X "list.remove" (rRemD X.K) := by
  intro pins s σ H x xs v us Q I rx rxs h
  obtain ⟨l, ys, w, ds, d, j, rfl, rfl, hH, hA, hD, pa, pd, dd, hj, q⟩ := h
  cases rx
  obtain ⟨u, rfl, ru⟩ := rxs.one
  obtain ⟨z, its, n, r, hl, e⟩ := I.lstM hH
  obtain ⟨as, r1⟩ := Dp.readsAll I ds ys its hA r
  obtain ⟨bs, r2⟩ := Dp.reads I d w u hD ru
  have hll := r.length
  refine SeqAt.remove_list_data (vs := its.toArray) (j := j) ⟨_, e, rfl, n, rfl⟩ (by simpa using r1) r2 pa pd (by omega) hj (by rw [List.size_toArray]; omega) ?_
  refine ⟨.non, _, I.lset (its' := its.eraseIdx j) (t' := s.toks) hH e ?_ (vals_erase r j) ?_, rfl, q⟩
  · show its.toArray.eraseIdxIfInBounds j = (its.eraseIdx j).toArray
    rw [List.eraseIdxIfInBounds_toArray]
  · rw [List.length_eraseIdx]
    split <;> omega
end GX
/-! min(xs), xs a list of data: the comparisons may speak of the heap -/
namespace GX
open PySem PySem.Spec PyProof.Rows L2 GxR
section
variable {prog : Program} {w : World} {A : Around} {R : Result → Shared → Prop} {I S : Addr} {fp wr : List Addr} {n : Nat} {P : Nat → Value → Prop} {St : Nat → Heap → Prop} {h0 : Heap}
/-- what stood in h0 stands -/
def Stands (h0 : Heap) (wr : List Addr) (h : Heap) : Prop := ∀ b o, b ∉ wr → h0.get? b = some o → h.get? b = some o
def CmpIn (prog : Program) (w : World) (A : Around) (Z : Heap → Prop) (op : CmpOp) (P : Nat → Value → Prop) (bt : Nat → Nat → Bool) : Prop :=
  ∀ i j vi vj (s : Shared) (Q : Value → Shared → Prop) (E : Value → Shared → Prop), Z s.heap → P i vi → P j vj → Q (.bool (bt i j)) s → wpAny (model prog w) A (richCompare op vi vj) Q E s
theorem min_loopZ (W : Walks prog w A.in1 I fp wr n P St) (bt : Nat → Nat → Bool) (hcmp : CmpIn prog w A.in1 (Stands h0 wr) .Lt P bt) (hSf : S ∉ fp) (hS0 : h0.get? S = none) :
    ∀ (k j : Nat) (s : Shared) (vb : Value) (c : Nat), Stands h0 wr s.heap → n - (j + 1) = k → j + 1 ≤ n → St (j + 1) s.heap → P (argBest bt j) vb →
    s.heap.get? S = some { cls := .type "list", dict := none, data := .seq #[vb, vb] c, slots := #[] } →
    (∀ v h' tk, P (argBest bt (n - 1)) v → (∀ b o, b ∉ wr → b ≠ S → s.heap.get? b = some o → h'.get? b = some o) → R (.ok (.ret v)) { s with heap := h', toks := tk }) →
    codeAny (model prog w) A (.builtin "min.loop" ⟨[.ref I, .none, .ref S], []⟩) R s := by
  have hSw : S ∉ wr := fun h => hSf (W.sub _ h)
  have hname : (toString "min" ++ toString ".loop" : String) = "min.loop" := by decide
  intro k
  induction k with
  | zero =>
    intro j s vb c hz hk hj hst hPb hS hR
    have hin : j + 1 = n := by omega
    refine codeAny_builtin PySem.F.entry_min_loop ?_
    rw [Around.under_plainId PySem.F.plain_min_loop _]
    show wpAny _ A.in1 (seqItems? (.ref S) >>= _) _ _ s
    refine wpAny_bind (wpAny_seqItems hS rfl ?_)
    show wpAny _ A.in1 (tryCatch (pyNext (.ref I)) _ >>= _) _ _ s
    refine wpAny_bind (wpAny_tryCatch (W.done s _ _ (hin ▸ hst) fun h' tk hk' => ?_))
    have hS' := hk' S _ hSw hS
    show wpAny _ A.in1 (updateSeq S (fun _ => #[]) >>= _) _ _ _
    refine wpAny_bind ?_
    refine wpAny_updateSeq hS' rfl (wpAny_bind (wpAny_letGo (wpAny_pure ?_)))
    refine hR vb _ tk (by rw [← hin]; exact hPb) fun b o hbw hbS e => (Heap.get?_update_other _ _ (Ne.symm hbS)).trans (hk' b o hbw e)
  | succ k ih =>
    intro j s vb c hz hk hj hst hPb hS hR
    have hlt : j + 1 < n := by omega
    refine codeAny_builtin PySem.F.entry_min_loop ?_
    rw [Around.under_plainId PySem.F.plain_min_loop _]
    show wpAny _ A.in1 (seqItems? (.ref S) >>= _) _ _ s
    refine wpAny_bind (wpAny_seqItems hS rfl ?_)
    show wpAny _ A.in1 (tryCatch (pyNext (.ref I)) _ >>= _) _ _ s
    refine wpAny_bind (wpAny_tryCatch (W.item (j + 1) s _ _ hlt hst fun v h' tk hP hst' hk' => ?_))
    have hS' := hk' S _ hSw hS
    have hz' : Stands h0 wr h' := fun b o hb e => hk' b o hb (hz b o hb e)
    show wpAny _ A.in1 (tryCatch (holding [v, v] (richCompare .Lt v vb >>= _)) _ >>= _) _ _ _
    refine wpAny_bind (wpAny_tryCatch (wpAny_holding (wpAny_bind (hcmp (j + 1) (argBest bt j) v vb _ _ _ hz' hP hPb ?_))))
    refine wpAny_bind (wpAny_holding (wpAny_truthy_bool ?_))
    refine wpAny_bind (wpAny_letGo (wpAny_pure ?_))
    cases hb : bt (j + 1) (argBest bt j) with
    | true =>
      simp only [if_true]
      refine wpAny_bind ?_
      refine wpAny_updateSeq hS' rfl (wpAny_bind (wpAny_letGo ?_))
      rw [hname]
      refine wpAny_pure ⟨plainId_quiet PySem.F.plain_min_loop _, ih (j + 1) _ v _ (fun b o hbw e => (Heap.get?_update_other _ _ (fun z : S = b => by rw [← z, hS0] at e; cases e)).trans (hz' b o hbw e)) (by omega) hlt (W.frame _ _ _ hst' fun b hbf o e => ?_) (by simp only [argBest, hb, if_true]; exact hP) (Heap.get?_update_self _ hS' rfl)
        fun v' h'' tk'' hP' hk'' => ?_⟩
      · exact (Heap.get?_update_other _ _ (fun h : S = b => hSf (by rw [h]; exact hbf))).trans e
      · exact hR v' h'' tk'' hP' fun b o hbw hbS e => hk'' b o hbw hbS ((Heap.get?_update_other _ _ (Ne.symm hbS)).trans (hk' b o hbw e))
    | false =>
      simp only [Bool.false_eq_true, if_false]
      refine wpAny_bind (wpAny_letGo ?_)
      rw [hname]
      refine wpAny_pure ⟨plainId_quiet PySem.F.plain_min_loop _, ih (j + 1) _ vb c hz' (by omega) hlt hst' (by simp only [argBest, hb, Bool.false_eq_true, if_false]; exact hPb) hS' fun v' h'' tk'' hP' hk'' => ?_⟩
      exact hR v' h'' tk'' hP' fun b o hbw hbS e => hk'' b o hbw hbS (hk' b o hbw e)
theorem min_firstZ (W : Walks prog w A.in1 I fp wr n P St) (bt : Nat → Nat → Bool) (hcmp : CmpIn prog w A.in1 (Stands h0 wr) .Lt P bt) (hSf : S ∉ fp) (hS0 : h0.get? S = none) (hn : 0 < n) {s : Shared} {c : Nat} (hz : Stands h0 wr s.heap) (hst : St 0 s.heap)
    (hS : s.heap.get? S = some { cls := .type "list", dict := none, data := .seq #[] c, slots := #[] })
    (hR : ∀ v h' tk, P (argBest bt (n - 1)) v → (∀ b o, b ∉ wr → b ≠ S → s.heap.get? b = some o → h'.get? b = some o) → R (.ok (.ret v)) { s with heap := h', toks := tk }) :
    codeAny (model prog w) A (.builtin "min.loop" ⟨[.ref I, .none, .ref S], []⟩) R s := by
  have hSw : S ∉ wr := fun h => hSf (W.sub _ h)
  have hname : (toString "min" ++ toString ".loop" : String) = "min.loop" := by decide
  refine codeAny_builtin PySem.F.entry_min_loop ?_
  rw [Around.under_plainId PySem.F.plain_min_loop _]
  show wpAny _ A.in1 (seqItems? (.ref S) >>= _) _ _ s
  refine wpAny_bind (wpAny_seqItems hS rfl ?_)
  show wpAny _ A.in1 (tryCatch (pyNext (.ref I)) _ >>= _) _ _ s
  refine wpAny_bind (wpAny_tryCatch (W.item 0 s _ _ hn hst fun v h' tk hP hst' hk' => ?_))
  have hS' := hk' S _ hSw hS
  show wpAny _ A.in1 (updateSeq S (fun _ => #[v, v]) >>= _) _ _ _
  refine wpAny_bind ?_
  refine wpAny_updateSeq hS' rfl ?_
  rw [hname]
  refine wpAny_pure ⟨plainId_quiet PySem.F.plain_min_loop _, min_loopZ W bt hcmp hSf hS0 _ 0 _ v _ (fun b o hbw e => (Heap.get?_update_other _ _ (fun z : S = b => by rw [← z, hS0] at e; cases e)).trans (hk' b o hbw (hz b o hbw e))) rfl hn (W.frame _ _ _ hst' fun b hbf o e => ?_) hP (Heap.get?_update_self _ hS' rfl) fun v' h'' tk'' hP' hk'' => ?_⟩
  · exact (Heap.get?_update_other _ _ (fun h : S = b => hSf (by rw [h]; exact hbf))).trans e
  · exact hR v' h'' tk'' hP' fun b o hbw hbS e => hk'' b o hbw hbS ((Heap.get?_update_other _ _ (Ne.symm hbS)).trans (hk' b o hbw e))
end
end GX
/-! min(xs), xs a list of data -/
namespace GX
open PySem PySem.Spec PyProof.Rows L2 GxR
section
variable {prog : Program} {w : World} {A : Around} {E : Value → Shared → Prop} {s : Shared}
theorem iter_listZ {l : Addr} {its : Array Value} {Q : Value → Shared → Prop} (hl : s.heap.IsList l its)
    (h : ∀ s₂ : Shared, s₂ = { s with heap := s.heap.push { cls := .type "list_iterator", data := .fields #[.ref l, .int 0 0] } } →
      (s₂.heap.IsListIter s.heap.objs.size l 0 ∧ s₂.heap.IsList l its) → (∀ b ∈ [s.heap.objs.size, l], b < s₂.heap.objs.size) → l ≠ s.heap.objs.size → Q (.ref s.heap.objs.size) s₂) :
    wpAny (model prog w) A (pyIter (.ref l)) Q E s := by
  have hlt : l < s.heap.objs.size := by obtain ⟨_, e, _⟩ := hl; exact Heap.lt_size e
  refine wpAny_pyIter_list hl (h _ rfl ⟨⟨_, Heap.get?_push_size _ rfl, rfl, rfl⟩, hl.push _⟩ (fun b hb => ?_) (Nat.ne_of_lt hlt))
  show b < (s.heap.push _).objs.size
  rw [Heap.size_push]
  rcases List.mem_cons.mp hb with rfl | hb
  · exact Nat.lt_succ_self _
  · rcases List.mem_cons.mp hb with rfl | hb
    · exact Nat.lt_succ_of_lt hlt
    · cases hb
theorem call_min_list {l : Addr} {its : Array Value} {bt : Nat → Nat → Bool} {Q : Value → Shared → Prop} (hh : A.handled = none) (hl : s.heap.IsList l its) (hn : 0 < its.size)
    (hcmp : ∀ (wr : List Addr), (∀ b ∈ wr, s.heap.get? b = none) → CmpIn prog w A.in1 (Stands s.heap wr) .Lt (fun i v => its[i]? = some v) bt)
    (h : ∀ v h' tk, its[argBest bt (its.size - 1)]? = some v → (∀ b o, s.heap.get? b = some o → h'.get? b = some o) → Q v { s with heap := h', toks := tk }) :
    wpAny (model prog w) A (call (.builtin "min") [.ref l]) Q E s := by
  have hname : (toString "min" ++ toString ".loop" : String) = "min.loop" := by decide
  refine call_function_tree PySem.F.kind_min PySem.F.plain_min PySem.F.entry_min (PySem.F.args_min1 _) ?_
  show wpAny _ A.in1 (Builtin.Builtins.bindParams "min" ["key", "default"] 0 ⟨[], []⟩ >>= _) _ _ s
  refine wpAny_bind (wpAny_of_eq (show Builtin.Builtins.bindParams "min" ["key", "default"] 0 ⟨[], []⟩ = pure [none, none] from rfl) ?_)
  refine wpAny_bind (wpAny_pure ?_)
  refine wpAny_bind (iter_listZ hl fun s₂ e st hfp hlI => ?_)
  subst e
  refine wpAny_bind (wpAny_newObj_type ?_)
  have hSf : (s.heap.push { cls := .type "list_iterator", data := .fields #[.ref l, .int 0 0] }).objs.size ∉ [s.heap.objs.size, l] := fun hm => Nat.lt_irrefl _ (hfp _ hm)
  have W := Walks.list (prog := prog) (w := w) (A := A.in1) hh s.heap.objs.size l hlI its
  have old : ∀ b o, s.heap.get? b = some o → ((s.heap.push { cls := .type "list_iterator", data := .fields #[.ref l, .int 0 0] }).push { cls := .type "list", data := .seq #[] 0 }).get? b = some o := fun b o e => Heap.get?_push_of_some _ (Heap.get?_push_of_some _ e)
  have none0 : s.heap.get? s.heap.objs.size = none := by
    cases e : s.heap.get? s.heap.objs.size with
    | none => rfl
    | some o => exact absurd (Heap.lt_size e) (Nat.lt_irrefl _)
  have noneS : s.heap.get? (s.heap.push { cls := .type "list_iterator", data := .fields #[.ref l, .int 0 0] }).objs.size = none := by
    cases e : s.heap.get? (s.heap.push { cls := .type "list_iterator", data := .fields #[.ref l, .int 0 0] }).objs.size with
    | none => rfl
    | some o =>
      have := Heap.lt_size e
      rw [Heap.size_push] at this
      exact absurd this (Nat.not_lt.mpr (Nat.le_succ _))
  rw [hname]
  refine wpAny_pure ⟨plainId_quiet PySem.F.plain_min_loop _, min_firstZ (h0 := s.heap) W bt (hcmp [s.heap.objs.size] fun b hb => by rw [List.mem_singleton.mp hb]; exact none0) hSf noneS hn (fun b o _ e => old b o e) (W.frame _ _ _ st fun b _ o e => Heap.get?_push_of_some _ e) (Heap.get?_push_size _ rfl) fun v h' tk hP hk => ?_⟩
  refine h v h' tk hP fun b o e => hk b o (fun hm => ?_) (fun z => ?_) (old b o e)
  · rw [List.mem_singleton.mp hm, none0] at e
    cases e
  · rw [z, noneS] at e
    cases e
end
theorem vals_at : ∀ {xs : List V} {us : List Value} (r : Vals xs us) {i : Nat} {u : Value}, us[i]? = some u → ∃ x, xs[i]? = some x ∧ RelV x u
  | _, _, .nil, i, u, e => nomatch e
  | _, _, .cons r _, 0, u, e => by
    cases e
    exact ⟨_, rfl, r⟩
  | _, _, .cons _ t, i + 1, u, e => vals_at t e
theorem readsAll_at {h : Heap} : ∀ {ds : List PyData} {us : List Value} {as : List Addr}, ReadsAll h us ds as → ∀ {i : Nat} {u : Value}, us[i]? = some u → ∃ d bs, ds[i]? = some d ∧ Reads h u d bs
  | _, _, _, .nil, i, u, e => nomatch e
  | _, _, _, .cons r rs, 0, u, e => by
    cases e
    exact ⟨_, _, rfl, r⟩
  | _, _, _, .cons r rs, i + 1, u, e => readsAll_at rs e
/-- min(xs): the first least one -/
def rMinD (K : PySem.W.Frag) : List V → Hp → VK → Prop := fun vs H Q => ∃ (a : Addr) (xs : List V) (ds : List PyData), vs = [.ref a] ∧ SqL K H a xs ∧ DpAll K H xs ds ∧ 0 < xs.length ∧ (∀ d ∈ ds, ∀ e ∈ ds, PySem.W.alike d e = true) ∧ (∀ d ∈ ds, d ≠ .none ∧ d.depth ≤ 50) ∧
  ∀ x, xs[argBest (fun i j => PySem.W.dataLt (ds.getD i .none) (ds.getD j .none)) (xs.length - 1)]? = some x → Q x H
theorem cr_minD {X : Cx} (hc : X.calm = true) (hu : X.A.units + 64 < cLine) : CallR X (.builtin "min") (rMinD X.K) := by
  intro pins s σ H vs us Q I r h
  obtain ⟨a, xs, ds, rfl, hs, hA, hn, al, nn, q⟩ := h
  obtain ⟨its, rv, hl, hz⟩ := I.list hs
  rw [Vals.ref1 r]
  obtain ⟨as, ra⟩ := Dp.readsAll I ds xs its hA rv
  have ll := rv.length
  refine call_min_list (bt := fun i j => PySem.W.dataLt (ds.getD i .none) (ds.getD j .none)) (I.ok.hd hc) hl.isList (by rw [List.size_toArray]; omega) (fun wr hw i j vi vj s' Q' E' hZ hi hj q' => ?_) fun v h' tk hv hk => ?_
  · obtain ⟨d, bs, g1, g2⟩ := readsAll_at ra (by simpa using hi)
    obtain ⟨e, cs, g3, g4⟩ := readsAll_at ra (by simpa using hj)
    have k : ∀ b o, s.heap.get? b = some o → s'.heap.get? b = some o := fun b o e => hZ b o (fun hm => by rw [hw b hm] at e; cases e) e
    have m1 := List.mem_of_getElem? g1
    have m2 := List.mem_of_getElem? g3
    dsimp only at q'
    rw [List.getD_eq_getElem?_getD, g1, List.getD_eq_getElem?_getD, g3] at q'
    exact PySem.W.lt_data (PyProof.Rows.Reads.keeps k g2) (PyProof.Rows.Reads.keeps k g4) (al d m1 e m2) (nn d m1).1 (by have := (nn d m1).2; show X.A.units + 1 + _ < cLine; omega) q'
  · rw [List.size_toArray, ← ll] at hv
    have hv' : its[argBest (fun i j => PySem.W.dataLt (ds.getD i .none) (ds.getD j .none)) (xs.length - 1)]? = some v := by simpa using hv
    obtain ⟨x, hx, rx⟩ := vals_at rv hv'
    exact ⟨x, H, I.kept hk, rx, q x hx⟩
end GX
/-! min(xs, default=d), xs a list of ints -/
namespace GX
open PySem PySem.Spec PyProof.Rows L2 GxR
theorem dpAll_ints {K : PySem.W.Frag} {H : Hp} : ∀ ns : List Int, DpAll K H (ns.map V.int) (ns.map PyData.int)
  | [] => .nil
  | n :: ns => .cons (.int n) (dpAll_ints ns)
theorem depth_ints : ∀ ns : List Int, PyData.depthAll (ns.map PyData.int) = 0
  | [] => rfl
  | n :: ns => by
    rw [List.map_cons, PyData.depthAll, depth_ints ns, PyData.depth]
    rfl
def rMinI (K : PySem.W.Frag) : List V → List V → Hp → VK → Prop := fun vs zs H Q => ∃ (a : Addr) (ns : List Int) (d : Int), vs = [.ref a] ∧ zs = [.int d] ∧ SqL K H a (ns.map V.int) ∧ (ns = [] → Q (.int d) H) ∧ ∀ n l, ns = n :: l → Q (.int (l.foldl min n)) H
theorem cr_minI {X : Cx} (hc : X.calm = true) (hu : X.A.units + 64 < cLine) : CallRK X (.builtin "min") [Str.ofString "default"] (rMinI X.K) := by
  intro pins s σ H vs zs us ws Q I r rz h
  obtain ⟨a, ns, d, rfl, rfl, hs, q0, q⟩ := h
  obtain ⟨its, rv, hl, hz⟩ := I.list hs
  rw [Vals.ref1 r]
  obtain ⟨u, rfl, ru⟩ := vals1 rz
  obtain ⟨t, rfl⟩ := ru
  obtain ⟨as, ra⟩ := Dp.readsAll I (ns.map PyData.int) _ its (dpAll_ints ns) rv
  show wpAny _ _ (call (.builtin "min") [.ref a] [(Str.ofString "default", Value.int d t)]) _ _ s
  refine PySem.W.min_list_default (I.ok.hd hc) hl.isList (by rw [List.toList_toArray]; exact ra) ⟨fun x hx y hy => ?_, fun x hx e => ?_⟩ (by rw [depth_ints]; omega) (fun e h' tk k => ?_) fun y ys i v h' tk bs e hv hr k => ?_
  · obtain ⟨n, _, rfl⟩ := List.mem_map.mp hx
    obtain ⟨m, _, rfl⟩ := List.mem_map.mp hy
    simp [PySem.W.alike]
  · obtain ⟨n, _, rfl⟩ := List.mem_map.mp hx
    cases e
  · exact ⟨.int d, H, I.kept k, ⟨_, rfl⟩, q0 (List.map_eq_nil_iff.mp e)⟩
  · cases ns with
    | nil => cases e
    | cons n l =>
      rw [List.map_cons] at e
      obtain ⟨rfl, rfl⟩ := List.cons.inj e
      rw [PySem.W.minD_ints] at hr
      refine ⟨.int (l.foldl min n), H, I.kept k, ?_, q n l rfl⟩
      cases hr
      exact ⟨_, rfl⟩
end GX
/-! tables of sets whose mask is 7, 15, 31, 63 or 127: each slot is met; putting in; laying anew -/
namespace GS
open PySem PySem.Spec PyProof.Rows L2
/-- every slot begins a run early enough -/
def Cov (m : Nat) : Prop := ∀ (h : Int) (j : Nat), j ≤ m → ∃ n, n ≤ m + 12 ∧ runI m (SetTable.bits h) n = j
def Mk (m : Nat) : Prop := m = 7 ∨ m = 15 ∨ m = 31 ∨ m = 63 ∨ m = 127
def roundIs (m : Nat) : Bool := (lcgN m (m + 1) == 0) && (List.range (m + 1)).all fun j => (List.range (m + 1)).any fun b => lcgN m b == j
theorem roundIs_mk {m : Nat} (hm : Mk m) : roundIs m = true := by
  rcases hm with e | e | e | e | e
  · rw [e]; decide +kernel
  · rw [e]; decide +kernel
  · rw [e]; decide +kernel
  · rw [e]; decide +kernel
  · rw [e]; decide +kernel
theorem cov_of {m : Nat} (h : roundIs m = true) : Cov m := by
  unfold roundIs at h
  rw [Bool.and_eq_true, beq_iff_eq] at h
  obtain ⟨z, al⟩ := h
  have md : ∀ k, lcgN m (m + 1 + k) = lcgN m k := fun k => by
    induction k with
    | zero => exact z
    | succ k ih =>
      show (lcgN m (m + 1 + k) * 5 + 1) % (m + 1) = (lcgN m k * 5 + 1) % (m + 1)
      rw [ih]
  have at_ : ∀ j, j ≤ m → ∃ b, b ≤ m ∧ lcgN m b = j := fun j hj => by
    obtain ⟨b, hb, e⟩ := List.any_eq_true.mp (List.all_eq_true.mp al j (List.mem_range.mpr (by omega)))
    exact ⟨b, by have := List.mem_range.mp hb; omega, beq_iff_eq.mp e⟩
  intro h j hj
  obtain ⟨a, ha, ea⟩ := at_ _ (runI_le m (SetTable.bits h) 12)
  obtain ⟨b, hb, eb⟩ := at_ j hj
  by_cases c : b < a
  · refine ⟨12 + (b + (m + 1) - a), by omega, ?_⟩
    rw [runI_tail (bits_lt h), ← ea, lcgN_add, show a + (b + (m + 1) - a) = m + 1 + b by omega, md, eb]
  · refine ⟨12 + (b - a), by omega, ?_⟩
    rw [runI_tail (bits_lt h), ← ea, lcgN_add, show a + (b - a) = b by omega, eb]
theorem cov_mk {m : Nat} (hm : Mk m) : Cov m := cov_of (roundIs_mk hm)
theorem meets {m : Nat} (C : Cov m) (h : Int) {j : Nat} (hj : j ≤ m) : ∃ k, k < 10 * SetTable.turns m ∧ way m h k = j := by
  obtain ⟨n, hn, e⟩ := C h j hj
  obtain ⟨k, hk, e2⟩ := run_nth m (SetTable.bits h) n
  refine ⟨k, by unfold SetTable.turns; omega, ?_⟩
  show (nth m _ k).j = j
  rw [e2]
  exact e
theorem way_in (m : Nat) (h : Int) (k : Nat) : way m h k ≤ m := by
  have b := runEnd_bd (m := m) (i := SetTable.bits h % (m + 1)) (Nat.le_of_lt_succ (Nat.mod_lt _ (Nat.succ_pos _)))
  have q := nth_in (m := m) k (runAt m (SetTable.bits h % (m + 1)) (SetTable.bits h)) (by
    have z : SetTable.bits h % (m + 1) ≤ m := Nat.le_of_lt_succ (Nat.mod_lt _ (Nat.succ_pos _))
    show SetTable.bits h % (m + 1) + (SetTable.runEnd m (SetTable.bits h % (m + 1)) - SetTable.bits h % (m + 1)) ≤ m
    omega)
  exact Nat.le_trans (Nat.le_add_right _ _) q
/-- a table that is right for the hashes hs -/
structure Tb (t : SetTable) (hs : List Int) : Prop where
  ris : Ris t.place.toList
  dm : t.dummies = #[]
  sz : t.place.size = hs.length
  msk : Mk t.mask
  bd : ∀ x ∈ t.place.toList, x ≤ t.mask
  reach : ∀ (i : Nat) (h : Int) (j : Nat), hs[i]? = some h → t.place.toList[i]? = some j → ∃ k, way t.mask h k = j ∧ ∀ k', k' < k → way t.mask h k' ∈ t.place.toList
variable {t : SetTable} {hs : List Int}
theorem Tb.odd (T : Tb t hs) : t.mask % 2 = 1 := by
  rcases T.msk with e | e | e | e | e <;> rw [e]
theorem Tb.le (T : Tb t hs) : t.mask ≤ 127 := by
  rcases T.msk with e | e | e | e | e <;> omega
theorem Tb.first (T : Tb t hs) (hl : hs.length ≤ t.mask) (h : Int) : ∃ K, K < 10 * SetTable.turns t.mask ∧ way t.mask h K ∉ t.place.toList ∧ ∀ k, k < K → way t.mask h k ∈ t.place.toList := by
  obtain ⟨j, hj, hn⟩ := st_missing t.place.toList (t.mask + 1) (by rw [Array.length_toList, T.sz]; omega)
  obtain ⟨k, hk, e⟩ := meets (cov_mk T.msk) h (j := j) (by omega)
  obtain ⟨K, h1, h2, h3⟩ := st_least (p := fun k => way t.mask h k ∉ t.place.toList) k (fun z => hn (e ▸ z))
  exact ⟨K, by omega, h2, fun k' hk' => Classical.byContradiction fun c => h3 k' hk' c⟩
theorem Tb.before (T : Tb t hs) {h : Int} {K i j : Nat} (hK : way t.mask h K ∉ t.place.toList) (hi : hs[i]? = some h) (hj : t.place.toList[i]? = some j) : ∃ k, k < K ∧ way t.mask h k = j := by
  obtain ⟨k, e, hb⟩ := T.reach i h j hi hj
  by_cases c : k < K
  · exact ⟨k, c, e⟩
  · exfalso
    by_cases d : k = K
    · exact hK (d ▸ e ▸ List.mem_of_getElem? hj)
    · exact hK (hb K (by omega))
theorem Tb.put (T : Tb t hs) {h : Int} {K : Nat} (hK : way t.mask h K ∉ t.place.toList) (hb : ∀ k, k < K → way t.mask h k ∈ t.place.toList) :
    ∃ p, (t.put (way t.mask h K)).2 = p ∧ p = SetTable.below t.place (way t.mask h K) ∧ p ≤ hs.length ∧ Tb (t.put (way t.mask h K)).1 (hs.take p ++ h :: hs.drop p) ∧ (t.put (way t.mask h K)).1.fill = hs.length + 1 := by
  refine ⟨SetTable.below t.place (way t.mask h K), rfl, rfl, ?_⟩
  have hw := way_in t.mask h K
  generalize ej : way t.mask h K = j at hK hw ⊢
  have c1 : SetTable.below t.place j ≤ t.place.size := (below_cut T.ris j).1
  have hpl : SetTable.below t.place j ≤ t.place.toList.length := by rw [Array.length_toList]; exact c1
  have hph : SetTable.below t.place j ≤ hs.length := T.sz ▸ c1
  have hnp : t.place[SetTable.below t.place j]? ≠ some j := fun e => hK (List.mem_of_getElem? (i := SetTable.below t.place j) (by rw [Array.getElem?_toList]; exact e))
  have hpp := put_place t j
  have hsize : (t.put j).1.place.size = hs.length + 1 := by
    rw [← Array.length_toList, hpp, len_ins _ hpl, Array.length_toList, T.sz]
  have up : ∀ x : Nat, x ∈ t.place.toList → x ∈ (t.put j).1.place.toList := fun x hx => by
    rw [hpp]
    exact mem_ins.2 (.inr hx)
  refine ⟨hph, ⟨ris_insert T.ris hnp, put_dm T.dm j, by rw [len_ins _ hph]; exact hsize, T.msk, fun x hx => ?_, fun i h' j' h1 h2 => ?_⟩, ?_⟩
  · rw [hpp] at hx
    rcases mem_ins.1 hx with z | z
    · exact z ▸ hw
    · exact T.bd x z
  · rw [tins_get hs hph] at h1
    rw [hpp, tins_get _ hpl] at h2
    have go : ∀ i0, hs[i0]? = some h' → t.place.toList[i0]? = some j' → ∃ k, way t.mask h' k = j' ∧ ∀ k', k' < k → way t.mask h' k' ∈ (t.put j).1.place.toList := fun i0 a b => by
      obtain ⟨k, e, z⟩ := T.reach i0 h' j' a b
      exact ⟨k, e, fun k' hk' => up _ (z k' hk')⟩
    by_cases c : i < SetTable.below t.place j
    · rw [if_pos c] at h1 h2
      exact go i h1 h2
    · rw [if_neg c] at h1 h2
      by_cases d : i = SetTable.below t.place j
      · rw [if_pos d] at h1 h2
        cases h1
        cases h2
        exact ⟨K, ej, fun k' hk' => up _ (hb k' hk')⟩
      · rw [if_neg d] at h1 h2
        exact go (i - 1) h1 h2
  · show (t.put j).1.place.size + (t.put j).1.dummies.size = hs.length + 1
    rw [hsize, put_dm T.dm j]
    rfl
/-! ### laying anew -/
theorem free_at {m : Nat} (C : Cov m) (owner : Array (Option Nat)) (h : Int) {j : Nat} (hj : j ≤ m) (hf : oAt owner j = none) :
    ∃ K, SetTable.layClean.free m owner (SetTable.turns m) (SetTable.bits h % (m + 1)) (SetTable.bits h) = some (way m h K) ∧ oAt owner (way m h K) = none ∧ ∀ k, k < K → oAt owner (way m h k) ≠ none := by
  obtain ⟨n, hn, e⟩ := C h j hj
  have hw : way m h (off m (SetTable.bits h % (m + 1)) (SetTable.bits h) n) = j := by
    show (nth m _ _).j = j
    rw [nth_off, itL_run]
    exact e
  obtain ⟨K, k1, k2, k3⟩ := st_least (p := fun k => oAt owner (way m h k) = none) _ (show oAt owner (way m h (off m (SetTable.bits h % (m + 1)) (SetTable.bits h) n)) = none from hw ▸ hf)
  refine ⟨K, free_spec m owner (SetTable.turns m) n _ _ K (by unfold SetTable.turns; omega) k1 (fun k hk => ?_) (by show (oAt owner (way m h K)).isNone = true; rw [k2]; rfl), k2, k3⟩
  have q := k3 k hk
  show (oAt owner (way m h k)).isNone = false
  cases z : oAt owner (way m h k) with
  | none => exact absurd z q
  | some _ => rfl
theorem own_step {m : Nat} (C : Cov m) {done : List Int} {owner : Array (Option Nat)} (W : Own m done owner) (hl : done.length ≤ m) (h : Int) :
    ∃ j, SetTable.layClean.free m owner (SetTable.turns m) (SetTable.bits h % (m + 1)) (SetTable.bits h) = some j ∧ Own m (done ++ [h]) (owner.setIfInBounds j (some done.length)) := by
  obtain ⟨ps, hps, hin⟩ := W.ps
  obtain ⟨j0, h0, hn0⟩ := st_missing ps (m + 1) (by omega)
  have hj0 : oAt owner j0 = none := Classical.byContradiction fun c => hn0 (hin j0 (by omega) c)
  obtain ⟨K, e1, e2, e3⟩ := free_at C owner h (j := j0) (by omega) hj0
  have hjm := way_in m h K
  refine ⟨way m h K, e1, ?_⟩
  generalize ew : way m h K = j1 at e2 hjm ⊢
  have hself : oAt (owner.setIfInBounds j1 (some done.length)) j1 = some done.length := oAt_set_self _ (by rw [W.sz]; omega)
  have mono : ∀ i : Nat, oAt owner i ≠ none → oAt (owner.setIfInBounds j1 (some done.length)) i ≠ none := fun i hi => by
    by_cases c : i = j1
    · rw [c, hself]
      exact Option.some_ne_none _
    · rw [oAt_set_ne _ c]
      exact hi
  constructor
  · rw [Array.size_setIfInBounds]
    exact W.sz
  · intro j k hj e
    by_cases c : j = j1
    · rw [c, hself] at e
      cases e
      exact ⟨h, K, by rw [List.getElem?_append_right (Nat.le_refl _), Nat.sub_self]; rfl, ew.trans c.symm, fun k' hk' => mono _ (e3 k' hk')⟩
    · rw [oAt_set_ne _ c] at e
      obtain ⟨h', K', a1, a2, a3⟩ := W.at_ j k hj e
      exact ⟨h', K', by rw [List.getElem?_append_left (List.getElem?_eq_some_iff.mp a1).1]; exact a1, a2, fun k' hk' => mono _ (a3 k' hk')⟩
  · intro k hk
    rw [List.length_append, List.length_singleton] at hk
    by_cases c : k < done.length
    · obtain ⟨j, hj, e⟩ := W.all k c
      exact ⟨j, hj, by rw [oAt_set_ne _ (fun z => by rw [z, e2] at e; cases e)]; exact e⟩
    · have ek : k = done.length := by omega
      exact ⟨j1, hjm, ek ▸ hself⟩
  · refine ⟨j1 :: ps, by rw [List.length_cons, List.length_append, hps]; rfl, fun j hj e => ?_⟩
    by_cases c : j = j1
    · rw [c]
      exact List.mem_cons_self
    · rw [oAt_set_ne _ c] at e
      exact List.mem_cons_of_mem _ (hin j hj e)
theorem lay_fold {m : Nat} (C : Cov m) : ∀ (rest done : List Int) (owner : Array (Option Nat)), Own m done owner → done.length + rest.length ≤ m →
    ∃ owner', rest.foldl (stepF m) (some (owner, done.length)) = some (owner', (done ++ rest).length) ∧ Own m (done ++ rest) owner'
  | [], done, owner, W, _ => ⟨owner, by rw [List.append_nil]; rfl, by rw [List.append_nil]; exact W⟩
  | h :: rest, done, owner, W, hl => by
    rw [List.length_cons] at hl
    obtain ⟨j, e, W'⟩ := own_step C W (by omega) h
    obtain ⟨owner', f, W2⟩ := lay_fold C rest (done ++ [h]) _ W' (by rw [List.length_append, List.length_singleton]; omega)
    rw [List.append_assoc, List.length_append, List.length_singleton] at f
    rw [List.append_assoc] at W2
    refine ⟨owner', ?_, W2⟩
    rw [List.foldl_cons, stepF_some e]
    exact f
theorem lay_ok {m : Nat} (C : Cov m) {ha : Array Int} (hn : ha.size ≤ m) : ∃ owner, SetTable.layClean m ha = some owner ∧ Own m ha.toList owner := by
  obtain ⟨owner, f, W⟩ := lay_fold C ha.toList [] _ (Own.init m) (by show 0 + ha.toList.length ≤ m; rw [Array.length_toList]; omega)
  refine ⟨owner, ?_, W⟩
  rw [layClean_eq]
  have f' : ha.toList.foldl (stepF m) (some (Array.replicate (m + 1) none, 0)) = some (owner, ([] ++ ha.toList).length) := f
  rw [f']
  rfl
theorem laid_ok {M : Nat} (hM : Mk M) {finger moves : Nat} {led plain : Bool} {ha : Array Int} (hn : ha.size ≤ M) :
    ∃ t' order, SetTable.laid M finger moves led plain ha = some (t', order) ∧ order.toList.Perm (List.range ha.size) ∧ Tb t' (order.toList.map fun i => ha.getD i 0) ∧ t'.mask = M ∧ t'.led = led ∧ t'.plain = plain := by
  obtain ⟨owner, e, W⟩ := lay_ok (cov_mk hM) hn
  refine ⟨{ mask := M, place := ((liveOf M owner).map (·.1)).toArray, dummies := #[], finger := finger, led := led, moves := moves, plain := plain }, ((liveOf M owner).map (·.2)).toArray, ?_, ?_⟩
  · unfold SetTable.laid
    rw [e]
    rfl
  have rr := ris_live (fun j => owner.getD j none) (List.range (M + 1)) (by unfold Ris; exact List.pairwise_lt_range)
  have r1 : Ris ((liveOf M owner).map (·.1)) := rr.1
  have r2 : ∀ x ∈ (liveOf M owner).map (·.1), x ∈ List.range (M + 1) := rr.2
  have hlen : (liveOf M owner).length = ha.size := by
    obtain ⟨ps, p1, p2⟩ := W.ps
    have nd : ((liveOf M owner).map (·.1)).Nodup := List.Pairwise.imp (fun h => Nat.ne_of_lt h) r1
    have a := nat_nodup_len ((liveOf M owner).map (·.1)) ps nd fun x hx => by
      obtain ⟨⟨y, k⟩, hq, rfl⟩ := List.mem_map.mp hx
      obtain ⟨b1, b2⟩ := (mem_live W.sz).1 hq
      exact p2 y b1 (by rw [b2]; exact Option.some_ne_none _)
    have b := nat_nodup_len (List.range ha.size) ((liveOf M owner).map (·.2)) List.nodup_range fun k hk => by
      obtain ⟨j, b1, b2⟩ := W.all k (by rw [Array.length_toList]; exact List.mem_range.mp hk)
      exact List.mem_map.mpr ⟨(j, k), (mem_live W.sz).2 ⟨b1, b2⟩, rfl⟩
    rw [List.length_map, p1, Array.length_toList] at a
    rw [List.length_map, List.length_range] at b
    exact Nat.le_antisymm a b
  refine ⟨?_, ⟨r1, rfl, by simp, hM, fun x hx => Nat.le_of_lt_succ (List.mem_range.mp (r2 x hx)), fun i h j h1 h2 => ?_⟩, rfl, rfl, rfl⟩
  · refine perm_range ha.size _ (by simp [hlen]) fun k hk => ?_
    obtain ⟨j, b1, b2⟩ := W.all k (by rw [Array.length_toList]; exact hk)
    exact List.mem_map.mpr ⟨(j, k), (mem_live W.sz).2 ⟨b1, b2⟩, rfl⟩
  · have h1' : (((liveOf M owner).map (·.2)).map fun i => ha.getD i 0)[i]? = some h := h1
    have h2' : ((liveOf M owner).map (·.1))[i]? = some j := h2
    rw [List.getElem?_map, List.getElem?_map] at h1'
    rw [List.getElem?_map] at h2'
    cases hq : (liveOf M owner)[i]? with
    | none => rw [hq] at h2'; cases h2'
    | some q =>
      obtain ⟨y, k⟩ := q
      rw [hq] at h1' h2'
      cases h2'
      obtain ⟨b1, b2⟩ := (mem_live W.sz).1 (List.mem_of_getElem? hq)
      obtain ⟨h0, K, a1, a2, a3⟩ := W.at_ y k b1 b2
      have e0 : ha.getD k 0 = h0 := by rw [Array.getD_eq_getD_getElem?, ← Array.getElem?_toList, a1]; rfl
      have eh : ha.getD k 0 = h := Option.some.inj h1'
      rw [e0] at eh
      subst eh
      refine ⟨K, a2, fun k' hk' => ?_⟩
      show way M h0 k' ∈ (liveOf M owner).map (·.1)
      cases z : oAt owner (way M h0 k') with
      | none => exact absurd z (a3 k' hk')
      | some k2 => exact List.mem_map.mpr ⟨(way M h0 k', k2), (mem_live W.sz).2 ⟨way_in M h0 k', z⟩, rfl⟩
end GS
/-! sets over a kind of elements: the object, the search, adding, laying anew -/
namespace GS
open PySem PySem.Spec PyProof.Rows L2
/-- tuples stay -/
def TStay (h h' : Heap) : Prop := ∀ a o vs n, h.get? a = some o → o.data = .seq vs n → h'.get? a = some o
/-- a kind of elements -/
structure EK (P : Program) (w : World) (κ : Type) [DecidableEq κ] where
  is : Heap → κ → Value → Prop
  hash : κ → Int
  draws : κ → Nat
  sc : Bool
  isSc : ∀ {h : Heap} {k : κ} {v : Value}, is h k v → v.scannable = sc
  inj : ∀ {h : Heap} {x y : κ} {v : Value}, is h x v → is h y v → x = y
  keep : ∀ {h h' : Heap} {k : κ} {v : Value}, is h k v → TStay h h' → is h' k v
  hashR : ∀ {A : Around} {E : Value → Shared → Prop} {s : Shared} {k : κ} {v : Value} {Q : Int → Shared → Prop}, A.units + 9 < cLine → is s.heap k v → Q (hash k) { s with toks := s.toks + draws k } → wpAny (model P w) A (pyHash v) Q E s
  byV : ∀ {A : Around} {E : Value → Shared → Prop} {s : Shared} {k : κ} {v : Value} {Q : Bool → Shared → Prop}, is s.heap k v → (∀ b, Q b s) → wpAny (model P w) A (hashByValue 8 v) Q E s
  eqR : sc = false → ∀ {A : Around} {E : Value → Shared → Prop} {s : Shared} {x y : κ} {u v : Value} {Q : Bool → Shared → Prop}, A.units + 9 < cLine → is s.heap x u → is s.heap y v → Q (decide (x = y)) s → wpAny (model P w) A (eqBool u v) Q E s
  sameR : ∀ {A : Around} {E : Value → Shared → Prop} {s : Shared} {x : κ} {u : Value} {Q : Bool → Shared → Prop}, sc = false → is s.heap x u → Q true s → wpAny (model P w) A (isSame u u) Q E s
  seenR : sc = false → ∀ {A : Around} {E : Value → Shared → Prop} {s : Shared} {k : κ} {v : Value} {ys : List Value} {Q : Bool → Shared → Prop}, is s.heap k v → (∀ y ∈ ys, ∃ k', is s.heap k' y) → Q false s → wpAny (model P w) A (searchCouldBeSeen v ys) Q E s
  spR : ∀ {A : Around} {E : Value → Shared → Prop} {s : Shared} {k : κ} {b : Addr} {Q : Option Value → Shared → Prop}, is s.heap k (.ref b) → (∀ r, Q r s) → wpAny (model P w) A (specialOf (.ref b) "__eq__") Q E s
  scanR : sc = true → ∀ {A : Around} {E : Value → Shared → Prop} {s : Shared} {a : Addr} {o : Obj} {es : Array (Int × Value)} {ep : Nat} {t : SetTable} {x : Value} {k : κ} {adding : Bool} {Q : ScanMet → Shared → Prop}, is s.heap k x →
    s.heap.get? a = some o → o.data = .set es ep t → t.fits es.size = true → (∀ e ∈ es.toList, ∃ k', is s.heap k' e.2 ∧ e.1 = hash k') →
    ((∃ e ∈ es.toList, is s.heap k e.2) → ∀ i, Q (.found i) s) → ((∀ e ∈ es.toList, ¬ is s.heap k e.2) → Q .absent s) → wpAny (model P w) A (setScan a x (hash k) adding es) Q E s
section
variable {P : Program} {w : World} {κ : Type} [DecidableEq κ] (T : EK P w κ)
def rowsOf (L : List (κ × Value)) : List (Int × Value) := L.map fun p => (T.hash p.1, p.2)
structure SR (h : Heap) (a : Addr) (L : List (κ × Value)) (es : Array (Int × Value)) (ep : Nat) (t : SetTable) : Prop where
  ob : ∃ o, h.get? a = some o ∧ o.ExactSet ∧ o.data = .set es ep t
  rows : es.toList = rowsOf T L
  tab : Tb t (L.map fun p => T.hash p.1)
  nd : (L.map (·.1)).Nodup
  led : w.params.followText "set-order" = true ∨ t.led = true
  room : L.length * 5 < t.mask * 3
  elt : ∀ p ∈ L, T.is h p.1 p.2
variable {T}
variable {A : Around} {E : Value → Shared → Prop} {s : Shared} {a : Addr} {L : List (κ × Value)} {es : Array (Int × Value)} {ep : Nat} {t : SetTable}
theorem rows_len {L : List (κ × Value)} {es : Array (Int × Value)} (h : es.toList = rowsOf T L) : es.size = L.length := by
  rw [← Array.length_toList, h]
  exact List.length_map _
theorem tb_fits {hs : List Int} (T : Tb t hs) {n : Nat} (hn : hs.length = n) (hl : n ≤ t.mask) : t.fits n = true := by
  unfold SetTable.fits SetTable.fill
  rw [T.dm, Bool.and_eq_true, beq_iff_eq, decide_eq_true_eq, T.sz, hn]
  exact ⟨rfl, hl⟩
theorem SR.size {h : Heap} (R : SR T h a L es ep t) : es.size = L.length := rows_len R.rows
theorem SR.few {h : Heap} (R : SR T h a L es ep t) : L.length ≤ 76 := by
  have := R.room
  have := R.tab.le
  omega
theorem SR.fits {h : Heap} (R : SR T h a L es ep t) : t.fits es.size = true := by
  have := R.room
  rw [R.size]
  exact tb_fits R.tab (List.length_map _) (by omega)
theorem SR.entry {h : Heap} (R : SR T h a L es ep t) {i : Nat} {p : κ × Value} (hi : L[i]? = some p) : es[i]? = some (T.hash p.1, p.2) := by
  rw [← Array.getElem?_toList, R.rows]
  unfold rowsOf
  rw [List.getElem?_map, hi]
  rfl
theorem SR.gw {h : Heap} (R : SR T h a L es ep t) : t.gaveWay = false := by
  unfold SetTable.gaveWay
  rw [R.tab.odd]
  rfl
theorem SR.keep {h h' : Heap} (R : SR T h a L es ep t) (ha : ∀ o, h.get? a = some o → h'.get? a = some o) (ht : TStay h h') : SR T h' a L es ep t := by
  obtain ⟨o, ho, r⟩ := R.ob
  exact ⟨⟨o, ha o ho, r⟩, R.rows, R.tab, R.nd, R.led, R.room, fun p hp => T.keep (R.elt p hp) ht⟩
theorem stay_same {h h' : Heap} {o : Obj} {es : Array (Int × Value)} {ep : Nat} {t : SetTable} (ho : h.get? a = some o) (hd : o.data = .set es ep t) (hs : Heap.SameBut a h h') : TStay h h' := fun b ob vs n hb hdb => by
  refine (hs.2 b fun e => ?_).trans hb
  subst e
  rw [ho] at hb
  cases hb
  rw [hd] at hdb
  cases hdb
theorem stay_grow {h h' : Heap} (k : ∀ b o, h.get? b = some o → h'.get? b = some o) : TStay h h' := fun b o _ _ e _ => k b o e
theorem TStay.trans {h1 h2 h3 : Heap} (x : TStay h1 h2) (y : TStay h2 h3) : TStay h1 h3 := fun b o vs n e d => y b o vs n (x b o vs n e d) d
abbrev st0 (m : Nat) (h : Int) : SetTable.Probe := runAt m (SetTable.bits h % (m + 1)) (SetTable.bits h)
theorem nth_dm (m : Nat) : ∀ (n : Nat) (p : SetTable.Probe), p.dummy = none → (nth m p n).dummy = none
  | 0, _, h => h
  | n + 1, p, h => nth_dm m n (adv m p) (by unfold adv; split <;> exact h)
/-- what a search finds, from the c-th step on -/
theorem search_from (hsc : T.sc = false) (R : SR T s.heap a L es ep t) {x : Value} {k : κ} (hx : T.is s.heap k x) (hu : A.units + 9 < cLine) {K : Nat} (hKf : K < 10 * SetTable.turns t.mask)
    (hK : way t.mask (T.hash k) K ∉ t.place.toList) (hKb : ∀ c, c < K → way t.mask (T.hash k) c ∈ t.place.toList) {Q : SetFound → Shared → Prop} {adding : Bool}
    (hin : k ∈ L.map (·.1) → (adding = true → Q (.there none) s) ∧ (adding = false → ∀ i, Q (.there (some i)) s)) (hout : k ∉ L.map (·.1) → Q (.free (way t.mask (T.hash k) K) false) s) :
    ∀ (f c : Nat) (stand : Option SetTable.Probe), stand.getD (t.probeStart (T.hash k)) = nth t.mask (st0 t.mask (T.hash k)) c → c ≤ K → K - c < f →
      (∀ (i : Nat) p, L[i]? = some p → p.1 = k → ∃ c', c ≤ c' ∧ c' < K ∧ t.place.toList[i]? = some (way t.mask (T.hash k) c')) →
      wpAny (model P w) A (setSearchFrom a x (T.hash k) adding f stand) Q E s
  | 0, c, stand, _, _, hf, _ => absurd hf (Nat.not_lt_zero _)
  | f + 1, c, stand, hst, hc, hf, hre => by
    obtain ⟨o, ho, hex, hd⟩ := R.ob
    rw [setSearchFrom_succ]
    refine wpAny_bind (wpAny_setState_of ho hd R.fits ?_)
    dsimp only
    refine wp_if_neg (by rw [R.gw]; exact Bool.false_ne_true) ?_
    try refine wpAny_bind (wpAny_pure ?_)
    have sh : ∀ q, nth t.mask (nth t.mask (st0 t.mask (T.hash k)) c) q = nth t.mask (st0 t.mask (T.hash k)) (c + q) := fun q => (nth_add t.mask c _ q).symm
    have e1 : ∀ q, (nth t.mask (nth t.mask (st0 t.mask (T.hash k)) c) q).j = way t.mask (T.hash k) (c + q) := fun q => congrArg SetTable.Probe.j (sh q)
    have hKc : c + (K - c) = K := by omega
    have spec := go_spec t R.tab.ris R.tab.dm (fun i => (es[i]?.map (·.1)).getD 0) (T.hash k) (10 * SetTable.turns t.mask) (K - c) _ (nth_dm t.mask c _ rfl) (by omega)
      (fun q hq => by rw [e1]; exact hKb (c + q) (by omega)) (by rw [e1, hKc]; exact hK)
    have hashAt : ∀ (i : Nat) p, L[i]? = some p → (es[i]?.map (·.1)).getD 0 = T.hash p.1 := fun i p hp => by
      rw [R.entry hp]
      rfl
    rcases spec with ⟨q, i, hq, hi, hh, hno, hpr⟩ | ⟨hno, hpr⟩
    · have hpr' : t.probe (fun i => (es[i]?.map (·.1)).getD 0) (T.hash k) (stand.getD (t.probeStart (T.hash k))) = some (.candidate (way t.mask (T.hash k) (c + q)) i (nth t.mask (st0 t.mask (T.hash k)) (c + (q + 1)))) := by
        rw [hst, ← e1, ← sh]
        exact hpr
      rw [hpr']
      dsimp only
      rw [e1] at hi
      have hil : i < L.length := by
        have h1 := (List.getElem?_eq_some_iff.mp hi).1
        have h2 := R.tab.sz
        rw [List.length_map] at h2
        rw [Array.length_toList] at h1
        omega
      have hp : L[i]? = some L[i] := List.getElem?_eq_getElem hil
      generalize hpe : L[i] = p at hp
      have hmem : p ∈ L := List.mem_of_getElem? hp
      have hpt := R.elt p hmem
      have rest : wpAny (model P w) A (searchRest a x (T.hash k) adding f es t (way t.mask (T.hash k) (c + q)) i (nth t.mask (st0 t.mask (T.hash k)) (c + (q + 1)))) Q E s := by
        unfold searchRest
        rw [R.entry hp]
        dsimp only
        refine wpAny_bind (wpAny_holding (T.eqR hsc hu hpt hx ?_))
        refine wpAny_bind (wpAny_setState_of ho hd R.fits ?_)
        dsimp only
        have hsl : t.slot (way t.mask (T.hash k) (c + q)) = .live i := slot_live R.tab.ris hi
        by_cases hkk : p.1 = k
        · have hm : k ∈ L.map (·.1) := List.mem_map.mpr ⟨p, hmem, hkk⟩
          cases had : adding with
          | true =>
            refine wp_if_pos (by simp [hkk]) ?_
            exact wpAny_pure ((hin hm).1 had)
          | false =>
            refine wp_if_neg (by simp) ?_
            try refine wpAny_bind (wpAny_pure ?_)
            rw [sameMem]
            dsimp only
            simp only [if_true, hsl, R.entry hp]
            refine wpAny_bind (T.sameR hsc hpt (wpAny_bind (wpAny_pure ?_)))
            simp only [if_true]
            refine wp_if_pos (by simp [hkk]) ?_
            exact wpAny_pure ((hin hm).2 had i)
        · refine wp_if_neg (by simp [hkk]) ?_
          try refine wpAny_bind (wpAny_pure ?_)
          rw [sameMem]
          dsimp only
          simp only [if_true, hsl, R.entry hp]
          refine wpAny_bind (T.sameR hsc hpt (wpAny_bind (wpAny_pure ?_)))
          simp only [if_true]
          refine wp_if_neg (by simp [hkk]) ?_
          refine search_from hsc R hx hu hKf hK hKb hin hout f (c + (q + 1)) _ rfl (by omega) (by omega) fun i0 p0 h0 hk0 => ?_
          obtain ⟨c', a1, a2, a3⟩ := hre i0 p0 h0 hk0
          refine ⟨c', ?_, a2, a3⟩
          rcases Nat.lt_trichotomy c' (c + q) with z | z | z
          · exact absurd ((hashAt i0 p0 h0).trans (congrArg T.hash hk0)) (hno (c' - c) i0 (by omega) (by rw [e1, show c + (c' - c) = c' by omega]; exact a3))
          · rw [z] at a3
            have s0 := slot_live R.tab.ris a3
            rw [hsl] at s0
            cases s0
            rw [hp] at h0
            cases h0
            exact absurd hk0 hkk
          · omega
      by_cases hl : t.led = true
      · refine wp_if_neg (by simp [hl]) ?_
        try refine wpAny_bind (wpAny_pure ?_)
        exact rest
      · refine wp_if_pos (by simp [hl]) ?_
        refine wpAny_bind (T.seenR hsc hx (fun y hy => ?_) ?_)
        · obtain ⟨e, he, ee⟩ := List.mem_map.mp hy
          have he2 : e ∈ es.toList := by
            have z : e ∈ es ∧ e.1 = T.hash k := by simpa using he
            simpa using z.1
          rw [R.rows] at he2
          obtain ⟨p2, hp2, e2⟩ := List.mem_map.mp he2
          exact ⟨p2.1, by rw [← ee, ← e2]; exact R.elt p2 hp2⟩
        · refine wp_if_neg (by decide) ?_
          try refine wpAny_bind (wpAny_pure ?_)
          exact rest
    · have hpr' : t.probe (fun i => (es[i]?.map (·.1)).getD 0) (T.hash k) (stand.getD (t.probeStart (T.hash k))) = some (.empty (way t.mask (T.hash k) K) none) := by
        rw [hst, show way t.mask (T.hash k) K = (nth t.mask (nth t.mask (st0 t.mask (T.hash k)) c) (K - c)).j by rw [e1, hKc]]
        exact hpr
      rw [hpr']
      dsimp only
      refine wpAny_pure (hout fun hm => ?_)
      obtain ⟨p0, h0, hk0⟩ := List.mem_map.mp hm
      obtain ⟨i0, hi0, e0⟩ := List.getElem_of_mem h0
      have h00 : L[i0]? = some p0 := by rw [List.getElem?_eq_getElem hi0, e0]
      obtain ⟨c', a1, a2, a3⟩ := hre i0 p0 h00 hk0
      exact hno (c' - c) i0 (by omega) (by rw [e1, show c + (c' - c) = c' by omega]; exact a3) ((hashAt i0 p0 h00).trans (congrArg T.hash hk0))
theorem search_at (hsc : T.sc = false) (R : SR T s.heap a L es ep t) {x : Value} {k : κ} (hx : T.is s.heap k x) (hu : A.units + 9 < cLine) {adding : Bool} {Q : SetFound → Shared → Prop}
    (hin : k ∈ L.map (·.1) → (adding = true → Q (.there none) s) ∧ (adding = false → ∀ i, Q (.there (some i)) s))
    (hout : ∀ K, k ∉ L.map (·.1) → way t.mask (T.hash k) K ∉ t.place.toList → (∀ c, c < K → way t.mask (T.hash k) c ∈ t.place.toList) → Q (.free (way t.mask (T.hash k) K) false) s) :
    wpAny (model P w) A (setSearch a x (T.hash k) adding) Q E s := by
  have hroom := R.room
  obtain ⟨K, hKf, hK, hKb⟩ := R.tab.first (by rw [List.length_map]; omega) (T.hash k)
  have hbig : K < 100000 := by
    have := R.tab.le
    unfold SetTable.turns at hKf
    omega
  unfold setSearch
  refine search_from hsc R hx hu hKf hK hKb hin (fun hn => hout K hn hK hKb) 100000 0 none rfl (Nat.zero_le _) (by omega) fun i p hp hk => ?_
  have hi : (L.map fun p => T.hash p.1)[i]? = some (T.hash k) := by rw [List.getElem?_map, hp, ← hk]; rfl
  have hil : i < t.place.toList.length := by
    have h1 := (List.getElem?_eq_some_iff.mp hp).1
    have h2 := R.tab.sz
    rw [List.length_map] at h2
    rw [Array.length_toList]
    omega
  have hj := List.getElem?_eq_getElem hil
  obtain ⟨c, hc, e⟩ := R.tab.before hK hi hj
  exact ⟨c, Nat.zero_le _, hc, by rw [hj, e]⟩
end
end GS
/-! adding to a set; laying it anew; room; merging -/
namespace GS
open PySem PySem.Spec PyProof.Rows L2
def szOk (n : Nat) : Bool := (SetTable.sizeAbove n - 1 == 7 || SetTable.sizeAbove n - 1 == 15 || SetTable.sizeAbove n - 1 == 31 || SetTable.sizeAbove n - 1 == 63 || SetTable.sizeAbove n - 1 == 127) && decide (n < SetTable.sizeAbove n) && decide (SetTable.sizeAbove n ≤ 128)
theorem szAll : (List.range 128).all szOk = true := by decide +kernel
theorem sz_at {n : Nat} (h : n < 128) : Mk (SetTable.sizeAbove n - 1) ∧ n < SetTable.sizeAbove n ∧ SetTable.sizeAbove n ≤ 128 := by
  have z := List.all_eq_true.mp szAll n (List.mem_range.mpr h)
  unfold szOk at z
  simp only [Bool.and_eq_true, Bool.or_eq_true, beq_iff_eq, decide_eq_true_eq] at z
  unfold Mk
  omega
section
variable {P : Program} {w : World} {κ : Type} [DecidableEq κ] {T : EK P w κ}
variable {A : Around} {E : Value → Shared → Prop} {s : Shared} {a : Addr} {L : List (κ × Value)} {es : Array (Int × Value)} {ep : Nat} {t : SetTable}
theorem get_take (L : List (κ × Value)) : ∀ n, n ≤ L.length → (List.range n).filterMap (fun i => L[i]?) = L.take n
  | 0, _ => rfl
  | n + 1, hn => by
    rw [List.range_succ, List.filterMap_append, get_take L n (by omega), List.take_succ, List.getElem?_eq_getElem (by omega)]
    simp [List.getElem?_eq_getElem (show n < L.length by omega)]
theorem order_rows (order : Array Nat) (hr : es.toList = rowsOf T L) (hp : order.toList.Perm (List.range L.length)) :
    ∃ L2, (order.filterMap (es[·]?)).toList = rowsOf T L2 ∧ L2.Perm L ∧ (L2.map fun p => T.hash p.1) = order.toList.map fun i => (es.map (·.1)).getD i 0 := by
  have ent : ∀ i : Nat, es[i]? = (L[i]?).map fun p => (T.hash p.1, p.2) := fun i => by
    rw [← Array.getElem?_toList, hr]
    unfold rowsOf
    rw [List.getElem?_map]
  refine ⟨order.toList.filterMap fun i => L[i]?, ?_, ?_, ?_⟩
  · rw [Array.toList_filterMap]
    unfold rowsOf
    rw [List.map_filterMap]
    exact congrArg (fun f => List.filterMap f order.toList) (funext ent)
  · have h2 := get_take L L.length (Nat.le_refl _)
    rw [List.take_length] at h2
    have h1 := hp.filterMap fun i => L[i]?
    rw [h2] at h1
    exact h1
  · have key : ∀ l : List Nat, (∀ i ∈ l, i < L.length) → ((l.filterMap fun i => L[i]?).map fun p => T.hash p.1) = l.map fun i => (es.map (·.1)).getD i 0 := fun l => by
      induction l with
      | nil => intro _; rfl
      | cons i l ih =>
        intro hl
        have hi := hl i List.mem_cons_self
        have e4 : (es.map (·.1)).getD i 0 = T.hash L[i].1 := by
          rw [Array.getD_eq_getD_getElem?, Array.getElem?_map, ent, List.getElem?_eq_getElem hi]
          rfl
        rw [List.filterMap_cons_some (List.getElem?_eq_getElem hi), List.map_cons, List.map_cons, ih fun j hj => hl j (List.mem_cons_of_mem _ hj), e4]
    exact key _ fun i hi => List.mem_range.mp (hp.mem_iff.mp hi)
theorem Tb.re {t t' : SetTable} {hs : List Int} (T : Tb t hs) (h1 : t'.place = t.place) (h2 : t'.dummies = t.dummies) (h3 : t'.mask = t.mask) : Tb t' hs := by
  constructor
  · rw [h1]; exact T.ris
  · rw [h2]; exact T.dm
  · rw [h1]; exact T.sz
  · rw [h3]; exact T.msk
  · rw [h1, h3]; exact T.bd
  · rw [h1, h3]; exact T.reach
/-- all laid anew -/
theorem relaid_at (hrows : es.toList = rowsOf T L) {finger moves M : Nat} {led plain : Bool} (hM : Mk M) (hl : L.length ≤ M) :
    ∃ t' order L', SetTable.laid M finger moves led plain (es.map (·.1)) = some (t', order) ∧ (order.filterMap (es[·]?)).toList = rowsOf T L' ∧ L'.Perm L ∧ Tb t' (L'.map fun p => T.hash p.1) ∧ t'.mask = M ∧ t'.led = led ∧ t'.plain = plain ∧
      (order.filterMap (es[·]?)).size = es.size ∧ order.toList.Perm (List.range es.size) := by
  have hsl := rows_len hrows
  obtain ⟨t', order, e, hp, Tt, em, el, epl⟩ := laid_ok (finger := finger) (moves := moves) (led := led) (plain := plain) hM (ha := es.map (·.1)) (by rw [Array.size_map, hsl]; exact hl)
  rw [Array.size_map] at hp
  obtain ⟨L2, r1, r2, r3⟩ := order_rows order hrows (by rw [← hsl]; exact hp)
  rw [← r3] at Tt
  exact ⟨t', order, L2, e, r1, r2, Tt, em, el, epl, by rw [rows_len r1, r2.length_eq, hsl], hp⟩
theorem relay_at {o : Obj} (ho : s.heap.get? a = some o) (hex : o.ExactSet) (hd : o.data = .set es ep t) (hrows : es.toList = rowsOf T L) (hf : t.fits es.size = true)
    (nd : (L.map (·.1)).Nodup) (elt : ∀ p ∈ L, T.is s.heap p.1 p.2) (ld : w.params.followText "set-order" = true ∨ t.led = true) {wanted : Nat}
    (hw : wanted < 128) (hn : L.length * 5 < (SetTable.sizeAbove wanted - 1) * 3) {Q : Unit → Shared → Prop}
    (hQ : ∀ h' L' es' ep' t', Heap.SameBut a s.heap h' → SR T h' a L' es' ep' t' → L'.Perm L → t'.mask = SetTable.sizeAbove wanted - 1 → Q () { s with heap := h' }) : wpAny (model P w) A (setRelay a wanted) Q E s := by
  obtain ⟨hM, hgt, hle⟩ := sz_at hw
  have hsl := rows_len hrows
  obtain ⟨t', order, L2, e, r1, r2, Tt, em, el, epl, hs2, _⟩ := relaid_at (finger := t.finger) (moves := t.movedTo (SetTable.sizeAbove wanted - 1)) (led := t.led) (plain := t.plain) hrows hM (by omega)
  rw [setRelay_eq]
  refine wpAny_bind (wpAny_setState_of ho hd hf ?_)
  dsimp only
  refine wp_if_neg (by rw [sizeLine_eq]; omega) ?_
  try refine wpAny_bind (wpAny_pure ?_)
  rw [show t.relaid (es.map (·.1)) wanted = some (t', order) from e]
  dsimp only
  refine wpAny_bind ?_
  refine wp_if_neg (by rw [hs2]; simp) ?_
  try refine wpAny_bind (wpAny_pure ?_)
  refine wpAny_pure ?_
  dsimp only
  refine wpAny_storeSet_of ho hd ?_ (by rw [hs2, hsl, sizeLine_eq]; omega)
  have sb : Heap.SameBut a s.heap (s.heap.update a (Obj.putSet (order.filterMap (es[·]?)) t')) := Heap.SameBut.update ..
  exact hQ _ L2 (order.filterMap (es[·]?)) (ep + 1) t' sb ⟨⟨_, store_at ho hd, ⟨hex.1, hex.2.1, hex.2.2⟩, rfl⟩, r1, Tt, (r2.map (·.1)).nodup_iff.mpr nd, by rw [el]; exact ld, by rw [r2.length_eq, em]; exact hn,
    fun p hp => T.keep (elt p (r2.mem_iff.mp hp)) (stay_same ho hd sb)⟩ r2 em
/-- the state behind putting in -/
theorem put_mid (R : SR T s.heap a L es ep t) {x : Value} {k : κ} (hm : k ∉ L.map (·.1)) {K : Nat} (hK : way t.mask (T.hash k) K ∉ t.place.toList) (hb : ∀ c, c < K → way t.mask (T.hash k) c ∈ t.place.toList) :
    ∃ t1 p L1, t.put (way t.mask (T.hash k) K) = (t1, p) ∧ (SetTable.insertAt es p (T.hash k, x)).toList = rowsOf T L1 ∧ L1.Perm ((k, x) :: L) ∧ Tb t1 (L1.map fun p => T.hash p.1) ∧ (L1.map (·.1)).Nodup ∧ t1.fill = L.length + 1 ∧ t1.mask = t.mask ∧ t1.led = t.led ∧ t1.plain = t.plain := by
  obtain ⟨p, q1, q2, q3, q4, q5⟩ := R.tab.put hK hb
  have pm : (L.take p ++ (k, x) :: L.drop p).Perm ((k, x) :: L) := put_perm L p (k, x)
  refine ⟨(t.put (way t.mask (T.hash k) K)).1, p, L.take p ++ (k, x) :: L.drop p, Prod.ext rfl q1, ?_, pm, ?_, ?_, by rw [q5, List.length_map], rfl, rfl, rfl⟩
  · rw [SetTable.toList_insertAt, R.rows]
    unfold rowsOf
    rw [List.map_append, List.map_cons, List.map_take, List.map_drop]
  · rw [List.map_append, List.map_cons, List.map_take, List.map_drop]
    exact q4
  · refine (pm.map (·.1)).nodup_iff.mpr ?_
    rw [List.map_cons]
    exact List.nodup_cons.mpr ⟨hm, R.nd⟩
theorem free_slot_at (R : SR T s.heap a L es ep t) {h : Int} {K : Nat} (hKf : K < 10 * SetTable.turns t.mask) (hK : way t.mask h K ∉ t.place.toList) (hb : ∀ c, c < K → way t.mask h c ∈ t.place.toList) : t.freeSlot h = some (way t.mask h K, false) := by
  have spec := go_spec t R.tab.ris R.tab.dm (fun _ => h + 1) h (10 * SetTable.turns t.mask) K (st0 t.mask h) rfl hKf hb hK
  have e : t.probe (fun _ => h + 1) h (t.probeStart h) = some (.empty (way t.mask h K) none) := by
    rcases spec with ⟨k, i, _, _, z, _⟩ | ⟨_, z⟩
    · exact absurd z (by omega)
    · exact z
  unfold SetTable.freeSlot
  rw [e]
  rfl
/-- adding one whose hash is known -/
theorem add_at (R : SR T s.heap a L es ep t) {x : Value} {k : κ} (hx : T.is s.heap k x) (hu : A.units + 9 < cLine) (hfew : L.length + 1 < 38) {Q : Bool → Shared → Prop}
    (hQ : ∀ b h' L' es' ep' t', Heap.SameBut a s.heap h' → SR T h' a L' es' ep' t' → (k ∈ L.map (·.1) → L' = L) → (k ∉ L.map (·.1) → L'.Perm ((k, x) :: L)) → Q b { s with heap := h' }) :
    wpAny (model P w) A (setAddHashed a x (T.hash k)) Q E s := by
  obtain ⟨o, ho, hex, hd⟩ := R.ob
  have hsl := R.size
  have hroom := R.room
  have hbel : ∀ e ∈ es.toList, ∃ k', T.is s.heap k' e.2 ∧ e.1 = T.hash k' := fun e he => by
    rw [R.rows] at he
    obtain ⟨p, hp, rfl⟩ := List.mem_map.mp he
    exact ⟨p.1, R.elt p hp, rfl⟩
  have himp : (∃ e ∈ es.toList, T.is s.heap k e.2) ↔ k ∈ L.map (·.1) := by
    rw [R.rows]
    constructor
    · rintro ⟨e, he, hi⟩
      obtain ⟨p, hp, rfl⟩ := List.mem_map.mp he
      exact List.mem_map.mpr ⟨p, hp, T.inj (R.elt p hp) hi⟩
    · intro hm
      obtain ⟨p, hp, rfl⟩ := List.mem_map.mp hm
      exact ⟨_, List.mem_map.mpr ⟨p, hp, rfl⟩, R.elt p hp⟩
  -- what both roads have: the state behind storing, and the laying anew
  have mid : ∀ {K : Nat} (hm : k ∉ L.map (·.1)) (hK : way t.mask (T.hash k) K ∉ t.place.toList) (hb : ∀ c, c < K → way t.mask (T.hash k) c ∈ t.place.toList), ∃ t1 p L1, t.put (way t.mask (T.hash k) K) = (t1, p) ∧
      (SetTable.insertAt es p (T.hash k, x)).toList = rowsOf T L1 ∧ L1.Perm ((k, x) :: L) ∧ Tb t1 (L1.map fun p => T.hash p.1) ∧ (L1.map (·.1)).Nodup ∧ t1.fill = L.length + 1 ∧ t1.mask = t.mask ∧ t1.led = t.led ∧ t1.plain = t.plain := fun hm hK hb => put_mid R hm hK hb
  unfold setAddHashed
  refine wpAny_holding ?_
  rw [show (100000 : Nat) = 99999 + 1 from rfl, setAddHashedIn_succ]
  refine wpAny_bind (wpAny_setState_of ho hd R.fits ?_)
  dsimp only
  have sb : ∀ es1 t1, Heap.SameBut a s.heap (s.heap.update a (Obj.putSet es1 t1)) := fun es1 t1 => Heap.SameBut.update ..
  have elt1 : ∀ {L1 : List (κ × Value)} {es1 t1}, L1.Perm ((k, x) :: L) → ∀ p ∈ L1, T.is (s.heap.update a (Obj.putSet es1 t1)) p.1 p.2 := fun {L1 es1 t1} pm p hp => by
    rcases List.mem_cons.mp (pm.mem_iff.mp hp) with e | hp
    · rw [e]; exact T.keep hx (stay_same ho hd (sb es1 t1))
    · exact T.keep (R.elt p hp) (stay_same ho hd (sb es1 t1))
  have want : ∀ {t1 : SetTable}, t1.mask = t.mask → t1.tooFull = true → t1.fill = L.length + 1 → SetTable.grown (L.length + 1) < 128 ∧ (L.length + 1) * 5 < (SetTable.sizeAbove (SetTable.grown (L.length + 1)) - 1) * 3 := fun {t1} e1 e2 e3 => by
    unfold SetTable.tooFull at e2
    rw [decide_eq_true_eq, e3, e1] at e2
    have hc : L.length + 1 = 5 ∨ L.length + 1 = 9 ∨ L.length + 1 = 19 := by
      rcases R.tab.msk with e | e | e | e | e <;> rw [e] at e2 hroom <;> omega
    rcases hc with e | e | e <;> rw [e] <;> decide +kernel
  cases hs : T.sc with
  | true =>
    have hby : byScan x es = true := by
      unfold byScan
      rw [T.isSc hx, hs, Bool.true_and, Bool.and_eq_true, decide_eq_true_eq]
      refine ⟨?_, ?_⟩
      · rw [hsl]
        unfold scanBound
        have := R.few
        omega
      · rw [Array.all_eq_true']
        intro e he
        obtain ⟨k', hk', _⟩ := hbel e (by simpa using he)
        rw [T.isSc hk', hs]
    refine wp_if_pos hby ?_
    refine wpAny_bind ?_
    unfold setAddByScan
    refine wpAny_bind (wpAny_rule ?_)
    refine wpAny_bind (T.scanR hs hx ho hd R.fits hbel (fun hm i => ?_) fun hm => ?_)
    · dsimp only
      refine wpAny_pure ?_
      dsimp only
      exact wpAny_pure (hQ false s.heap L es ep t (Heap.SameBut.refl a s.heap) R (fun _ => rfl) fun z => absurd (himp.mp hm) z)
    · dsimp only
      have hm' : k ∉ L.map (·.1) := fun z => by
        obtain ⟨e, he, hi⟩ := himp.mpr z
        exact hm e he hi
      obtain ⟨K, hKf, hK, hKb⟩ := R.tab.first (by rw [List.length_map]; omega) (T.hash k)
      obtain ⟨t1, p, L1, ep1, er, pm, Tt, nd1, ef, em, el, epl⟩ := mid hm' hK hKb
      have hl1 : L1.length = L.length + 1 := pm.length_eq
      have hes1 : (SetTable.insertAt es p (T.hash k, x)).size = L.length + 1 := by rw [rows_len er, hl1]
      have hfit : t1.fits (SetTable.insertAt es p (T.hash k, x)).size = true := by
        rw [hes1]
        exact tb_fits Tt (by rw [List.length_map, hl1]) (by rw [em]; omega)
      have hlay : layNew t es (T.hash k) x = (SetTable.insertAt es p (T.hash k, x), t1, false, false) := by
        unfold layNew
        rw [free_slot_at R hKf hK hKb]
        dsimp only
        rw [ep1]
        dsimp only
        unfold SetTable.orStandIn
        rw [hfit, if_pos rfl]
        rfl
      rw [hlay]
      dsimp only
      refine wpAny_bind (wpAny_of_eq (a := ()) rfl ?_)
      -- by value
      have fin : ∀ t2 : SetTable, t2.place = t1.place → t2.dummies = t1.dummies → t2.mask = t1.mask → t2.led = t1.led → t2.fill = t1.fill →
          wpAny (model P w) A (do
            storeSet a (SetTable.insertAt es p (T.hash k, x)) t2
            if (!false && t2.tooFull) = true then do
              match relayAll t2 (SetTable.insertAt es p (T.hash k, x)) (SetTable.grown (SetTable.insertAt es p (T.hash k, x)).size) with
              | (es, t, gave) => do
                (match gave with | true => rule "set.scan.the-table-gave-way" | false => pure ())
                storeSet a es t
            return some true) (fun r s' => wpAny (model P w) A (match r with | some added => pure added | none => setAddHashedIn a x (T.hash k) 99999) Q E s') E s := fun t2 z1 z2 z3 z4 z5 => by
        have Tt2 : Tb t2 (L1.map fun p => T.hash p.1) := Tt.re z1 z2 z3
        have hfit2 : t2.fits (SetTable.insertAt es p (T.hash k, x)).size = true := by
          rw [hes1]
          exact tb_fits Tt2 (by rw [List.length_map, hl1]) (by rw [z3, em]; omega)
        refine wpAny_bind (wpAny_storeSet_of ho hd ?_ (by rw [hes1, sizeLine_eq]; omega))
        have ho1 := store_at (es' := SetTable.insertAt es p (T.hash k, x)) (t' := t2) ho hd
        have ld2 : w.params.followText "set-order" = true ∨ t2.led = true := by rw [z4, el]; exact R.led
        by_cases hf : t2.tooFull = true
        · obtain ⟨hw, hn⟩ := want (t1 := t2) (by rw [z3, em]) hf (by rw [z5, ef])
          obtain ⟨hM, hgt, hle⟩ := sz_at hw
          obtain ⟨t', order, L2, e, r1, r2, Tt', em', el', epl', hs2, hop⟩ := relaid_at (finger := t2.finger) (moves := t2.movedTo (SetTable.sizeAbove (SetTable.grown (L.length + 1)) - 1)) (led := t2.led) (plain := t2.plain) er hM (by omega)
          have hL2 : L2.length = L.length + 1 := by rw [r2.length_eq, hl1]
          have hra : relayAll t2 (SetTable.insertAt es p (T.hash k, x)) (SetTable.grown (SetTable.insertAt es p (T.hash k, x)).size) = (order.filterMap ((SetTable.insertAt es p (T.hash k, x))[·]?), t', false) := by
            unfold relayAll
            rw [hes1, show t2.relaid ((SetTable.insertAt es p (T.hash k, x)).map (·.1)) (SetTable.grown (L.length + 1)) = some (t', order) from e]
            dsimp only
            rw [if_pos]
            rw [Bool.and_eq_true]
            refine ⟨?_, ?_⟩
            · unfold coversAll
              rw [List.isPerm_iff, ← hes1]
              exact hop
            · rw [hs2, hes1]
              exact tb_fits Tt' (by rw [List.length_map, hL2]) (by rw [em']; omega)
          refine wp_if_pos (by simp [hf]) ?_
          rw [hra]
          dsimp only
          refine wpAny_bind (wpAny_pure ?_)
          refine wpAny_bind (wpAny_storeSet_of (s := { s with heap := s.heap.update a (Obj.putSet (SetTable.insertAt es p (T.hash k, x)) t2) }) ho1 rfl ?_ (by rw [hs2, hes1, sizeLine_eq]; omega))
          refine wpAny_pure ?_
          dsimp only
          refine wpAny_pure ?_
          have sb2 : Heap.SameBut a (s.heap.update a (Obj.putSet (SetTable.insertAt es p (T.hash k, x)) t2)) ((s.heap.update a (Obj.putSet (SetTable.insertAt es p (T.hash k, x)) t2)).update a (Obj.putSet (order.filterMap ((SetTable.insertAt es p (T.hash k, x))[·]?)) t')) := Heap.SameBut.update ..
          exact hQ true _ L2 _ _ t' ((sb _ _).trans sb2) ⟨⟨_, store_at ho1 rfl, ⟨hex.1, hex.2.1, hex.2.2⟩, rfl⟩, r1, Tt', (r2.map (·.1)).nodup_iff.mpr nd1, by rw [el']; exact ld2, by rw [hL2, em']; exact hn,
            fun q hq => T.keep (elt1 pm q (r2.mem_iff.mp hq)) (stay_same ho1 rfl sb2)⟩ (fun z => absurd z hm') fun _ => r2.trans pm
        · refine wp_if_neg (by simp [hf]) ?_
          refine wpAny_pure ?_
          dsimp only
          refine wpAny_pure ?_
          refine hQ true _ L1 _ _ t2 (sb _ _) ⟨⟨_, ho1, ⟨hex.1, hex.2.1, hex.2.2⟩, rfl⟩, er, Tt2, nd1, ld2, ?_, elt1 pm⟩ (fun z => absurd z hm') fun _ => pm
          unfold SetTable.tooFull at hf
          rw [decide_eq_true_eq, z5, ef, z3] at hf
          rw [hl1, z3]
          omega
      by_cases hp : t1.plain = true
      · refine wp_if_pos hp ?_
        refine wpAny_bind (T.byV hx fun b => ?_)
        cases b with
        | true => exact fin t1 rfl rfl rfl rfl rfl
        | false => exact fin { t1 with plain := false } rfl rfl rfl rfl rfl
      · refine wp_if_neg hp ?_
        try refine wpAny_bind (wpAny_pure ?_)
        exact fin t1 rfl rfl rfl rfl rfl
  | false =>
    refine wp_if_neg (by unfold byScan; rw [T.isSc hx, hs]; simp) ?_
    try refine wpAny_bind (wpAny_pure ?_)
    refine wpAny_bind (search_at hs R hx hu (fun hm => ⟨fun _ => ?_, fun z => by cases z⟩) fun K hm hK hb => ?_)
    · dsimp only
      exact wpAny_pure (hQ false s.heap L es ep t (Heap.SameBut.refl a s.heap) R (fun _ => rfl) fun z => absurd hm z)
    · dsimp only
      refine wpAny_bind (wpAny_setState_of ho hd R.fits ?_)
      dsimp only
      obtain ⟨t1, p, L1, ep1, er, pm, Tt, nd1, ef, em, el, epl⟩ := mid hm hK hb
      rw [ep1]
      dsimp only
      have hl1 : L1.length = L.length + 1 := pm.length_eq
      have hes1 : (SetTable.insertAt es p (T.hash k, x)).size = L.length + 1 := by rw [rows_len er, hl1]
      have fin : ∀ t2 : SetTable, t2.place = t1.place → t2.dummies = t1.dummies → t2.mask = t1.mask → t2.led = t1.led → t2.fill = t1.fill →
          wpAny (model P w) A (do
            storeSet a (SetTable.insertAt es p (T.hash k, x)) t2
            if (!false && t2.tooFull) = true then setRelay a (SetTable.grown (es.size + 1))
            return true) Q E s := fun t2 z1 z2 z3 z4 z5 => by
        have Tt2 : Tb t2 (L1.map fun p => T.hash p.1) := Tt.re z1 z2 z3
        have hfit2 : t2.fits (SetTable.insertAt es p (T.hash k, x)).size = true := by
          rw [hes1]
          exact tb_fits Tt2 (by rw [List.length_map, hl1]) (by rw [z3, em]; omega)
        refine wpAny_bind (wpAny_storeSet_of ho hd ?_ (by rw [hes1, sizeLine_eq]; omega))
        have ho1 := store_at (es' := SetTable.insertAt es p (T.hash k, x)) (t' := t2) ho hd
        have ld2 : w.params.followText "set-order" = true ∨ t2.led = true := by rw [z4, el]; exact R.led
        by_cases hf : t2.tooFull = true
        · obtain ⟨hw, hn⟩ := want (t1 := t2) (by rw [z3, em]) hf (by rw [z5, ef])
          refine wp_if_pos (by simp [hf]) ?_
          refine wpAny_bind ?_
          rw [hsl]
          refine relay_at (s := { s with heap := s.heap.update a (Obj.putSet (SetTable.insertAt es p (T.hash k, x)) t2) }) ho1 ⟨hex.1, hex.2.1, hex.2.2⟩ rfl er hfit2 nd1 (elt1 pm) ld2 hw (by rw [hl1]; exact hn) ?_
          intro h2 L2 es2 ep2 t3 sb2 R2 pm2 _
          exact wpAny_pure (hQ true h2 L2 es2 ep2 t3 ((sb _ _).trans sb2) R2 (fun z => absurd z hm) fun _ => pm2.trans pm)
        · refine wp_if_neg (by simp [hf]) ?_
          refine wpAny_pure (hQ true _ L1 _ _ t2 (sb _ _) ⟨⟨_, ho1, ⟨hex.1, hex.2.1, hex.2.2⟩, rfl⟩, er, Tt2, nd1, ld2, ?_, elt1 pm⟩ (fun z => absurd z hm) fun _ => pm)
          unfold SetTable.tooFull at hf
          rw [decide_eq_true_eq, z5, ef, z3] at hf
          rw [hl1, z3]
          omega
      by_cases hp : t1.plain = true
      · refine wp_if_pos hp ?_
        refine wpAny_bind (T.byV hx fun b => ?_)
        cases b with
        | true => exact fin t1 rfl rfl rfl rfl rfl
        | false => exact fin { t1 with plain := false } rfl rfl rfl rfl rfl
      · refine wp_if_neg hp ?_
        try refine wpAny_bind (wpAny_pure ?_)
        exact fin t1 rfl rfl rfl rfl rfl
end
end GS
/-! room, walks, merging, a copy, s | t -/
namespace GS
open PySem PySem.Spec PyProof.Rows L2
section
variable {P : Program} {w : World} {κ : Type} [DecidableEq κ] {T : EK P w κ}
variable {A : Around} {E : Value → Shared → Prop} {s : Shared} {a : Addr} {L : List (κ × Value)} {es : Array (Int × Value)} {ep : Nat} {t : SetTable}
theorem SR.fill {h : Heap} (R : SR T h a L es ep t) : t.fill = L.length := by
  unfold SetTable.fill
  rw [R.tab.dm, R.tab.sz, List.length_map]
  rfl
theorem room_at (R : SR T s.heap a L es ep t) {more : Nat} (hfew : L.length + more < 64) {Q : Unit → Shared → Prop}
    (hQ : ∀ h' L' es' ep' t', Heap.SameBut a s.heap h' → SR T h' a L' es' ep' t' → L'.Perm L → (L'.length + more) * 5 < t'.mask * 3 → Q () { s with heap := h' }) : wpAny (model P w) A (setRoomFor a more) Q E s := by
  obtain ⟨o, ho, hex, hd⟩ := R.ob
  have hroom := R.room
  have hps : t.place.size = L.length := by rw [R.tab.sz, List.length_map]
  unfold setRoomFor
  refine wpAny_bind (wpAny_setState_of ho hd R.fits ?_)
  dsimp only
  unfold SetTable.roomFor
  by_cases c : (t.fill + more) * 5 ≥ t.mask * 3
  · rw [if_pos c]
    dsimp only
    rw [hps]
    rw [R.fill] at c
    have hw : (L.length + more) * 2 < 128 := by omega
    have h7 : 7 ≤ t.mask := by rcases R.tab.msk with e | e | e | e | e <;> omega
    obtain ⟨_, hgt, _⟩ := sz_at hw
    refine relay_at ho hex hd R.rows R.fits R.nd R.elt R.led hw (by omega) fun h' L' es' ep' t' sb R' pm em => ?_
    exact hQ h' L' es' ep' t' sb R' pm (by rw [pm.length_eq, em]; omega)
  · rw [if_neg c]
    dsimp only
    rw [R.fill] at c
    exact wpAny_pure (hQ s.heap L es ep t (Heap.SameBut.refl a s.heap) R (List.Perm.refl _) (by omega))
/-- the rows in the order in which a walk gives them -/
theorem walk_at (R : SR T s.heap a L es ep t) {Q : Array (Int × Value) → Shared → Prop} (hQ : ∀ arr d, arr.toList.Perm es.toList → Q arr { s with drawn := d }) : wpAny (model P w) A (setWalk a) Q E s := by
  obtain ⟨o, ho, hex, hd⟩ := R.ob
  have same : ({ s with drawn := s.drawn } : Shared) = s := rfl
  unfold setWalk
  refine wpAny_bind (wpAny_setState_of ho hd R.fits ?_)
  dsimp only
  refine wpAny_bind (wpAny_byText ?_)
  by_cases hb : w.params.followText "set-order" = true
  · refine wp_if_pos hb ?_
    refine wpAny_bind (wpAny_askSetting ?_)
    refine wpAny_pure ?_
    exact hQ _ s.drawn (pick_perm _ es)
  · refine wp_if_neg hb ?_
    try refine wpAny_bind (wpAny_pure ?_)
    have hl : t.led = true := R.led.resolve_left hb
    by_cases c : (!t.plain && decide (es.size > 1)) = true
    · refine wp_if_pos c ?_
      refine wpAny_bind (drawOrder_at es.size es.toList s _ (by rw [Array.length_toList]; exact Nat.le_refl _) fun ys d pm => ?_)
      exact wpAny_pure (hQ _ d (by simpa using pm))
    · refine wp_if_neg c ?_
      try refine wpAny_bind (wpAny_pure ?_)
      refine wpAny_bind (wpAny_of_eq (a := ()) ?_ (wpAny_pure (hQ es s.drawn (List.Perm.refl _))))
      show (if (!t.led && decide (es.size > 1)) = true then unsupported "set:maker-not-led" else pure ()) = pure ()
      rw [hl]
      rfl
/-- whether all sets are quiet: some answer -/
theorem quiet_at {O S : Addr} {L' : List (κ × Value)} {es' : Array (Int × Value)} {ep' : Nat} {t' : SetTable} (R : SR T s.heap O L es ep t) (R' : SR T s.heap S L' es' ep' t') {Q : Bool → Shared → Prop} (hQ : ∀ b, Q b s) :
    wpAny (model P w) A (setsQuiet [O, S]) Q E s := by
  have bel : ∀ {a : Addr} {L : List (κ × Value)} {es : Array (Int × Value)} {ep : Nat} {t : SetTable}, SR T s.heap a L es ep t → ∀ e ∈ es.toList, ∃ k, T.is s.heap k e.2 := fun R e he => by
    rw [R.rows] at he
    obtain ⟨p, hp, rfl⟩ := List.mem_map.mp he
    exact ⟨p.1, R.elt p hp⟩
  unfold setsQuiet
  refine wpAny_bind ?_
  refine wpAny_forIn_list _ (fun rest r s' => r.1 = none ∧ s' = s ∧ ∀ a ∈ rest, a = O ∨ a = S) _ ?_ ?_ _ _ ⟨rfl, rfl, fun a ha => by simpa using ha⟩
  · rintro v rest r s' ⟨hr, rfl, hall⟩
    have hv : ∃ L es ep t, SR T s'.heap v L es ep t := by
      rcases hall v List.mem_cons_self with e | e
      · exact ⟨L, es, ep, t, e ▸ R⟩
      · exact ⟨L', es', ep', t', e ▸ R'⟩
    obtain ⟨Lv, esv, epv, tv, Rv⟩ := hv
    obtain ⟨o, ho, hex, hd⟩ := Rv.ob
    unfold setEntries
    refine wpAny_bind (wpAny_bind (wpAny_setState_of ho hd Rv.fits (wpAny_pure ?_)))
    refine wpAny_bind ?_
    show wpAny _ _ (forIn esv _ _) _ _ s'
    rw [← Array.forIn_toList]
    refine wpAny_forIn_list _ (fun rest r s2 => r.1 = none ∧ s2 = s' ∧ ∀ e ∈ rest, ∃ k, T.is s'.heap k e.2) _ ?_ ?_ _ _ ⟨rfl, rfl, bel Rv⟩
    · rintro ⟨hh, x⟩ rest2 r2 s2 ⟨hr2, rfl, hall2⟩
      obtain ⟨k, hk⟩ := hall2 _ List.mem_cons_self
      have rest' : ∀ e ∈ rest2, ∃ k, T.is s2.heap k e.2 := fun e he => hall2 e (List.mem_cons_of_mem _ he)
      dsimp only
      cases x with
      | ref b =>
        dsimp only
        refine wpAny_bind (T.spR hk fun r => ?_)
        by_cases c : (r != some (Value.builtin "object.__eq__")) = true
        · refine wp_if_pos c ?_
          refine wpAny_pure ?_
          dsimp only
          exact wpAny_pure (wpAny_pure (hQ false))
        · refine wp_if_neg c ?_
          try refine wpAny_bind (wpAny_pure ?_)
          exact wpAny_pure ⟨rfl, rfl, rest'⟩
      | _ => exact wpAny_pure ⟨rfl, rfl, rest'⟩
    · rintro ⟨r1, r2⟩ s2 ⟨hr2, rfl, _⟩
      simp only at hr2
      subst hr2
      exact wpAny_pure ⟨rfl, rfl, fun a ha => hall a (List.mem_cons_of_mem _ ha)⟩
  · rintro ⟨r1, r2⟩ s' ⟨hr, rfl, _⟩
    simp only at hr
    subst hr
    exact wpAny_pure (hQ true)
end
end GS
/-! merging, a copy, s | t -/
namespace GS
open PySem PySem.Spec PyProof.Rows L2
section
variable {P : Program} {w : World} {κ : Type} [DecidableEq κ] {T : EK P w κ}
variable {A : Around} {E : Value → Shared → Prop} {s : Shared} {a : Addr} {L : List (κ × Value)} {es : Array (Int × Value)} {ep : Nat} {t : SetTable}
/-- the rows of O as S is filled from it -/
theorem unseen_at {O S : Addr} (hOS : O ≠ S) {L' : List (κ × Value)} {es' : Array (Int × Value)} {ep' : Nat} {t' : SetTable} (R : SR T s.heap O L es ep t) (R' : SR T s.heap S L' es' ep' t')
    {Q : Array (Int × Value) → Shared → Prop} (hQ : ∀ arr d h' ep2 t2, arr.toList.Perm es.toList → Heap.SameBut S s.heap h' → SR T h' S L' es' ep2 t2 → Q arr { s with heap := h', drawn := d }) :
    wpAny (model P w) A (setWalkUnseen O [S] (some S)) Q E s := by
  obtain ⟨o, ho, hex, hd⟩ := R.ob
  obtain ⟨o', ho', hex', hd'⟩ := R'.ob
  have wk : ∀ {Q : Array (Int × Value) → Shared → Prop}, (∀ arr d h' ep2 t2, arr.toList.Perm es.toList → Heap.SameBut S s.heap h' → SR T h' S L' es' ep2 t2 → Q arr { s with heap := h', drawn := d }) → wpAny (model P w) A (setWalk O) Q E s := fun {Q} h =>
    walk_at R fun arr d pm => h arr d s.heap ep' t' pm (Heap.SameBut.refl S s.heap) R'
  unfold setWalkUnseen
  refine wpAny_bind (wpAny_setState_of ho hd R.fits ?_)
  dsimp only
  refine wpAny_bind (wpAny_byText ?_)
  by_cases c1 : (w.params.followText "set-order" || (t.led && t.plain) || decide (es.size ≤ 1)) = true
  · refine wp_if_pos c1 ?_
    exact wk hQ
  · refine wp_if_neg c1 ?_
    try refine wpAny_bind (wpAny_pure ?_)
    have hb : ¬ w.params.followText "set-order" = true := fun z => c1 (by rw [z]; simp)
    have hl : t.led = true := R.led.resolve_left hb
    have hl' : t'.led = true := R'.led.resolve_left hb
    refine wpAny_bind (quiet_at R R' fun b => ?_)
    cases b with
    | false =>
      refine wp_if_pos (by simp) ?_
      exact wk hQ
    | true =>
      refine wp_if_neg (by simp) ?_
      try refine wpAny_bind (wpAny_pure ?_)
      refine wpAny_bind (wpAny_rule ?_)
      refine wpAny_bind (wpAny_setState_of ho' hd' R'.fits ?_)
      dsimp only
      by_cases c2 : ((t'.led && !t.led) || (t'.plain && !t.plain)) = true
      · refine wp_if_pos c2 ?_
        have hsz := R'.size
        have hfw := R'.few
        refine wpAny_bind (wpAny_storeSet_of ho' hd' ?_ (by rw [hsz, sizeLine_eq]; omega))
        refine wpAny_pure ?_
        have sb : Heap.SameBut S s.heap (s.heap.update S (Obj.putSet es' { t' with led := t'.led && t.led, plain := t'.plain && t.plain })) := Heap.SameBut.update ..
        refine hQ es s.drawn _ _ _ (List.Perm.refl _) sb ⟨⟨_, store_at ho' hd', ⟨hex'.1, hex'.2.1, hex'.2.2⟩, rfl⟩, R'.rows, R'.tab.re rfl rfl rfl, R'.nd, .inr ?_, R'.room, fun p hp => T.keep (R'.elt p hp) (stay_same ho' hd' sb)⟩
        show (t'.led && t.led) = true
        rw [hl, hl']
        rfl
      · refine wp_if_neg c2 ?_
        try refine wpAny_pure ?_
        exact hQ es s.drawn s.heap ep' t' (List.Perm.refl _) (Heap.SameBut.refl S s.heap) R'
theorem same_old {h h' : Heap} {S c : Addr} {o : Obj} (hs : Heap.SameBut S h h') (hc : c ≠ S) (e : h.get? c = some o) : h'.get? c = some o := (hs.2 c hc).trans e
/-- S takes in what O has -/
theorem merge_at {O S : Addr} (hOS : O ≠ S) {LO LS : List (κ × Value)} {eO eS : Array (Int × Value)} {pO pS : Nat} {tO tS : SetTable} (RO : SR T s.heap O LO eO pO tO) (RS : SR T s.heap S LS eS pS tS)
    (hu : A.units + 9 < cLine) (hfew : LS.length + LO.length < 38) {each : Sem Unit}
    (heach : ∀ (s' : Shared) (Q' : Unit → Shared → Prop), (∀ o, s.heap.get? O = some o → s'.heap.get? O = some o) → Q' () s' → wpAny (model P w) A each Q' E s') {Q : Unit → Shared → Prop}
    (hQ : ∀ h' d L' es' ep' t', Heap.SameBut S s.heap h' → SR T h' S L' es' ep' t' → (∀ p ∈ L', p ∈ LS ∨ p ∈ LO) → (∀ p ∈ LS, p.1 ∈ L'.map (·.1)) → (∀ p ∈ LO, p.1 ∈ L'.map (·.1)) → L'.length ≤ LS.length + LO.length → Q () { s with heap := h', drawn := d }) :
    wpAny (model P w) A (setMerge S O each) Q E s := by
  obtain ⟨oO, hoO, hexO, hdO⟩ := RO.ob
  have hszO := RO.size
  unfold setMerge
  refine wp_if_neg (by simp; exact fun z => hOS z.symm) ?_
  try refine wpAny_bind (wpAny_pure ?_)
  refine wpAny_bind (wpAny_setState_of hoO hdO RO.fits ?_)
  dsimp only
  by_cases hem : eO.isEmpty = true
  · refine wp_if_pos hem ?_
    have hLO : LO = [] := by
      have z : eO.size = 0 := by simpa [Array.isEmpty] using hem
      exact List.eq_nil_of_length_eq_zero (by omega)
    subst hLO
    exact wpAny_pure (hQ s.heap s.drawn LS eS pS tS (Heap.SameBut.refl S s.heap) RS (fun p hp => .inl hp) (fun p hp => List.mem_map.mpr ⟨p, hp, rfl⟩) (fun p hp => by cases hp) (Nat.le_refl _))
  refine wp_if_neg hem ?_
  try refine wpAny_bind (wpAny_pure ?_)
  refine wpAny_bind (room_at RS (by rw [hszO]; omega) fun h1 L1 e1 p1 t1 sb1 R1 pm1 hroom1 => ?_)
  obtain ⟨o1, ho1, hex1, hd1⟩ := R1.ob
  have hl1 : L1.length = LS.length := pm1.length_eq
  have hoO1 : h1.get? O = some oO := same_old sb1 hOS hoO
  have RO1 : SR T h1 O LO eO pO tO := RO.keep (fun o e => same_old sb1 hOS e) (by
    obtain ⟨oS, hoS, _, hdS⟩ := RS.ob
    exact stay_same hoS hdS sb1)
  refine wpAny_bind (wpAny_setState_of (s := { s with heap := h1 }) ho1 hd1 R1.fits ?_)
  dsimp only
  rw [hszO] at hroom1
  by_cases hL1 : L1 = []
  · -- an empty one: the table is taken over, or laid
    subst hL1
    have hLS : LS = [] := List.eq_nil_of_length_eq_zero (by rw [← hl1]; rfl)
    subst hLS
    have hf0 : t1.fill = 0 := R1.fill
    have done : ∀ es2 t2 L2, Tb t2 (L2.map fun p => T.hash p.1) → es2.toList = rowsOf T L2 → L2.Perm LO → LO.length * 5 < t2.mask * 3 → (t2.led = (t1.led && tO.led)) → wpAny (model P w) A (storeSet S es2 t2) Q E { s with heap := h1 } := fun es2 t2 L2 Tt er pm rm el => by
      have hsz2 := rows_len er
      refine wpAny_storeSet_of ho1 hd1 ?_ (by rw [hsz2, pm.length_eq, sizeLine_eq]; omega)
      have sb : Heap.SameBut S h1 (h1.update S (Obj.putSet es2 t2)) := Heap.SameBut.update ..
      refine hQ _ s.drawn L2 es2 (p1 + 1) t2 (sb1.trans sb) ⟨⟨_, store_at ho1 hd1, ⟨hex1.1, hex1.2.1, hex1.2.2⟩, rfl⟩, er, Tt, (pm.map (·.1)).nodup_iff.mpr RO.nd, ?_, by rw [pm.length_eq]; exact rm,
        fun p hp => T.keep (RO1.elt p (pm.mem_iff.mp hp)) (stay_same ho1 hd1 sb)⟩ (fun p hp => .inr (pm.mem_iff.mp hp)) (fun p hp => by cases hp) (fun p hp => List.mem_map.mpr ⟨p, pm.mem_iff.mpr hp, rfl⟩) (by rw [pm.length_eq]; omega)
      rw [el]
      by_cases hb : w.params.followText "set-order" = true
      · exact .inl hb
      · exact .inr (by rw [R1.led.resolve_left hb, RO.led.resolve_left hb]; rfl)
    unfold SetTable.road
    by_cases c : (t1.mask == tO.mask && tO.dummies.isEmpty) = true
    · rw [if_neg (by rw [hf0]; decide), if_pos c]
      dsimp only
      exact done eO _ LO (RO.tab.re rfl rfl rfl) RO.rows (List.Perm.refl _) RO.room rfl
    · rw [if_neg (by rw [hf0]; decide), if_neg c]
      dsimp only
      obtain ⟨t', order, L2, e, r1, r2, Tt, em, el, epl, hs2, hop⟩ := relaid_at (finger := t1.finger) (moves := t1.moves) (led := t1.led && tO.led) (plain := t1.plain && tO.plain) RO.rows R1.tab.msk (by
        have : ([] : List (κ × Value)).length = 0 := rfl
        omega)
      rw [e]
      refine wpAny_bind (wpAny_of_eq (a := (order.filterMap (eO[·]?), t')) ?_ ?_)
      · show (if ((order.filterMap (eO[·]?)).size != eO.size) = true then _ else _) = _
        rw [if_neg (by rw [hs2]; simp)]
      · dsimp only
        exact done _ t' L2 Tt r1 r2 (by
          have : ([] : List (κ × Value)).length = 0 := rfl
          rw [em]; omega) el
  · -- one by one
    have hf1 : t1.fill ≠ 0 := by
      rw [R1.fill]
      exact fun z => hL1 (List.eq_nil_of_length_eq_zero z)
    unfold SetTable.road
    rw [if_pos (by simpa using hf1)]
    dsimp only
    refine wpAny_bind (unseen_at (s := { s with heap := h1 }) hOS RO1 R1 fun arr d h2 p2 t2 pma sb2 R2 => ?_)
    refine wpAny_bind ?_
    show wpAny _ _ (forIn arr _ _) _ _ _
    rw [← Array.forIn_toList]
    have hbel : ∀ e ∈ arr.toList, ∃ p ∈ LO, e = (T.hash p.1, p.2) := fun e he => by
      have he2 := pma.mem_iff.mp he
      rw [RO.rows] at he2
      obtain ⟨p, hp, rfl⟩ := List.mem_map.mp he2
      exact ⟨p, hp, rfl⟩
    have hall0 : ∀ p ∈ LO, (T.hash p.1, p.2) ∈ arr.toList := fun p hp => pma.mem_iff.mpr (by rw [RO.rows]; exact List.mem_map.mpr ⟨p, hp, rfl⟩)
    have hlen0 : arr.toList.length = LO.length := by rw [pma.length_eq, Array.length_toList, hszO]
    refine wpAny_forIn_list _ (fun rest _ s' => ∃ h' d' L2 es2 ep2 t2, s' = { s with heap := h', drawn := d' } ∧ Heap.SameBut S s.heap h' ∧ SR T h' S L2 es2 ep2 t2 ∧ (∀ p ∈ L2, p ∈ LS ∨ p ∈ LO) ∧ (∀ p ∈ LS, p.1 ∈ L2.map (·.1)) ∧
      (∀ p ∈ LO, p.1 ∈ L2.map (·.1) ∨ (T.hash p.1, p.2) ∈ rest) ∧ (∀ e ∈ rest, ∃ p ∈ LO, e = (T.hash p.1, p.2)) ∧ L2.length + rest.length ≤ LS.length + LO.length) _ ?_ ?_ _ _
      ⟨h2, d, L1, e1, p2, t2, rfl, sb1.trans sb2, R2, fun p hp => .inl (pm1.mem_iff.mp hp), fun p hp => List.mem_map.mpr ⟨p, pm1.mem_iff.mpr hp, rfl⟩, fun p hp => .inr (hall0 p hp), hbel, by rw [hlen0, hl1]; exact Nat.le_refl _⟩
    · rintro ⟨hh, x⟩ rest r s' ⟨h', d', L2, es2, ep2, t3, rfl, sb, R3, i1, i2, i3, i4, i5⟩
      obtain ⟨p0, hp0, ee⟩ := i4 _ List.mem_cons_self
      cases ee
      rw [List.length_cons] at i5
      have RO3 : SR T h' O LO eO pO tO := RO.keep (fun o e => same_old sb hOS e) (by
        obtain ⟨oS, hoS, _, hdS⟩ := RS.ob
        exact stay_same hoS hdS sb)
      dsimp only
      refine wpAny_bind (wpAny_holding ?_)
      refine add_at (s := { s with heap := h', drawn := d' }) R3 (RO3.elt p0 hp0) hu (by omega) fun b h4 L4 es4 ep4 t4 sb4 R4 c1 c2 => ?_
      have RO4 : SR T h4 O LO eO pO tO := RO3.keep (fun o e => same_old sb4 hOS e) (by
        obtain ⟨oS, hoS, _, hdS⟩ := R3.ob
        exact stay_same hoS hdS sb4)
      obtain ⟨o4, ho4, hex4, hd4⟩ := RO4.ob
      refine wpAny_bind (heach { s with heap := h4, drawn := d' } _ (fun o e => same_old (sb.trans sb4) hOS e) ?_)
      refine wpAny_bind (wpAny_setState_of (s := { s with heap := h4, drawn := d' }) ho4 hd4 RO4.fits ?_)
      dsimp only
      refine wp_if_neg (by simp) ?_
      try refine wpAny_bind (wpAny_pure ?_)
      refine wpAny_pure ?_
      dsimp only
      by_cases hm : p0.1 ∈ L2.map (·.1)
      · rw [c1 hm] at R4
        refine ⟨h4, d', L2, es4, ep4, t4, rfl, sb.trans sb4, R4, i1, i2, fun p hp => ?_, fun e he => i4 e (List.mem_cons_of_mem _ he), by omega⟩
        rcases i3 p hp with z | z
        · exact .inl z
        · rcases List.mem_cons.mp z with z | z
          · have e2 : p.2 = p0.2 := congrArg (fun q : Int × Value => q.2) z
            have := RO.elt p hp
            rw [e2] at this
            rw [T.inj this (RO.elt p0 hp0)]
            exact .inl hm
          · exact .inr z
      · have pm4 := c2 hm
        refine ⟨h4, d', L4, es4, ep4, t4, rfl, sb.trans sb4, R4, fun p hp => ?_, fun p hp => ?_, fun p hp => ?_, fun e he => i4 e (List.mem_cons_of_mem _ he), by rw [pm4.length_eq, List.length_cons]; omega⟩
        · rcases List.mem_cons.mp (pm4.mem_iff.mp hp) with z | z
          · rw [z]
            exact .inr hp0
          · exact i1 p z
        · rw [(pm4.map (·.1)).mem_iff, List.map_cons]
          exact List.mem_cons_of_mem _ (i2 p hp)
        · rw [(pm4.map (·.1)).mem_iff, List.map_cons]
          rcases i3 p hp with z | z
          · exact .inl (List.mem_cons_of_mem _ z)
          · rcases List.mem_cons.mp z with z | z
            · have e2 : p.2 = p0.2 := congrArg (fun q : Int × Value => q.2) z
              have := RO.elt p hp
              rw [e2] at this
              rw [T.inj this (RO.elt p0 hp0)]
              exact .inl List.mem_cons_self
            · exact .inr z
    · rintro r s' ⟨h', d', L2, es2, ep2, t3, rfl, sb, R3, i1, i2, i3, i4, i5⟩
      refine wpAny_pure (hQ h' d' L2 es2 ep2 t3 sb R3 i1 i2 (fun p hp => ?_) (by rw [List.length_nil] at i5; omega))
      rcases i3 p hp with z | z
      · exact z
      · cases z
end
end GS
/-! a new set; s | t -/
namespace GS
open PySem PySem.Spec PyProof.Rows L2
theorem entry_or : entryFor table "set.__or__" = some Builtin.«frozenset.__or__» := entryFor_alias (id' := "frozenset.__or__") (by kernel_rfl) rfl (by decide +kernel) (by kernel_rfl)
section
variable {P : Program} {w : World} {κ : Type} [DecidableEq κ] {T : EK P w κ}
variable {A : Around} {E : Value → Shared → Prop} {s : Shared}
abbrev new0 (w : World) : Obj := { cls := .type "set", dict := none, data := .set #[] 0 (.fresh 0 0 (!w.params.followText "set-order")) }
theorem sr_fresh {h : Heap} {a : Addr} (ho : h.get? a = some (new0 w)) : SR T h a [] #[] 0 (.fresh 0 0 (!w.params.followText "set-order")) where
  ob := ⟨_, ho, ⟨rfl, rfl, rfl⟩, rfl⟩
  rows := rfl
  tab := ⟨List.Pairwise.nil, rfl, rfl, .inl rfl, fun x hx => (by cases hx), fun i h j hi => (by simp at hi)⟩
  nd := List.nodup_nil
  led := by
    show _ ∨ (!w.params.followText "set-order") = true
    cases w.params.followText "set-order"
    · exact .inr rfl
    · exact .inl rfl
  room := by
    show 0 * 5 < 7 * 3
    decide
  elt := fun p hp => (by cases hp)
theorem new_at {Q : Value → Shared → Prop} (h : Q (.ref s.heap.objs.size) { s with heap := s.heap.push (new0 w) }) : wpAny (model P w) A (newSet (.type "set")) Q E s := by
  unfold newSet
  refine wpAny_bind (wpAny_byText ?_)
  simp only [newObj]
  refine wpAny_bind (wpAny_alloc ?_)
  exact wpAny_pure h
theorem any_set {a : Addr} {Q : Bool → Shared → Prop} (hT : s.TypeIs (.ref a) "set") (h : Q true s) : wpAny (model P w) A (Builtin.Frozenset.isAnySet (.ref a)) Q E s := by
  unfold Builtin.Frozenset.isAnySet
  refine wpAny_bind (wpAny_isInstance hT sub_set_self ?_)
  exact wpAny_pure h
theorem copy_at {a : Addr} {L : List (κ × Value)} {es : Array (Int × Value)} {ep : Nat} {t : SetTable} (R : SR T s.heap a L es ep t) (hu : A.units + 9 < cLine) (hfew : L.length < 38) {Q : Value → Shared → Prop}
    (hQ : ∀ h' d L' es' ep' t', (∀ b o, s.heap.get? b = some o → h'.get? b = some o) → SR T h' s.heap.objs.size L' es' ep' t' → (∀ p ∈ L', p ∈ L) → (∀ p ∈ L, p.1 ∈ L'.map (·.1)) → L'.length ≤ L.length → Q (.ref s.heap.objs.size) { s with heap := h', drawn := d }) :
    wpAny (model P w) A (Builtin.Frozenset.copyOf a) Q E s := by
  obtain ⟨o, ho, hex, hd⟩ := R.ob
  have hT : s.TypeIs (.ref a) "set" := ⟨o, ho, hex.1⟩
  have hlt := Heap.lt_size ho
  unfold Builtin.Frozenset.copyOf Builtin.Frozenset.baseOf
  refine wpAny_bind (wpAny_bind (wpAny_isInstance hT sub_set_self (wpAny_pure ?_)))
  simp only [if_true]
  refine wpAny_bind (new_at ?_)
  refine wpAny_bind (wpAny_pure ?_)
  have k1 : ∀ b o, s.heap.get? b = some o → (s.heap.push (new0 w)).get? b = some o := fun b o e => Heap.get?_push_of_some _ e
  refine wpAny_bind (merge_at (s := { s with heap := s.heap.push (new0 w) }) (O := a) (S := s.heap.objs.size) (Nat.ne_of_lt hlt) (R.keep (fun o e => k1 _ o e) (stay_grow k1)) (sr_fresh (Heap.get?_push_size _ rfl)) hu (by show 0 + _ < _; omega)
    (fun s' Q' _ q => wpAny_pure q) fun h' d L' es' ep' t' sb R' i1 i2 i3 i4 => ?_)
  refine wpAny_pure (hQ h' d L' es' ep' t' (fun b o e => ?_) R' (fun p hp => (i1 p hp).resolve_left (fun z => by cases z)) i3 (by rw [List.length_nil] at i4; omega))
  exact same_old sb (Nat.ne_of_lt (Heap.lt_size e)) (k1 b o e)
theorem or_at {a b : Addr} (hab : a ≠ b) {L1 L2 : List (κ × Value)} {e1 e2 : Array (Int × Value)} {p1 p2 : Nat} {t1 t2 : SetTable} (R1 : SR T s.heap a L1 e1 p1 t1) (R2 : SR T s.heap b L2 e2 p2 t2) (hu : A.units + 16 < cLine) (hfew : L1.length + L2.length < 38)
    {Q : Value → Shared → Prop} (hQ : ∀ h' d L es ep t, (∀ b o, s.heap.get? b = some o → h'.get? b = some o) → SR T h' s.heap.objs.size L es ep t → (∀ p ∈ L, p ∈ L1 ∨ p ∈ L2) → (∀ p ∈ L1, p.1 ∈ L.map (·.1)) → (∀ p ∈ L2, p.1 ∈ L.map (·.1)) → L.length ≤ L1.length + L2.length →
      Q (.ref s.heap.objs.size) { s with heap := h', drawn := d }) : wpAny (model P w) A (binaryOp .BitOr (.ref a) (.ref b)) Q E s := by
  obtain ⟨o1, ho1, hx1, hd1⟩ := R1.ob
  obtain ⟨o2, ho2, hx2, hd2⟩ := R2.ob
  have hT1 : s.TypeIs (.ref a) "set" := ⟨o1, ho1, hx1.1⟩
  have hT2 : s.TypeIs (.ref b) "set" := ⟨o2, ho2, hx2.1⟩
  refine wpAny_binaryOp_same (T := "set") (id := "set.__or__") hT1 hT2 F.fills_set_or F.slot_set_or ?_
  refine wpAny_call_entry F.slot_set_or hT1 entry_or ?_ (F.args_set_or_2 _ _)
  unfold Builtin.«frozenset.__or__»
  refine wpAny_bind (wpAny_of_eq (a := (Value.ref a, Value.ref b)) rfl ?_)
  dsimp only
  simp only [Bool.false_eq_true, if_false]
  refine wpAny_bind (wpAny_bind (any_set hT1 ?_))
  show wpAny _ _ (Builtin.Frozenset.isAnySet (.ref b)) _ _ _
  refine any_set hT2 ?_
  refine wp_if_neg (by decide) ?_
  refine wpAny_bind (wpAny_pure ?_)
  have hu1 : A.in1.units + 9 < cLine := by show A.units + 1 + 9 < cLine; omega
  refine wpAny_bind ?_
  refine wpAny_bind (copy_at R1 hu1 (by omega) fun h1 d1 L' es' ep' t' k1 R' i1 i2 i3 => ?_)
  have hbS : b ≠ s.heap.objs.size := Nat.ne_of_lt (Heap.lt_size ho2)
  have R2' : SR T h1 b L2 e2 p2 t2 := R2.keep (fun o e => k1 _ o e) (stay_grow k1)
  have hT2' : Shared.TypeIs { s with heap := h1, drawn := d1 } (.ref b) "set" := ⟨o2, k1 _ _ ho2, hx2.1⟩
  refine wp_if_pos (by simp; exact fun z => hab z.symm) ?_
  refine wpAny_bind (wpAny_pure ?_)
  refine wpAny_bind (wpAny_holding ?_)
  unfold Builtin.Frozenset.updateFrom
  refine wpAny_bind (any_set hT2' ?_)
  simp only [if_true]
  refine wpAny_bind (wpAny_pure ?_)
  unfold Builtin.Frozenset.merge
  refine wpAny_bind (wpAny_setEpoch_of (s := { s with heap := h1, drawn := d1 }) (k1 _ _ ho2) hd2 R2'.fits ?_)
  refine merge_at (s := { s with heap := h1, drawn := d1 }) hbS R2' R' hu1 (by omega) (fun s' Q' hk q => ?_) fun h' d L es ep t sb R j1 j2 j3 j4 => ?_
  · unfold Builtin.Frozenset.unchanged
    refine wpAny_bind (wpAny_setEpoch_of (hk _ (k1 _ _ ho2)) hd2 R2'.fits ?_)
    refine wp_if_neg (by simp) ?_
    exact wpAny_pure q
  · refine wpAny_pure ?_
    refine wpAny_pure ⟨_, rfl, (fun z => by cases z), hQ h' d L es ep t (fun c o e => ?_) R (fun p hp => ?_) (fun p hp => ?_) j3 (by omega)⟩
    · exact same_old sb (Nat.ne_of_lt (Heap.lt_size e)) (k1 c o e)
    · rcases j1 p hp with z | z
      · exact .inl (i1 p z)
      · exact .inr z
    · obtain ⟨q, hq, e⟩ := List.mem_map.mp (i2 p hp)
      rw [← e]
      exact j2 q hq
end
end GS
/-! set(xs) of a list, of a tuple -/
namespace GS
open PySem PySem.Spec PyProof.Rows L2
/-- what the set has got from the first i items -/
structure Got {κ : Type} (ks : List (κ × Value)) (i : Nat) (L : List (κ × Value)) : Prop where
  sub : ∀ p ∈ L, p ∈ ks.take i
  all : ∀ p ∈ ks.take i, p.1 ∈ L.map (·.1)
  len : L.length ≤ i
section
variable {κ : Type}
theorem Got.zero (ks : List (κ × Value)) : Got ks 0 [] := ⟨fun p h => (by cases h), fun p h => (by simp at h), Nat.le_refl _⟩
theorem take_more {α : Type} {l : List α} {i : Nat} {x : α} (h : l[i]? = some x) : l.take (i + 1) = l.take i ++ [x] := by
  rw [List.take_succ, h]
  rfl
theorem Got.same {ks L : List (κ × Value)} {i : Nat} {x : κ × Value} (g : Got ks i L) (h : ks[i]? = some x) (hm : x.1 ∈ L.map (·.1)) : Got ks (i + 1) L := by
  constructor
  · intro p hp
    rw [take_more h]
    exact List.mem_append_left _ (g.sub p hp)
  · intro p hp
    rw [take_more h] at hp
    rcases List.mem_append.mp hp with z | z
    · exact g.all p z
    · exact List.mem_singleton.mp z ▸ hm
  · exact Nat.le_succ_of_le g.len
theorem Got.more {ks L L' : List (κ × Value)} {i : Nat} {x : κ × Value} (g : Got ks i L) (h : ks[i]? = some x) (pm : L'.Perm (x :: L)) : Got ks (i + 1) L' := by
  constructor
  · intro p hp
    rw [take_more h]
    rcases List.mem_cons.mp (pm.mem_iff.mp hp) with e | z
    · exact List.mem_append_right _ (e ▸ List.mem_singleton.mpr rfl)
    · exact List.mem_append_left _ (g.sub p z)
  · intro p hp
    rw [(pm.map (·.1)).mem_iff, List.map_cons]
    rw [take_more h] at hp
    rcases List.mem_append.mp hp with z | z
    · exact List.mem_cons_of_mem _ (g.all p z)
    · exact List.mem_singleton.mp z ▸ List.mem_cons_self
  · rw [pm.length_eq, List.length_cons]
    exact Nat.succ_le_succ g.len
end
section
variable {P : Program} {w : World} {κ : Type} [DecidableEq κ] {T : EK P w κ}
variable {A : Around} {E : Value → Shared → Prop} {s : Shared}
/-- the loop of set.update -/
theorem update_loop {I : Addr} {fp wr : List Addr} {G : Array GenState → Array GenState → Prop} {n : Nat} {Pv : Nat → Value → Prop} {St : Nat → Shared → Prop} {R : Result → Shared → Prop}
    (W : WalksS P w A.in1 I fp wr G n Pv St) (S : Addr) (hSf : S ∉ fp) (ks : List (κ × Value)) (hn : n = ks.length) (hfew : ks.length < 38) (hval : ∀ i v, Pv i v → ∃ k, ks[i]? = some (k, v))
    (h0 : Heap) (hk : ∀ p ∈ ks, T.is h0 p.1 p.2) (hS0 : h0.get? S = none) (hw0 : ∀ b ∈ wr, h0.get? b = none) (hu : A.in1.units + 9 < cLine) :
    ∀ (k i : Nat) (s : Shared), n - i = k → i ≤ n → St i s → (∀ b o, h0.get? b = some o → s.heap.get? b = some o) → (∃ L es ep t, SR T s.heap S L es ep t ∧ Got ks i L) →
      (∀ s' L es ep t, Moved (S :: wr) G s s' → SR T s'.heap S L es ep t → Got ks n L → (∀ b o, h0.get? b = some o → s'.heap.get? b = some o) → R (.ok (.ret .none)) s') →
      codeAny (model P w) A (.builtin "set.update.loop" ⟨[.ref S, .ref I], []⟩) R s := by
  have hSw : S ∉ wr := fun h => hSf (W.sub _ h)
  have hsub : ∀ b ∈ wr, b ∈ S :: wr := fun b hb => List.mem_cons_of_mem _ hb
  have keepM : ∀ {s s' : Shared}, Moved wr G s s' → (∀ b o, h0.get? b = some o → s.heap.get? b = some o) → ∀ b o, h0.get? b = some o → s'.heap.get? b = some o := fun hm hkp b o e =>
    hm.heap b o (fun hb => by rw [hw0 b hb] at e; cases e) (hkp b o e)
  -- S stays a set while others move: its elements stand in h0
  have keepS : ∀ {s s' : Shared} {i : Nat} {L es ep t}, Moved wr G s s' → (∀ b o, h0.get? b = some o → s'.heap.get? b = some o) → SR T s.heap S L es ep t → Got ks i L → SR T s'.heap S L es ep t := fun {s s' i L es ep t} hm hkp R0 g => by
    obtain ⟨o, ho, r⟩ := R0.ob
    exact ⟨⟨o, hm.heap S o hSw ho, r⟩, R0.rows, R0.tab, R0.nd, R0.led, R0.room, fun p hp => T.keep (hk p (List.mem_of_mem_take (g.sub p hp))) (stay_grow hkp)⟩
  intro k
  induction k with
  | zero =>
    intro i s hk' hi hst hkp ⟨L, es, ep, t, hS, g⟩ hR
    have hin : i = n := by omega
    subst hin
    refine codeAny_builtin F.entry_set_update_loop ?_
    rw [Around.under_plainId F.plain_set_update_loop _]
    show wpAny _ A.in1 (pyNext (.ref I) >>= _) _ _ s
    refine wpAny_bind (W.done s _ _ hst fun s' hm => ?_)
    show wpAny _ A.in1 (ret Value.none) _ _ s'
    have hkp' := keepM hm hkp
    exact wpAny_pure (hR s' L es ep t (hm.mono hsub) (keepS hm hkp' hS g) g hkp')
  | succ k ih =>
    intro i s hk' hi hst hkp ⟨L, es, ep, t, hS, g⟩ hR
    have hlt : i < n := by omega
    refine codeAny_builtin F.entry_set_update_loop ?_
    rw [Around.under_plainId F.plain_set_update_loop _]
    show wpAny _ A.in1 (pyNext (.ref I) >>= _) _ _ s
    refine wpAny_bind (W.item i s _ _ hlt hst fun v s' hP hst' hm => ?_)
    obtain ⟨key, hp⟩ := hval i v hP
    have hkp' := keepM hm hkp
    have hS' := keepS hm hkp' hS g
    have hx : T.is s'.heap key v := T.keep (hk (key, v) (List.mem_of_getElem? hp)) (stay_grow hkp')
    show wpAny _ A.in1 (holding [v] (setAdd S v) >>= _) _ _ s'
    refine wpAny_bind (wpAny_holding ?_)
    unfold setAdd
    refine wpAny_holding ?_
    refine wpAny_bind (T.hashR hu hx ?_)
    refine add_at (s := { s' with toks := s'.toks + T.draws key }) hS' hx hu (by have := g.len; omega) fun b h' L' es' ep' t' hsb hS2 c1 c2 => ?_
    have g' : Got ks (i + 1) L' := by
      by_cases c : key ∈ L.map (·.1)
      · rw [c1 c]
        exact g.same hp c
      · exact g.more hp (c2 c)
    have hkp2 : ∀ b o, h0.get? b = some o → h'.get? b = some o := fun b o e => (hsb.2 b (fun z => by rw [z, hS0] at e; cases e)).trans (hkp' b o e)
    refine wpAny_pure ⟨plainId_quiet F.plain_set_update_loop _, ih (i + 1) _ (by omega) hlt (W.frame _ s' _ _ hst' (Nat.le_add_right _ _) fun b hb o e => ?_) hkp2 ⟨L', es', ep', t', hS2, g'⟩ fun s'' L2 es2 ep2 t2 hm'' hS'' g'' hkp'' => ?_⟩
    · rw [hsb.2 b (fun h : b = S => hSf (h ▸ hb))]
      exact e
    · refine hR s'' L2 es2 ep2 t2 (Moved.trans W.gtrans ((hm.mono hsub).then_heap (Nat.le_add_right _ _) fun b o hb e => ?_) hm'') hS'' g'' hkp''
      rw [hsb.2 b (fun h : b = S => hb (h ▸ List.mem_cons_self))]
      exact e
/-- set(xs), xs a list (lst) or a tuple -/
theorem call_set {l : Addr} {items : Array Value} (lst : Bool) (ks : List (κ × Value)) {Q : Value → Shared → Prop} (hh : A.handled = none) (hl : if lst = true then s.heap.IsList l items else s.heap.IsTuple l items) (hit : items.toList = ks.map (·.2))
    (hk : ∀ p ∈ ks, T.is s.heap p.1 p.2) (hfew : ks.length < 38) (hu : A.units + 16 < cLine)
    (h : ∀ (h' : Heap) (tk : Nat) L es ep t, SR T h' s.heap.objs.size L es ep t → Got ks ks.length L → (∀ b o, s.heap.get? b = some o → h'.get? b = some o) → Q (.ref s.heap.objs.size) { s with heap := h', toks := tk }) :
    wpAny (model P w) A (call (.type "set") [.ref l]) Q E s := by
  have hisz : items.size = ks.length := by
    rw [← Array.length_toList, hit]
    exact List.length_map _
  obtain ⟨c, tl, hmro⟩ := F.called_set.mro
  have hmade := F.called_set.made
  have hsub := F.called_set.sub
  refine wpAny_call (codeAny_of_tree ?_)
  show wpAny _ _ (callAny (.type "set") _) _ _ _
  refine wpAny_pure ⟨Code.quiet_builtin _ (by decide +kernel), codeAny_builtin F.entry_type_call ?_⟩
  rw [Around.under_plain (weight_type_call_type "set" [.ref l] []) rfl]
  have h1 := F.called_set.notType
  have h2 := F.called_set.canCreate
  have hct := F.typeCall_set_1 (.ref l)
  repeat (any_goals (first | assumption | wp_step))
  refine codeAny_mono (code_set_led1 (.ref l) (E := E) (Q₁ := fun obj s₁ => obj = .ref s.heap.objs.size ∧ s₁ = { s with heap := s.heap.push (new0 w) }) ⟨rfl, rfl⟩) fun r s₁ hr => ?_
  cases r with
  | error e => exact hr
  | ok fl =>
    cases fl with
    | ret obj =>
      obtain ⟨rfl, rfl⟩ := hr
      have hS : (s.heap.push (new0 w)).get? s.heap.objs.size = some (new0 w) := Heap.get?_push_size _ rfl
      have hT : Shared.TypeIs { s with heap := s.heap.push (new0 w) } (.ref s.heap.objs.size) "set" := ⟨_, hS, rfl⟩
      have hli := F.called_set.init.lookup
      have hbi := F.called_set.init.bind (.ref s.heap.objs.size)
      repeat (any_goals (first | assumption | wp_step))
      refine codeAny_mono (codeAny_call_builtin (R := wants (fun r s₂ => r = .none ∧ ∃ h' tk L es ep t, s₂ = { s with heap := h', toks := tk } ∧ SR T h' s.heap.objs.size L es ep t ∧ Got ks ks.length L ∧
          (∀ b o, s.heap.get? b = some o → h'.get? b = some o)) E) F.called_set.init.plain F.entry_set_init (check_set_init_1 hT ?_)) fun r₂ s₂ hr₂ => ?_
      · have none_of : ∀ b, s.heap.objs.size ≤ b → s.heap.get? b = none := fun b hb => by
          cases q : s.heap.get? b with
          | none => rfl
          | some o => exact absurd (Nat.lt_of_lt_of_le (Heap.lt_size q) hb) (Nat.lt_irrefl _)
        have hval : ∀ (i : Nat) (v : Value), items[i]? = some v → ∃ k, ks[i]? = some (k, v) := fun i v hv => by
          have q : items.toList[i]? = some v := by rw [Array.getElem?_toList]; exact hv
          rw [hit, List.getElem?_map] at q
          cases hq : ks[i]? with
          | none => rw [hq] at q; cases q
          | some p => rw [hq] at q; cases q; exact ⟨p.1, rfl⟩
        have hh3 : A.in1.in1.in1.handled = none := by simp [hh]
        have hz1 : (s.heap.push (new0 w)).objs.size = s.heap.objs.size + 1 := Heap.size_push ..
        have stop : ∀ {s' : Shared} {L es ep t}, s'.gens = s.gens → s'.drawn = s.drawn → s'.os = s.os → SR T s'.heap s.heap.objs.size L es ep t → Got ks items.size L → (∀ b o, s.heap.get? b = some o → s'.heap.get? b = some o) →
            ∃ h' tk L es ep t, s' = { s with heap := h', toks := tk } ∧ SR T h' s.heap.objs.size L es ep t ∧ Got ks ks.length L ∧ (∀ b o, s.heap.get? b = some o → h'.get? b = some o) := fun {s' L es ep t} eg ed eo hS' g' hkp => by
          obtain ⟨h', g2, d', tk', os'⟩ := s'
          dsimp only at eg ed eo
          subst eg; subst ed; subst eo
          exact ⟨h', tk', L, es, ep, t, rfl, hS', hisz ▸ g', hkp⟩
        cases lst with
        | true =>
          rw [if_pos rfl] at hl
          obtain ⟨ol, hol, hcl, nl, hdl⟩ := hl
          obtain ⟨ocls, odict, odata, oslots⟩ := ol
          simp only at hcl hdl
          subst hcl; subst hdl
          have hol' : (s.heap.push (new0 w)).get? l = some { cls := .type "list", dict := odict, data := .seq items nl, slots := oslots } := Heap.get?_push_of_some _ hol
          have hsls := F.sub_list_set
          have hslf := F.sub_list_frozenset
          have hne : (Value.type "list" == Value.type "dict") = false := by decide
          have hl1 : (s.heap.push (new0 w)).IsList l items := ⟨_, hol', rfl, nl, rfl⟩
          unfold Builtin.«set.__init__» noKeywords Builtin.Frozenset.updateFrom
          generalize hPI : pyIter = PI
          wp_walk
          subst hPI
          refine wpAny_pyIter_list hl1 ?_
          refine wpAny_bind (wpAny_runValue ?_)
          have hlS : l < s.heap.objs.size := Heap.lt_size hol
          have hneI : l ≠ (s.heap.push (new0 w)).objs.size := by
            rw [hz1]
            exact Nat.ne_of_lt (Nat.lt_succ_of_lt hlS)
          have hSf : s.heap.objs.size ∉ [(s.heap.push (new0 w)).objs.size, l] := by
            rw [hz1]
            simp only [List.mem_cons, List.not_mem_nil, or_false, not_or]
            exact ⟨Nat.ne_of_lt (Nat.lt_succ_self _), Nat.ne_of_gt hlS⟩
          refine update_loop ((Walks.list hh3 _ l hneI items).toS) s.heap.objs.size hSf ks hisz hfew hval s.heap hk (none_of _ (Nat.le_refl _)) (fun b hb => none_of b (by rw [List.mem_singleton.mp hb, hz1]; exact Nat.le_succ _)) (by show A.units + 1 + 1 + 1 + 9 < cLine; omega) (items.size - 0) 0 _ (by omega) (Nat.zero_le _)
            ⟨⟨_, Heap.get?_push_size _ rfl, rfl, rfl⟩, (hl1.push _)⟩ (fun b o e => Heap.get?_push_of_some _ (Heap.get?_push_of_some _ e)) ⟨[], #[], 0, _, sr_fresh (Heap.get?_push_of_some _ hS), Got.zero ks⟩ fun s' L es ep t hm hS' g' hkp => ?_
          refine wpAny_pure ?_
          show wpAny _ _ (ret Value.none) _ _ _
          exact wpAny_pure ⟨rfl, stop hm.gens hm.drawn hm.os hS' g' hkp⟩
        | false =>
          rw [if_neg Bool.false_ne_true] at hl
          obtain ⟨ol, hol, hcl, nl, hdl⟩ := hl
          obtain ⟨ocls, odict, odata, oslots⟩ := ol
          simp only at hcl hdl
          subst hcl; subst hdl
          have hol' : (s.heap.push (new0 w)).get? l = some { cls := .type "tuple", dict := odict, data := .seq items nl, slots := oslots } := Heap.get?_push_of_some _ hol
          have hsls := F.sub_tuple_set
          have hslf := F.sub_tuple_frozenset
          have hne : (Value.type "tuple" == Value.type "dict") = false := by decide
          have hl1 : (s.heap.push (new0 w)).IsTuple l items := ⟨_, hol', rfl, nl, rfl⟩
          unfold Builtin.«set.__init__» noKeywords Builtin.Frozenset.updateFrom
          generalize hPI : pyIter = PI
          wp_walk
          subst hPI
          refine wpAny_pyIter_tuple hl1 ?_
          refine wpAny_bind (wpAny_runValue ?_)
          have hlS : l < s.heap.objs.size := Heap.lt_size hol
          have hneI : l ≠ (s.heap.push (new0 w)).objs.size := by
            rw [hz1]
            exact Nat.ne_of_lt (Nat.lt_succ_of_lt hlS)
          have hSf : s.heap.objs.size ∉ [(s.heap.push (new0 w)).objs.size, l] := by
            rw [hz1]
            simp only [List.mem_cons, List.not_mem_nil, or_false, not_or]
            exact ⟨Nat.ne_of_lt (Nat.lt_succ_self _), Nat.ne_of_gt hlS⟩
          refine update_loop ((Walks.tuple hh3 _ l hneI items).toS) s.heap.objs.size hSf ks hisz hfew hval s.heap hk (none_of _ (Nat.le_refl _)) (fun b hb => none_of b (by rw [List.mem_singleton.mp hb, hz1]; exact Nat.le_succ _)) (by show A.units + 1 + 1 + 1 + 9 < cLine; omega) (items.size - 0) 0 _ (by omega) (Nat.zero_le _)
            ⟨⟨_, Heap.get?_push_size _ rfl, rfl, rfl⟩, (hl1.push _)⟩ (fun b o e => Heap.get?_push_of_some _ (Heap.get?_push_of_some _ e)) ⟨[], #[], 0, _, sr_fresh (Heap.get?_push_of_some _ hS), Got.zero ks⟩ fun s' L es ep t hm hS' g' hkp => ?_
          refine wpAny_pure ?_
          show wpAny _ _ (ret Value.none) _ _ _
          exact wpAny_pure ⟨rfl, stop hm.gens hm.drawn hm.os hS' g' hkp⟩
      · cases r₂ with
        | error e => exact hr₂
        | ok fl₂ =>
          cases fl₂ with
          | ret r =>
            obtain ⟨rfl, h', tk, L, es, ep, t, rfl, hS', g', hk'⟩ := hr₂
            repeat (any_goals (first | assumption | wp_step))
            exact h _ _ _ _ _ _ hS' g' hk'
          | _ => exact hr₂.elim
    | _ => exact hr.elim
end
end GS
/-! the kinds: nested tuples, ints and texts; the object; set(xs), s | t, sorted(s), len(s) -/
namespace GS
open PySem PySem.Spec PyProof.Rows L2 GX
section
variable {P : Program} {w : World}
theorem byV_nested {A : Around} {E : Value → Shared → Prop} {s : Shared} {Q : Bool → Shared → Prop} : ∀ (n : Nat) (k : NestedKey) (v : Value), NestedIs s.heap k v → (∀ b, Q b s) → wpAny (model P w) A (hashByValue n v) Q E s := by
  intro n
  induction n generalizing Q with
  | zero =>
    intro k v x h
    cases x with
    | tup h1 h2 h3 h4 => exact wpAny_pure (h _)
    | none => exact wpAny_pure (h _)
    | bool e => exact wpAny_pure (h _)
    | int i t => exact wpAny_pure (h _)
    | text y t => exact wpAny_pure (h _)
  | succ n ih =>
    intro k v x h
    cases x with
    | none => exact wpAny_pure (h _)
    | bool e => exact wpAny_pure (h _)
    | int i t => exact wpAny_pure (h _)
    | text y t => exact wpAny_pure (h _)
    | @tup a o vs m ks ho hc hd hk =>
      have hT : s.TypeIs (.ref a) "tuple" := ⟨o, ho, hc⟩
      have each : ∀ (ks : List NestedKey) (vs : List Value), NestedAll s.heap ks vs → ∀ v ∈ vs, ∃ k, NestedIs s.heap k v := fun ks => by
        induction ks with
        | nil => intro vs x v hv; cases x; cases hv
        | cons k ks ih2 =>
          intro vs x v hv
          cases x with
          | cons x1 x2 =>
            rcases List.mem_cons.mp hv with e | hv
            · exact ⟨k, e ▸ x1⟩
            · exact ih2 _ x2 v hv
      unfold hashByValue
      refine wpAny_bind (wpAny_specialOf hT F.slot_tuple_hash.lookup ?_)
      show wpAny _ _ (seqItems? (.ref a) >>= _) _ _ s
      refine wpAny_bind (wpAny_seqItems ho hd ?_)
      refine wpAny_bind ?_
      show wpAny _ _ (forIn vs _ _) _ _ s
      rw [← Array.forIn_toList]
      refine wpAny_forIn_list _ (fun rest r s' => r.1 = none ∧ s' = s ∧ ∀ v ∈ rest, ∃ k, NestedIs s.heap k v) _ ?_ ?_ _ _ ⟨rfl, rfl, each ks _ hk⟩
      · rintro v rest r s' ⟨hr, rfl, hall⟩
        obtain ⟨k, hk⟩ := hall v List.mem_cons_self
        refine wpAny_bind (ih k v hk fun b => ?_)
        cases b with
        | true =>
          refine wp_if_neg (by decide) ?_
          try refine wpAny_bind (wpAny_pure ?_)
          exact wpAny_pure ⟨rfl, rfl, fun u hu' => hall u (List.mem_cons_of_mem _ hu')⟩
        | false =>
          refine wp_if_pos (by decide) ?_
          exact wpAny_pure (wpAny_pure (h false))
      · rintro ⟨r1, r2⟩ s' ⟨hr, rfl, _⟩
        simp only at hr
        subst hr
        exact wpAny_pure (h true)
theorem ofCls_nested {A : Around} {E : Value → Shared → Prop} {s : Shared} {Q : Bool → Shared → Prop} : ∀ (n : Nat) (k : NestedKey) (v : Value), NestedIs s.heap k v → k.depth ≤ n → Q false s → wpAny (model P w) A (ofAClassStatement n v) Q E s := by
  intro n
  induction n generalizing Q with
  | zero =>
    intro k v x hn h
    cases x with
    | tup h1 h2 h3 h4 => simp [NestedKey.depth] at hn
    | none => exact wpAny_pure h
    | bool e => exact wpAny_pure h
    | int i t => exact wpAny_pure h
    | text y t => exact wpAny_pure h
  | succ n ih =>
    intro k v x hn h
    cases x with
    | none => exact wpAny_pure h
    | bool e => exact wpAny_pure h
    | int i t => exact wpAny_pure h
    | text y t => exact wpAny_pure h
    | @tup a o vs m ks ho hc hd hk =>
      have hT : s.TypeIs (.ref a) "tuple" := ⟨o, ho, hc⟩
      have hn' : NestedKey.depthAll ks ≤ n := by
        rw [NestedKey.depth] at hn
        omega
      have each : ∀ (ks : List NestedKey) (vs : List Value), NestedAll s.heap ks vs → NestedKey.depthAll ks ≤ n → ∀ v ∈ vs, ∃ k, NestedIs s.heap k v ∧ k.depth ≤ n := fun ks => by
        induction ks with
        | nil => intro vs x _ v hv; cases x; cases hv
        | cons k ks ih2 =>
          intro vs x hd v hv
          rw [NestedKey.depthAll] at hd
          cases x with
          | cons x1 x2 =>
            rcases List.mem_cons.mp hv with e | hv
            · exact ⟨k, e ▸ x1, by omega⟩
            · exact ih2 _ x2 (by omega) v hv
      unfold ofAClassStatement
      refine wpAny_bind (wpAny_typeOf hT ?_)
      dsimp only
      have e : (("tuple" : String) == "tuple") = true := by decide
      simp only [e, if_true, Bool.not_true, Bool.false_eq_true, if_false]
      try refine wpAny_bind (wpAny_pure ?_)
      try simp only [Bool.not_true, Bool.false_eq_true, if_false]
      show wpAny _ _ (seqItems? (.ref a) >>= _) _ _ s
      refine wpAny_bind (wpAny_seqItems ho hd ?_)
      dsimp only
      refine wpAny_bind ?_
      show wpAny _ _ (forIn vs _ _) _ _ s
      rw [← Array.forIn_toList]
      refine wpAny_forIn_list _ (fun rest r s' => r.1 = none ∧ s' = s ∧ ∀ v ∈ rest, ∃ k, NestedIs s.heap k v ∧ k.depth ≤ n) _ ?_ ?_ _ _ ⟨rfl, rfl, each ks _ hk hn'⟩
      · rintro v rest r s' ⟨hr, rfl, hall⟩
        obtain ⟨k, hk, hkn⟩ := hall v List.mem_cons_self
        refine wpAny_bind (ih k v hk hkn ?_)
        refine wp_if_neg (by decide) ?_
        try refine wpAny_bind (wpAny_pure ?_)
        exact wpAny_pure ⟨rfl, rfl, fun u hu' => hall u (List.mem_cons_of_mem _ hu')⟩
      · rintro ⟨r1, r2⟩ s' ⟨hr, rfl, _⟩
        simp only at hr
        subst hr
        exact wpAny_pure h
def KeyIs (h : Heap) (k : NestedKey) (v : Value) : Prop := (∃ a, v = .ref a) ∧ NestedIs h k v ∧ k.depth ≤ 8
theorem seen_nested {A : Around} {E : Value → Shared → Prop} {s : Shared} {k : NestedKey} {v : Value} {ys : List Value} {Q : Bool → Shared → Prop} (hx : KeyIs s.heap k v) (hy : ∀ y ∈ ys, ∃ k', KeyIs s.heap k' y) (h : Q false s) :
    wpAny (model P w) A (searchCouldBeSeen v ys) Q E s := by
  obtain ⟨⟨b, rfl⟩, hk, hd⟩ := hx
  unfold searchCouldBeSeen
  refine wpAny_bind ?_
  refine wpAny_forIn_list _ (fun rest r s' => r.1 = none ∧ s' = s ∧ ∀ y ∈ rest, ∃ k', KeyIs s.heap k' y) _ ?_ ?_ _ _ ⟨rfl, rfl, hy⟩
  · rintro v rest r s' ⟨hr, rfl, hall⟩
    obtain ⟨k', ⟨c, rfl⟩, hc, hcd⟩ := hall v List.mem_cons_self
    have rest' : ∀ y ∈ rest, ∃ k', KeyIs s'.heap k' y := fun u hu' => hall u (List.mem_cons_of_mem _ hu')
    dsimp only
    by_cases hv : (b == c || (carriedByValue (.ref b) && carriedByValue (.ref c))) = true
    · refine wp_if_pos hv ?_
      exact wpAny_pure ⟨rfl, rfl, rest'⟩
    · refine wp_if_neg hv ?_
      refine wpAny_bind (quiet_key k _ 8 s' hk hd _ _ _ ?_)
      simp only [Bool.not_true, Bool.false_eq_true, if_false]
      refine wpAny_bind (quiet_key k' _ 8 s' hc hcd _ _ _ ?_)
      simp only [Bool.not_true, Bool.false_eq_true, if_false]
      refine wpAny_bind (ofCls_nested 8 k _ hk hd ?_)
      simp only [Bool.false_eq_true, if_false]
      refine wpAny_bind (ofCls_nested 8 k' _ hc hcd ?_)
      simp only [Bool.false_eq_true, if_false]
      exact wpAny_pure ⟨rfl, rfl, rest'⟩
  · rintro ⟨r1, r2⟩ s' ⟨hr, rfl, _⟩
    simp only at hr
    subst hr
    exact wpAny_pure h
theorem tupTypeIs {s : Shared} {k : NestedKey} {b : Addr} (h : NestedIs s.heap k (.ref b)) : s.TypeIs (.ref b) "tuple" := by
  cases h with
  | tup h1 h2 h3 h4 => exact ⟨_, h1, h2⟩
/-- elements that are nested tuples -/
def ekN (P : Program) (w : World) : EK P w NestedKey where
  is := KeyIs
  hash := fun k => k.hash w
  draws := fun k => k.draws
  sc := false
  isSc := fun h => by
    obtain ⟨⟨a, rfl⟩, _⟩ := h
    rfl
  inj := fun hx hy => NestedIs.inj _ _ _ hx.2.1 hy.2.1
  keep := fun h st => ⟨h.1, NestedIs.at st _ _ h.2.1, h.2.2⟩
  hashR := fun {A E s k v Q} hu hk h => pyHash_key _ _ _ _ _ hk.2.1 (by have := hk.2.2; omega) h
  byV := fun hk h => byV_nested 8 _ _ hk.2.1 h
  eqR := fun _ {A E s x y u v Q} hu hx hy h => eqAt_key x y A s _ _ hx.2.1 hy.2.1 (by have := hx.2.2; omega) _ _ _ _ (by rw [← NestedKey.decide_eq]; exact h)
  sameR := fun {A E s x u Q} _ hx h => by
    obtain ⟨⟨a, rfl⟩, _⟩ := hx
    exact wpAny_isSame_ref_self h
  seenR := fun _ {A E s k v ys Q} hx hy h => seen_nested hx hy h
  spR := fun {A E s k b Q} hk h => wpAny_specialOf (tupTypeIs hk.2.1) F.slot_tuple_eq.lookup (h _)
  scanR := fun z => by cases z
/-- elements by value (ints, texts) -/
def ekV {κ : Type} [DecidableEq κ] (knd : KeyKind P w κ) : EK P w κ where
  is := fun _ k v => knd.is k v = true ∧ v.scannable = true
  hash := knd.hash
  draws := fun _ => 1
  sc := true
  isSc := fun h => h.2
  inj := fun hx hy => knd.inj _ _ _ hx.1 hy.1
  keep := fun h _ => h
  hashR := fun _ hk h => knd.pyHash hk.1 h
  byV := fun {A E s k v Q} hk h => by
    rw [hashByValue_scannable 8 hk.2]
    exact wpAny_pure (h _)
  eqR := fun z => by cases z
  sameR := fun z => by cases z
  seenR := fun z => by cases z
  spR := fun {A E s k b Q} hk h => by
    have := hk.2
    cases this
  scanR := fun _ {A E s a o es ep t x k adding Q} hk ho hd hf hbel q1 q2 => by
    have hel : ElemsOf knd es.toList := fun e he => by
      obtain ⟨k', hk', hh⟩ := hbel e he
      exact ⟨⟨k', hk'.1, hh⟩, hk'.2⟩
    refine wpAny_setScan_of hk.1 ho hd hf hel ?_
    cases hr : es.toList.findIdx? (fun e => knd.is k e.2) with
    | none =>
      refine q2 fun e he hi => ?_
      have := List.findIdx?_eq_none_iff.mp hr e he
      rw [hi.1] at this
      cases this
    | some j =>
      obtain ⟨hj, hpj, _⟩ := List.findIdx?_eq_some_iff_getElem.mp hr
      exact q1 ⟨es.toList[j], List.getElem_mem hj, hpj, (hel _ (List.getElem_mem hj)).2⟩ _
end
end GS
/-! the rules: set(xs), s | t, sorted(s) -/
namespace GS
open PySem PySem.Spec PyProof.Rows L2 GX
/-- a type of elements -/
structure ET (P : Program) (w : World) (κ : Type) where
  τ : Type
  dec : DecidableEq τ
  ek : @EK P w τ dec
  key : κ → τ
  enc : κ → PyData
  inj : ∀ {a b : κ}, key a = key b → a = b
  isOf : ∀ {X : Cx} {pins : List (Addr × Obj)} {σ : L2.St} {H : Hp} {s : Shared} {k : κ} {v : V} {u : Value}, X.prog = P → X.w = w → Inv X pins σ H s → Dp X.K H v (enc k) → RelV v u → ek.is s.heap (key k) u
  dp : ∀ k, (enc k).depth ≤ 8
/-- nested tuples -/
def etN {κ : Type} [DecidableEq κ] (T : KT κ) (tup : ∀ k, ∃ ds, T.enc k = .tuple ds) (P : Program) (w : World) : ET P w κ where
  τ := NestedKey
  dec := inferInstance
  ek := ekN P w
  key := fun k => keyN (T.enc k)
  enc := T.enc
  inj := fun h => KT.eqN.mp h
  isOf := fun {X pins σ H s k v u} e1 e2 I hd r => by
    refine ⟨?_, dp_nested I _ _ _ hd (T.kd k) r, by rw [keyN_depth _ (T.kd k)]; exact T.dp k⟩
    obtain ⟨ds, e⟩ := tup k
    rw [e] at hd
    cases hd with
    | tup hs ha => cases r; exact ⟨_, rfl⟩
  dp := T.dp
/-- whole numbers -/
def etI (P : Program) (w : World) : ET P w Int where
  τ := Int
  dec := inferInstance
  ek := ekV (intKind P w)
  key := id
  enc := .int
  inj := fun h => h
  isOf := fun {X pins σ H s k v u} e1 e2 I hd r => by
    cases hd
    obtain ⟨t, rfl⟩ := r
    exact ⟨intKind_is P w k t, rfl⟩
  dp := fun k => by rw [PyData.depth]; exact Nat.zero_le _
section
variable {P : Program} {w : World} {κ : Type} (T : ET P w κ)
instance : DecidableEq T.τ := T.dec
structure S0 (h : Heap) (a : Addr) (L : List (T.τ × Value)) (es : Array (Int × Value)) (ep : Nat) (t : SetTable) : Prop where
  ob : ∃ o, h.get? a = some o ∧ o.ExactSet ∧ o.data = .set es ep t
  rows : es.toList = rowsOf T.ek L
  tab : Tb t (L.map fun p => T.ek.hash p.1)
  nd : (L.map (·.1)).Nodup
  led : w.params.followText "set-order" = true ∨ t.led = true
  room : L.length * 5 < t.mask * 3
/-- what the abstract entries say of the rows -/
structure Rw (es : List (κ × V)) (L : List (T.τ × Value)) : Prop where
  keys : L.map (·.1) = es.map fun e => T.key e.1
  vals : Vals (es.map (·.2)) (L.map (·.2))
def SetAt0 (h : Heap) (a : Addr) (es : List (κ × V)) : Prop := ∃ L e ep t, Rw T es L ∧ S0 T h a L e ep t
/-- the object: a set with the entries es (key, value), in some order -/
def SO (a : Addr) (es : List (κ × V)) : HO := .ext fun h => SetAt0 T h a es
def ElsAt (K : PySem.W.Frag) (H : Hp) (es : List (κ × V)) : Prop := ∀ e ∈ es, Dp K H e.2 (T.enc e.1)
variable {T}
theorem Rw.len {es : List (κ × V)} {L : List (T.τ × Value)} (r : Rw T es L) : L.length = es.length := by
  have := congrArg List.length r.keys
  rw [List.length_map, List.length_map] at this
  exact this
theorem rw_cons {e : κ × V} {es : List (κ × V)} {p : T.τ × Value} {L : List (T.τ × Value)} (h1 : T.key e.1 = p.1) (h2 : RelV e.2 p.2) (r : Rw T es L) : Rw T (e :: es) (p :: L) :=
  ⟨by rw [List.map_cons, List.map_cons, r.keys, h1], .cons h2 r.vals⟩
theorem rw_mem {es : List (κ × V)} : ∀ {L : List (T.τ × Value)}, Rw T es L → ∀ p ∈ L, ∃ e ∈ es, T.key e.1 = p.1 ∧ RelV e.2 p.2 := by
  induction es with
  | nil =>
    intro L r p hp
    have := r.len
    rw [List.eq_nil_of_length_eq_zero this] at hp
    cases hp
  | cons e es ih =>
    intro L r p hp
    cases L with
    | nil => cases hp
    | cons q L =>
      have k := r.keys
      rw [List.map_cons, List.map_cons] at k
      have v := r.vals
      rw [List.map_cons, List.map_cons] at v
      cases v with
      | cons v1 v2 =>
        rcases List.mem_cons.mp hp with z | z
        · exact ⟨e, List.mem_cons_self, z ▸ (List.cons.inj k).1.symm, z ▸ v1⟩
        · obtain ⟨e', he', r'⟩ := ih ⟨(List.cons.inj k).2, v2⟩ p z
          exact ⟨e', List.mem_cons_of_mem _ he', r'⟩
/-- rows out of given ones have entries out of the given ones -/
theorem rw_lift {G : List (κ × V)} : ∀ (L : List (T.τ × Value)), (∀ p ∈ L, ∃ e ∈ G, T.key e.1 = p.1 ∧ RelV e.2 p.2) → ∃ es, Rw T es L ∧ ∀ e ∈ es, e ∈ G
  | [], _ => ⟨[], ⟨rfl, .nil⟩, fun e he => by cases he⟩
  | p :: L, h => by
    obtain ⟨es, r, hs⟩ := rw_lift L fun q hq => h q (List.mem_cons_of_mem _ hq)
    obtain ⟨e, he, h1, h2⟩ := h p List.mem_cons_self
    exact ⟨e :: es, rw_cons h1 h2 r, fun x hx => by
      rcases List.mem_cons.mp hx with z | z
      · exact z ▸ he
      · exact hs x z⟩
theorem rw_nodup {es : List (κ × V)} {L : List (T.τ × Value)} (r : Rw T es L) (n : (L.map (·.1)).Nodup) : (es.map (·.1)).Nodup := by
  rw [r.keys] at n
  refine List.pairwise_map.mpr (List.Pairwise.imp (fun h e => h (congrArg T.key e)) (List.pairwise_map.mp n))
/-- the rows of a list of entries with their values -/
def rowsAt (G : List (κ × V)) (us : List Value) : List (T.τ × Value) := (G.zip us).map fun p => (T.key p.1.1, p.2)
theorem rowsAt_rw : ∀ {G : List (κ × V)} {us : List Value}, Vals (G.map (·.2)) us → Rw T G (rowsAt (T := T) G us) ∧ (rowsAt (T := T) G us).map (·.2) = us
  | [], _, .nil => ⟨⟨rfl, .nil⟩, rfl⟩
  | e :: G, _, .cons r t => by
    obtain ⟨h1, h2⟩ := rowsAt_rw t
    exact ⟨rw_cons rfl r h1, congrArg (List.cons _) h2⟩
theorem perm_inv {α β : Type} {f : α → β} {l m : List β} (h : l.Perm m) : ∀ L : List α, m = L.map f → ∃ M : List α, M.Perm L ∧ l = M.map f := by
  induction h with
  | nil => intro L e; exact ⟨L, List.Perm.refl _, e⟩
  | cons x _ ih =>
    intro L e
    cases L with
    | nil => cases e
    | cons y L =>
      obtain ⟨e1, e2⟩ := List.cons.inj e
      obtain ⟨L2, p, q⟩ := ih L e2
      exact ⟨y :: L2, p.cons y, by rw [List.map_cons, ← e1, q]⟩
  | swap x y l =>
    intro L e
    match L, e with
    | y' :: x' :: L, e =>
      obtain ⟨e1, e2⟩ := List.cons.inj e
      obtain ⟨e2, e3⟩ := List.cons.inj e2
      exact ⟨x' :: y' :: L, List.Perm.swap _ _ _, by rw [List.map_cons, List.map_cons, ← e1, ← e2, e3]⟩
  | trans _ _ ih1 ih2 =>
    intro L e
    obtain ⟨L2, p, q⟩ := ih2 L e
    obtain ⟨L3, p3, q3⟩ := ih1 L2 q
    exact ⟨L3, p3.trans p, q3⟩
theorem SR.s0 {h : Heap} {a : Addr} {L : List (T.τ × Value)} {e : Array (Int × Value)} {ep : Nat} {t : SetTable} (R : SR T.ek h a L e ep t) : S0 T h a L e ep t := ⟨R.ob, R.rows, R.tab, R.nd, R.led, R.room⟩
theorem so_new {H : Hp} {h : Heap} {a : Addr} {es : List (κ × V)} {L : List (T.τ × Value)} {e : Array (Int × Value)} {ep : Nat} {t : SetTable} (r : Rw T es L) (R : SR T.ek h a L e ep t) : ObjOk P w H h a (SO T a es) := by
  obtain ⟨o, ho, _⟩ := R.ob
  refine ⟨⟨L, e, ep, t, r, R.s0⟩, ⟨o, ho⟩, fun h1 h2 p k => ?_⟩
  obtain ⟨L', e', ep', t', r', R'⟩ := p
  obtain ⟨o', ho', q⟩ := R'.ob
  exact ⟨L', e', ep', t', r', ⟨o', k o' ho', q⟩, R'.rows, R'.tab, R'.nd, R'.led, R'.room⟩
end
section
variable {X : Cx} {κ : Type} {T : ET X.prog X.w κ} {pins : List (Addr × Obj)} {σ : L2.St} {H : Hp} {s : Shared}
theorem sr_of {a : Addr} {es : List (κ × V)} (I : Inv X pins σ H s) (ha : H a = some (SO T a es)) (hk : ElsAt T X.K H es) : ∃ L e ep t, Rw T es L ∧ SR T.ek s.heap a L e ep t := by
  obtain ⟨L, e, ep, t, r, R⟩ := (I.hok a _ ha).1
  refine ⟨L, e, ep, t, r, R.ob, R.rows, R.tab, R.nd, R.led, R.room, fun p hp => ?_⟩
  obtain ⟨x, hx, h1, h2⟩ := rw_mem r p hp
  rw [← h1]
  exact T.isOf rfl rfl I (hk x hx) h2
theorem same_put {H : Hp} {a : Addr} {o : HO} (e : H a = none) : Same H (upd H a o) := fun b o' e' => by
  rw [upd_ne (ne_of_none e' e)]
  exact e'
/-- what comes out: a set p of the entries es, which are some of G, each key of G among them -/
def Out (κ : Type) (G es : List (κ × V)) : Prop := (es.map (·.1)).Nodup ∧ (∀ e ∈ es, e ∈ G) ∧ ∀ e ∈ G, e.1 ∈ es.map (·.1)
theorem out_of {G es : List (κ × V)} {L : List (T.τ × Value)} (r : Rw T es L) (n : (L.map (·.1)).Nodup) (hs : ∀ e ∈ es, e ∈ G) (ha : ∀ e ∈ G, T.key e.1 ∈ L.map (·.1)) : Out κ G es := by
  refine ⟨rw_nodup r n, hs, fun e he => ?_⟩
  have z := ha e he
  rw [r.keys] at z
  obtain ⟨e', he', ee⟩ := List.mem_map.mp z
  exact List.mem_map.mpr ⟨e', he', T.inj ee⟩
/-- set(xs), xs a list or a tuple -/
def rSet (T : ET X.prog X.w κ) : List V → Hp → VK → Prop := fun xs H Q => ∃ (l : Addr) (G : List (κ × V)), xs = [.ref l] ∧ (SqL X.K H l (G.map (·.2)) ∨ SqT X.K H l (G.map (·.2))) ∧ ElsAt T X.K H G ∧ G.length < 38 ∧
  ∀ p es H', Same H H' → H p = none → H' p = some (SO T p es) → Out κ G es → Q (.ref p) H'
theorem cr_set (hc : X.calm = true) (hu : X.A.units + 64 < cLine) : CallR X (.type "set") (rSet T) := by
  intro pins s σ H xs us Q I r h
  obtain ⟨l, G, rfl, hl, hk, hf, q⟩ := h
  rw [Vals.ref1 r]
  have hn : H s.heap.objs.size = none := I.hok.fresh (Nat.le_refl _)
  have main : ∀ (lst : Bool) (its : List Value), Vals (G.map (·.2)) its → (if lst = true then s.heap.IsList l its.toArray else s.heap.IsTuple l its.toArray) → wpAny (model X.prog X.w) X.A (call (.type "set") [.ref l]) (EP X pins σ Q) X.xe s := fun lst its rv hh => by
    obtain ⟨r1, r2⟩ := rowsAt_rw (T := T) rv
    refine call_set (T := T.ek) lst (rowsAt G its) (I.ok.hd hc) hh (by rw [r2]) (fun p hp => ?_) (by rw [r1.len]; exact hf) (by omega) fun h' tk L es ep t R g k => ?_
    · obtain ⟨x, hx, h1, h2⟩ := rw_mem r1 p hp
      rw [← h1]
      exact T.isOf rfl rfl I (hk x hx) h2
    · obtain ⟨e2, w2, m2⟩ := rw_lift (G := G) L fun p hp => rw_mem r1 p (List.mem_of_mem_take (g.sub p hp))
      refine ⟨.ref s.heap.objs.size, upd H s.heap.objs.size (SO T s.heap.objs.size e2), I.laid (t' := tk) k (Nat.le_refl _) (so_new w2 R), rfl, q _ e2 _ (same_put hn) hn upd_same (out_of w2 R.nd m2 fun e he => ?_)⟩
      have : T.key e.1 ∈ (rowsAt (T := T) G its).map (·.1) := by
        rw [r1.keys]
        exact List.mem_map.mpr ⟨e, he, rfl⟩
      obtain ⟨p, hp, ee⟩ := List.mem_map.mp this
      rw [← ee]
      exact g.all p (by rw [List.take_length]; exact hp)
  rcases hl with hl | hl
  · obtain ⟨its, rv, pl, hz⟩ := I.list hl
    exact main true its rv pl.isList
  · obtain ⟨its, rv, pl, _⟩ := I.tuple hl
    exact main false its rv pl
end
end GS
/-! the rules: s | t, sorted(s) -/
namespace GS
open PySem PySem.Spec PyProof.Rows L2 GX
section
variable {X : Cx} {κ : Type} {T : ET X.prog X.w κ}
/-- s | t -/
def rOr (T : ET X.prog X.w κ) : R2 := fun x y H Q => ∃ (a b : Addr) (F G : List (κ × V)), x = .ref a ∧ y = .ref b ∧ a ≠ b ∧ H a = some (SO T a F) ∧ H b = some (SO T b G) ∧ ElsAt T X.K H F ∧ ElsAt T X.K H G ∧ F.length + G.length < 38 ∧
  ∀ p es H', Same H H' → H p = none → H' p = some (SO T p es) → Out κ (F ++ G) es → Q (.ref p) H'
theorem op_or (hu : X.A.units + 64 < cLine) : OpR X (binaryOp .BitOr) (rOr T) := by
  intro pins s σ H x y v u Q I rx ry h
  obtain ⟨a, b, F, G, rfl, rfl, hab, ha, hb, hF, hG, hl, q⟩ := h
  cases rx
  cases ry
  obtain ⟨L1, e1, p1, t1, r1, R1⟩ := sr_of I ha hF
  obtain ⟨L2, e2, p2, t2, r2, R2⟩ := sr_of I hb hG
  have hn : H s.heap.objs.size = none := I.hok.fresh (Nat.le_refl _)
  refine or_at hab R1 R2 (by omega) (by rw [r1.len, r2.len]; exact hl) fun h' d L es ep t k R j1 j2 j3 _ => ?_
  obtain ⟨e3, w3, m3⟩ := rw_lift (G := F ++ G) L fun p hp => by
    rcases j1 p hp with z | z
    · obtain ⟨e, he, q⟩ := rw_mem r1 p z
      exact ⟨e, List.mem_append_left _ he, q⟩
    · obtain ⟨e, he, q⟩ := rw_mem r2 p z
      exact ⟨e, List.mem_append_right _ he, q⟩
  have J : Inv X pins σ (upd H s.heap.objs.size (SO T s.heap.objs.size e3)) { s with heap := h', drawn := d } :=
    I.call' (s' := { s with heap := h', drawn := d }) (ch := []) rfl (Un.laid k (Nat.le_refl _) hn) (I.hok.laid k (Nat.le_refl _) (so_new w3 R)) I.bare (fun _ z => nomatch z)
  refine ⟨.ref s.heap.objs.size, _, J, rfl, q _ e3 _ (same_put hn) hn upd_same (out_of w3 R.nd m3 fun e he => ?_)⟩
  have key : ∀ {M : List (κ × V)} {L : List (T.τ × Value)}, Rw T M L → e ∈ M → ∃ p ∈ L, p.1 = T.key e.1 := fun {M L} r he => by
    have : T.key e.1 ∈ L.map (·.1) := by
      rw [r.keys]
      exact List.mem_map.mpr ⟨e, he, rfl⟩
    obtain ⟨p, hp, ee⟩ := List.mem_map.mp this
    exact ⟨p, hp, ee⟩
  rcases List.mem_append.mp he with z | z
  · obtain ⟨p, hp, ee⟩ := key r1 z
    rw [← ee]
    exact j2 p hp
  · obtain ⟨p, hp, ee⟩ := key r2 z
    rw [← ee]
    exact j3 p hp
def sortE (enc : κ → PyData) (es : List (κ × V)) : List (κ × V) := es.mergeSort (PySem.W.dataLe false fun e => enc e.1)
/-- sorted(s) -/
def rSorted (T : ET X.prog X.w κ) : List V → Hp → VK → Prop := fun xs H Q => ∃ (a : Addr) (es : List (κ × V)), xs = [.ref a] ∧ H a = some (SO T a es) ∧ ElsAt T X.K H es ∧ PySem.W.AllAlike (es.map fun e => T.enc e.1) ∧ PySem.W.Sortable (es.map fun e => T.enc e.1) ∧
  ∀ p fs H', Same H H' → H p = none → H' p = some (.lst ((sortE T.enc fs).map (·.2))) → fs.Perm es → Q (.ref p) H'
theorem cr_sorted (hcalm : X.calm = true) (hu : X.A.units + 64 < cLine) : CallR X (.builtin "sorted") (rSorted T) := by
  intro pins s σ H xs us Q I r q
  obtain ⟨a, es, rfl, ha, hk, al, so, q⟩ := q
  rw [Vals.ref1 r]
  obtain ⟨L, e, ep, t, rr, R⟩ := sr_of I ha hk
  obtain ⟨o, ho, hex, hd⟩ := R.ob
  have hfw := R.few
  refine Calls.call_function_entry PyProof.Rows.kind_sorted PyProof.Rows.plain_sorted PyProof.Rows.entry_sorted (PyProof.Rows.args_sorted1 _) ?_
  unfold Builtin.«sorted»
  refine wpAny_bind (m := checkCount "sorted" 1 1 _) (wpAny_pure ?_)
  refine wpAny_bind (collect_set (A := X.A.in1) (I.ok.hd hcalm) ⟨o, ho, hex.1, hd⟩ R.fits (by rw [R.size]; unfold scanBound; omega) R.tab.ris R.led fun s1 vs k1 hz g1 o1 pm => ?_)
  -- the entries in the order in which the set was walked
  have hZ : (L.zip es).map (fun z => z.1.2) = L.map (·.2) := by
    have h1 : (L.zip es).map Prod.fst = L := List.map_fst_zip (by rw [rr.len]; exact Nat.le_refl _)
    conv => rhs; rw [← h1]
    rw [List.map_map]
    rfl
  have hZ2 : (L.zip es).map Prod.snd = es := List.map_snd_zip (by rw [rr.len]; exact Nat.le_refl _)
  have hrel : ∀ z ∈ L.zip es, RelV z.2.2 z.1.2 := by
    have key : ∀ (es : List (κ × V)) (L : List (T.τ × Value)), Vals (es.map (·.2)) (L.map (·.2)) → ∀ z ∈ L.zip es, RelV z.2.2 z.1.2 := fun es => by
      induction es with
      | nil => intro L v z hz; rw [List.zip_nil_right] at hz; cases hz
      | cons e es ih =>
        intro L v z hz
        cases L with
        | nil => cases hz
        | cons p L =>
          rw [List.map_cons, List.map_cons] at v
          cases v with
          | cons v1 v2 =>
            rw [List.zip_cons_cons] at hz
            rcases List.mem_cons.mp hz with y | y
            · rw [y]; exact v1
            · exact ih L v2 z y
    exact key es L rr.vals
  have hes : e.toList.map (·.2) = L.map (·.2) := by
    rw [R.rows]
    unfold rowsOf
    rw [List.map_map]
    rfl
  rw [hes, ← hZ] at pm
  obtain ⟨Z, pz, ez⟩ := perm_inv pm (L.zip es) rfl
  have pfs : (Z.map Prod.snd).Perm es := by
    have := pz.map Prod.snd
    rw [hZ2] at this
    exact this
  have hE : PySem.W.EachIs (fun (u : Value) (e : κ × V) => RelV e.2 u) vs (Z.map Prod.snd) := by
    rw [ez]
    have key : ∀ Z : List ((T.τ × Value) × (κ × V)), (∀ z ∈ Z, RelV z.2.2 z.1.2) → PySem.W.EachIs (fun (u : Value) (e : κ × V) => RelV e.2 u) (Z.map fun z => z.1.2) (Z.map Prod.snd) := fun Z => by
      induction Z with
      | nil => intro _; exact .nil
      | cons z Z ih => intro h; exact .cons (h z List.mem_cons_self) (ih fun y hy => h y (List.mem_cons_of_mem _ hy))
    exact key Z fun z hz => hrel z (pz.mem_iff.mp hz)
  have hlen : vs.length = es.length := by rw [hE.length, pfs.length_eq]
  have I1 : Inv X pins σ H s1 := I.call' (s' := s1) (ch := []) o1 (Un.kept k1) (I.hok.kept k1) (by rw [g1]; exact I.bare) (fun _ z => nomatch z)
  have hle : es.length ≤ 76 := by rw [← rr.len]; exact hfw
  refine wpAny_bind (wpAny_newList ?_ (by rw [hlen, sizeLine_eq]; omega))
  have hoL : (s1.heap.push (seqObj "list" vs.toArray 0)).get? s1.heap.objs.size = some (seqObj "list" vs.toArray 0) := Heap.get?_push_size _ rfl
  have er : PySem.W.EachIs (fun (v : Value) (b : κ × V) => ∃ as, Reads (s1.heap.push (seqObj "list" vs.toArray 0)) v (T.enc b.1) as ∧ s1.heap.objs.size ∉ as) vs (Z.map Prod.snd) := (PySem.W.each_mem hE).mono fun v b ⟨e, hb⟩ => by
    obtain ⟨as, rd⟩ := Dp.reads I1 _ b.2 _ (hk b (pfs.mem_iff.mp hb)) e
    exact ⟨as, PyProof.Rows.Reads.keeps (fun b o e => Heap.get?_push_of_some _ e) rd, fun hm => by
      obtain ⟨o, ho⟩ := PyProof.On.reads_mem_get rd _ hm
      exact Nat.lt_irrefl _ (Heap.lt_size ho)⟩
  have al2 : PySem.W.AllAlike ((Z.map Prod.snd).map fun e => T.enc e.1) := fun d hd d' hd' => al d ((pfs.map _).mem_iff.mp hd) d' ((pfs.map _).mem_iff.mp hd')
  have so2 : PySem.W.Sortable ((Z.map Prod.snd).map fun e => T.enc e.1) := so.imp (fun h d hd => h d ((pfs.map _).mem_iff.mp hd)) fun h d hd => h d ((pfs.map _).mem_iff.mp hd)
  show wpAny _ _ _ _ _ { s1 with heap := s1.heap.push (seqObj "list" vs.toArray 0) }
  refine wpAny_bind (wpAny_holding (PySem.W.list_sort_data (s := { s1 with heap := s1.heap.push (seqObj "list" vs.toArray 0) }) hoL hE er al2 so2 (by rw [pfs.length_eq, sizeLine_eq]; omega) (fun b hb => by
    have := T.dp b.1
    show X.A.units + 1 + 1 + _ < cLine
    omega) fun out lo eo => ?_))
  obtain ⟨e', he'⟩ := PyProof.Rows.sortedHeap_at (vs := vs) (out := List.toArray out) hoL
  have hv : Vals ((sortE T.enc (Z.map Prod.snd)).map (·.2)) out := by
    have key : ∀ {out : List Value} {fs : List (κ × V)}, PySem.W.EachIs (fun (u : Value) (e : κ × V) => RelV e.2 u) out fs → Vals (fs.map (·.2)) out := fun {out fs} h => by
      induction h with
      | nil => exact .nil
      | cons h _ ih => exact .cons h ih
    exact key eo
  have hl2 : ((sortE T.enc (Z.map Prod.snd)).map (·.2)).length ≤ sizeLine := by
    rw [List.length_map, sortE, List.length_mergeSort, pfs.length_eq, sizeLine_eq]
    omega
  refine wpAny_pure ⟨_, rfl, .ref s1.heap.objs.size, upd H s1.heap.objs.size (.lst ((sortE T.enc (Z.map Prod.snd)).map (·.2))), I1.laid (t' := s1.toks) (fun b u e => ?_) (Nat.le_refl _)
    (show ObjOk X.prog X.w _ _ _ (.lst _) from ⟨hl2, out, e', hv, he'⟩), rfl, q _ _ _ (same_put (I1.hok.fresh (Nat.le_refl _))) (I1.hok.fresh (Nat.le_refl _)) upd_same pfs⟩
  have hb : b < s1.heap.objs.size := Heap.lt_size e
  rw [PyProof.Rows.sortedHeap_old (Nat.ne_of_lt hb) (by rw [size_push']; exact Nat.lt_succ_of_lt hb)]
  exact Heap.get?_push_of_some _ e
end
end GS
/-! what sorted(..) of keys gives does not depend on their order -/
namespace GS
open PySem PySem.Spec PyProof.Rows L2 GX
open PySem.W (dataLt dataLe alike alikeAll keyToks keyToksAll)
theorem eqv_toks {x y : PyData} (h : alike x y = true) (e : keyToks x = keyToks y) : PyData.eqv x y = true := by
  cases q : PyData.eqv x y with
  | true => rfl
  | false =>
    have z := (PySem.W.toks_eqv x y h).2 q [Sum.inl 0] [Sum.inl 1]
    rw [e, PySem.W.lex_pre] at z
    have i : PyProof.Rows.lexLt itemOrd (keyToks y) (keyToks y) = false := (listOrd itemOrd).irrefl _
    rw [i] at z
    exact absurd z (by decide +kernel)
mutual
theorem eqv_kd : ∀ d e : PyData, kd d = true → kd e = true → PyData.eqv d e = true → d = e
  | .int i, e, _, he, q => by
    cases e with
    | int j => simpa [PyData.eqv] using q
    | str y => simp [PyData.eqv] at q
    | tuple ys => simp [PyData.eqv] at q
    | _ => simp [kd] at he
  | .str x, e, _, he, q => by
    cases e with
    | int j => simp [PyData.eqv] at q
    | str y => simpa [PyData.eqv] using q
    | tuple ys => simp [PyData.eqv] at q
    | _ => simp [kd] at he
  | .tuple xs, e, hd, he, q => by
    cases e with
    | int j => simp [PyData.eqv] at q
    | str y => simp [PyData.eqv] at q
    | tuple ys =>
      rw [kd] at hd he
      rw [PyData.eqv] at q
      rw [eqvAll_kd xs ys hd he q]
    | _ => simp [kd] at he
  | .none, _, hd, _, _ => by simp [kd] at hd
  | .bool _, _, hd, _, _ => by simp [kd] at hd
  | .list _, _, hd, _, _ => by simp [kd] at hd
  | .dict _, _, hd, _, _ => by simp [kd] at hd
theorem eqvAll_kd : ∀ xs ys : List PyData, kdAll xs = true → kdAll ys = true → PyData.eqvAll xs ys = true → xs = ys
  | [], [], _, _, _ => rfl
  | [], y :: ys, _, _, q => by simp [PyData.eqvAll] at q
  | x :: xs, [], _, _, q => by simp [PyData.eqvAll] at q
  | x :: xs, y :: ys, hx, hy, q => by
    rw [kdAll, Bool.and_eq_true] at hx hy
    rw [PyData.eqvAll, Bool.and_eq_true] at q
    rw [eqv_kd x y hx.1 hy.1 q.1, eqvAll_kd xs ys hx.2 hy.2 q.2]
end
theorem le_anti {κ : Type} {enc : κ → PyData} (hk : ∀ k, kd (enc k) = true) {a b : κ} (al : alike (enc a) (enc b) = true) (h1 : dataLe false enc a b = true) (h2 : dataLe false enc b a = true) : enc a = enc b := by
  have z1 : dataLt (enc b) (enc a) = false := by simpa [PySem.W.dataLe_eq] using h1
  have z2 : dataLt (enc a) (enc b) = false := by simpa [PySem.W.dataLe_eq] using h2
  exact eqv_kd _ _ (hk a) (hk b) (eqv_toks al ((listOrd itemOrd).total _ _ z2 z1))
/-- the keys in their order -/
def sortK {κ : Type} (enc : κ → PyData) (ks : List κ) : List κ := ks.mergeSort (dataLe false enc)
theorem sortK_perm {κ : Type} (enc : κ → PyData) (ks : List κ) : (sortK enc ks).Perm ks := List.mergeSort_perm _ _
theorem le_total {κ : Type} (enc : κ → PyData) : PySem.W.TotalLe (dataLe false enc) := PySem.W.sortLe_total (listOrd itemOrd) false fun b => keyToks (enc b)
theorem sortK_eq {κ : Type} {enc : κ → PyData} (hk : ∀ k, kd (enc k) = true) (inj : ∀ {a b : κ}, enc a = enc b → a = b) {ks ls : List κ} (al : ∀ a ∈ ks, ∀ b ∈ ks, alike (enc a) (enc b) = true) (p : ks.Perm ls) : sortK enc ks = sortK enc ls := by
  refine List.Perm.eq_of_pairwise (le := fun a b => dataLe false enc a b = true) (fun a b ha hb h1 h2 => ?_) (PySem.W.sort_pairwise (le_total enc) ks) (PySem.W.sort_pairwise (le_total enc) ls) (((sortK_perm enc ks).trans p).trans (sortK_perm enc ls).symm)
  have ha' : a ∈ ks := (sortK_perm enc ks).mem_iff.mp ha
  have hb' : b ∈ ks := p.mem_iff.mpr ((sortK_perm enc ls).mem_iff.mp hb)
  exact inj (le_anti hk (al a ha' b hb') h1 h2)
theorem sortE_keys {κ : Type} (enc : κ → PyData) (fs : List (κ × V)) : (sortE enc fs).map (·.1) = sortK enc (fs.map (·.1)) := PySem.W.sort_maps (fun e : κ × V => e.1) (r := dataLe false fun e : κ × V => enc e.1) (s := dataLe false enc) fun a _ b _ => rfl
theorem sortE_perm {κ : Type} (enc : κ → PyData) (fs : List (κ × V)) : (sortE enc fs).Perm fs := List.mergeSort_perm _ _
theorem perm_of_nodup {α : Type} {l m : List α} (h1 : l.Nodup) (h2 : m.Nodup) (h : ∀ x, x ∈ l ↔ x ∈ m) : l.Perm m := (List.perm_ext_iff_of_nodup h1 h2).mpr h
end GS
/-! the class Finder: the object, its memory; tools -/
namespace K20
open PySem PySem.Spec PyProof.Rows L2 TL TR QR
open GxR (TabB TabG Tabbed)
open PySem.W (EachIs)
def EX (x : Addr) (H H' : Hp) : Prop := ∀ b o, b ≠ x → H b = some o → H' b = some o
theorem EX.refl {x : Addr} {H : Hp} : EX x H H := fun _ _ _ h => h
theorem EX.trans {x : Addr} {H H1 H2 : Hp} (a : EX x H H1) (b : EX x H1 H2) : EX x H H2 := fun y o n h => b y o n (a y o n h)
theorem EX.same {x : Addr} {H H1 : Hp} (s : Same H H1) : EX x H H1 := fun y o _ h => s y o h
theorem EX.upd {x : Addr} {H : Hp} {o : HO} : EX x H (upd H x o) := fun y o' n h => (upd_ne n).trans h
theorem fld_seq {K : PySem.W.Frag} {ta tv : TE} {f : Str} {t : L2.TS} {D : Ends} {σ : L2.St} {H : Hp} (h : tv σ H fun y H1 => ta σ H1 fun x H2 => ∃ a C dx fs, x = .ref a ∧ H2 a = some (.ins C dx fs) ∧ Cls K C ∧ NoAttr K C f ∧ fs.length < 1000 ∧ t D σ (upd H2 a (.ins C dx (putF f y fs)))) : tSeq (sFld K ta tv f) t D σ H := h
theorem tseq_intro {X t : L2.TS} {De : Ends} {σ : L2.St} {H : Hp} (J : L2.St → Hp → Prop) (ht : ∀ σ' H', J σ' H' → t De σ' H') (hX : ∀ N : L2.St → Hp → Prop, (∀ σ' H', J σ' H' → N σ' H') → X { De with nx := N } σ H) : tSeq X t De σ H := hX _ ht
section
variable {K : PySem.W.Frag} {σ : L2.St} {H : Hp} {ta tb : TE}
theorem Sure.neN {i j : Nat} (ha : Ev ta σ H (.int (i : Int))) (hb : Ev tb σ H (.int (j : Int))) : Sure (tTest (tOp rNe ta tb)) σ H (i ≠ j) := fun R r => ha _ (hb _ ⟨rfl, _, rfl, by
  rw [show (!decide (V.int (i : Int) = V.int (j : Int))) = decide (i ≠ j) from by
    rw [← decide_not]
    exact decide_eq_decide.mpr ⟨fun z w => z (by rw [w]), fun z w => z (by have := V.int.inj w; omega)⟩]
  exact r⟩)
/-- a list of numbers, at an index -/
theorem map_at {α : Type} {f : α → V} {xs : List α} {i : Nat} {v : V} (h : (xs.map f)[i]? = some v) : ∃ x, xs[i]? = some x ∧ v = f x := by
  rw [List.getElem?_map] at h
  obtain ⟨x, hx, e⟩ := Option.map_eq_some_iff.mp h
  exact ⟨x, hx, e.symm⟩
end
structure TxtFi (K : PySem.W.Frag) (mg : Str → Option Value) (C : Addr) : Prop extends TxtF K mg C
/-! ### the fields -/
section
def fdF (cv bv kv : V) (ab : Int) (aD : Addr) : List (Str × V) := putF "least" (.ref aD) (putF "kinds" kv (putF "bad_bits" bv (putF "all_bits" (.int ab) (putF "causes" cv []))))
variable {cv bv kv : V} {ab : Int} {aD : Addr}
theorem fd_causes : (fdF cv bv kv ab aD).lookup ("causes" : Str) = some cv := by
  unfold fdF
  rw [lookup_putF, if_neg (by decide +kernel), lookup_putF, if_neg (by decide +kernel), lookup_putF, if_neg (by decide +kernel), lookup_putF, if_neg (by decide +kernel), lookup_putF, if_pos rfl]
theorem fd_all : (fdF cv bv kv ab aD).lookup ("all_bits" : Str) = some (.int ab) := by
  unfold fdF
  rw [lookup_putF, if_neg (by decide +kernel), lookup_putF, if_neg (by decide +kernel), lookup_putF, if_neg (by decide +kernel), lookup_putF, if_pos rfl]
theorem fd_bad : (fdF cv bv kv ab aD).lookup ("bad_bits" : Str) = some bv := by
  unfold fdF
  rw [lookup_putF, if_neg (by decide +kernel), lookup_putF, if_neg (by decide +kernel), lookup_putF, if_pos rfl]
theorem fd_kinds : (fdF cv bv kv ab aD).lookup ("kinds" : Str) = some kv := by
  unfold fdF
  rw [lookup_putF, if_neg (by decide +kernel), lookup_putF, if_pos rfl]
theorem fd_least : (fdF cv bv kv ab aD).lookup ("least" : Str) = some (.ref aD) := by
  unfold fdF
  rw [lookup_putF, if_pos rfl]
abbrev NoF (m : Str) : Prop := m ≠ "least" ∧ m ≠ "kinds" ∧ m ≠ "bad_bits" ∧ m ≠ "all_bits" ∧ m ≠ "causes"
theorem fd_no {m : Str} (h : NoF m) : (fdF cv bv kv ab aD).lookup m = none := by
  unfold fdF
  rw [lookup_putF, if_neg h.1, lookup_putF, if_neg h.2.1, lookup_putF, if_neg h.2.2.1, lookup_putF, if_neg h.2.2.2.1, lookup_putF, if_neg h.2.2.2.2]
  rfl
theorem no_named : NoF ("named" : Str) := by decide +kernel
theorem no_sides : NoF ("sides" : Str) := by decide +kernel
theorem no_fewest : NoF ("fewest" : Str) := by decide +kernel
theorem no_first : NoF ("first_test" : Str) := by decide +kernel
theorem no_best : NoF ("best" : Str) := by decide +kernel
end
/-! ### the object -/
structure FdAt (CF : Addr) (N : Addr → Prop) (H : Hp) (x aD : Addr) (css tss : Grp) : Prop where
  ex : ∃ (dx ba ka : Addr) (cv : V) (ks : List Nat), H x = some (.ins CF dx (fdF cv (.ref ba) (.ref ka) ((2 ^ css.length - 1 : Nat) : Int) aD)) ∧ LsAt N H cv css ∧ H ba = some (.lst (tss.map fun t => V.int (kindN css t : Int))) ∧ H ka = some (.lst (ks.map fun k : Nat => V.int (k : Int))) ∧ (∀ n, n ∈ ks ↔ ∃ t ∈ tss, kindN css t = n) ∧ ks.length ≤ 40
  lc : css.length ≤ 10
  lt : tss.length ≤ 30
  cs : ∀ c ∈ css, c.length ≤ 1000
/-- the memory's entries -/
def memK (css tss : Grp) (ms : List Nat) : List (L2.Key × V) := ms.map fun n : Nat => (.inl (n : Int), .int (fw tss (namedL css n) : Int))
structure MemF (H : Hp) (aD : Addr) (css tss : Grp) (ms : List Nat) : Prop where
  ex : H aD = some (.dK (memK css tss ms))
  nd : ms.Nodup
  lt : ∀ n ∈ ms, n < 2 ^ css.length
section
variable {CF x aD : Addr} {N : Addr → Prop} {H H' : Hp} {css tss : Grp} {ms : List Nat}
theorem EX.ts {kvs : List (L2.Key × V)} (h : H aD = some (.dK kvs)) (s : EX aD H H') : TS H H' := fun b xs e => s b _ (fun z => by rw [z, h] at e; cases e) e
theorem EX.lf {kvs : List (L2.Key × V)} (h : H aD = some (.dK kvs)) (s : EX aD H H') : LF N H H' := ⟨s.ts h, fun b xs _ e => s b _ (fun z => by rw [z, h] at e; cases e) e⟩
theorem FdAt.exD {kvs : List (L2.Key × V)} (h : H aD = some (.dK kvs)) (s : EX aD H H') (f : FdAt CF N H x aD css tss) : FdAt CF N H' x aD css tss := by
  obtain ⟨⟨dx, ba, ka, cv, ks, h1, h2, h3, h4, h5⟩, lc, lt, cs⟩ := f
  exact ⟨⟨dx, ba, ka, cv, ks, s _ _ (fun z => by rw [z, h] at h1; cases h1) h1, h2.lf (s.lf h), (s.lf (N := fun _ => True) h).ls _ _ trivial h3, (s.lf (N := fun _ => True) h).ls _ _ trivial h4, h5⟩, lc, lt, cs⟩
theorem FdAt.same (s : Same H H') (f : FdAt CF N H x aD css tss) : FdAt CF N H' x aD css tss := by
  obtain ⟨⟨dx, ba, ka, cv, ks, h1, h2, h3, h4, h5⟩, lc, lt, cs⟩ := f
  exact ⟨⟨dx, ba, ka, cv, ks, s _ _ h1, h2.lf (Same.lf s), s _ _ h3, s _ _ h4, h5⟩, lc, lt, cs⟩
theorem MemF.same (s : Same H H') (f : MemF H aD css tss ms) : MemF H' aD css tss ms := ⟨s _ _ f.ex, f.nd, f.lt⟩
theorem key_nat (i j : Nat) : decide ((Sum.inl (i : Int) : L2.Key) = .inl (j : Int)) = decide (i = j) :=
  decide_eq_decide.mpr ⟨fun z => by have := Sum.inl.inj z; omega, fun z => by rw [z]⟩
theorem memK_get (n : Nat) : ∀ ms : List Nat, valV (memK css tss ms) (.inl (n : Int)) = if n ∈ ms then some (V.int (fw tss (namedL css n) : Int)) else none
  | [] => rfl
  | m :: ms => by
    have ih := memK_get n ms
    unfold valV memK at ih ⊢
    rw [List.map_cons, List.find?_cons, key_nat]
    by_cases e : m = n
    · rw [decide_eq_true e, if_pos (by rw [e]; exact List.mem_cons_self ..), e]
      rfl
    · rw [decide_eq_false e]
      show Option.map _ (List.find? _ _) = _
      rw [ih]
      by_cases h : n ∈ ms
      · rw [if_pos h, if_pos (List.mem_cons_of_mem _ h)]
      · rw [if_neg h, if_neg fun z => by rcases List.mem_cons.mp z with z | z; exact e z.symm; exact h z]
theorem memK_put {n : Nat} (ms : List Nat) : putK (memK css tss ms) (.inl (n : Int)) (.int (fw tss (namedL css n) : Int)) = memK css tss (if n ∈ ms then ms else ms ++ [n]) := by
  unfold putK
  have e : ((memK css tss ms).any fun kv => decide (kv.1 = .inl (n : Int))) = decide (n ∈ ms) := by
    unfold memK
    rw [List.any_map, Bool.eq_iff_iff, List.any_eq_true, decide_eq_true_iff]
    exact ⟨fun ⟨m, hm, e⟩ => by
      have e : decide ((Sum.inl (m : Int) : L2.Key) = .inl (n : Int)) = true := e
      rw [key_nat] at e
      rw [← of_decide_eq_true e]
      exact hm, fun h => ⟨n, h, decide_eq_true rfl⟩⟩
  rw [e]
  by_cases h : n ∈ ms
  · rw [if_pos (decide_eq_true h), if_pos h]
    unfold memK
    rw [List.map_map]
    refine List.map_congr_left fun m hm => ?_
    show (if (Sum.inl (m : Int) : L2.Key) = .inl (n : Int) then _ else _) = _
    by_cases z : m = n
    · rw [z, if_pos rfl]
    · rw [if_neg fun w => z (by have := Sum.inl.inj w; omega)]
  · rw [if_neg (by rw [decide_eq_true_iff]; exact h), if_neg h]
    unfold memK
    rw [List.map_append]
    rfl
theorem nat_len : ∀ {l : List Nat} {n : Nat}, l.Nodup → (∀ k ∈ l, k < n) → l.length ≤ n := fun {l n} nd h => by
  have := nd_len nd (m := List.range n) fun x hx => List.mem_range.mpr (h x hx)
  rwa [List.length_range] at this
theorem MemF.len (f : MemF H aD css tss ms) (lc : css.length ≤ 10) : ms.length ≤ 1024 := Nat.le_trans (nat_len f.nd f.lt) (Nat.le_trans (Nat.pow_le_pow_right (by decide) lc) (by decide))
end
/-! ### pairs of sums of bits -/
def PrsAt (N : Addr → Prop) (H : Hp) (v : V) (ps : List (Nat × Nat)) : Prop := ∃ l ws, v = .ref l ∧ N l ∧ H l = some (.lst ws) ∧ EachIs (fun v p => ∃ t, v = .ref t ∧ H t = some (.tup [.int (p.1 : Int), .int (p.2 : Int)])) ws ps
structure SidesOk (css tss : Grp) (bits : Nat) (ps : List (Nat × Nat)) : Prop where
  iff : ∀ p, p ∈ ps ↔ ∃ t ∈ tss, (bits &&& kindN css t ≠ 0 ∧ bits &&& kindN css t ≠ bits) ∧ p = (bits &&& kindN css t, bits - (bits &&& kindN css t))
  ln : ps.length ≤ 40
def keyP (p : Nat × Nat) : List L2.Key := [.inl (p.1 : Int), .inl (p.2 : Int)]
theorem keyP_inj {p q : Nat × Nat} (h : keyP p = keyP q) : p = q := by
  unfold keyP at h
  injection h with h1 h2
  injection h2 with h2 _
  have h1 := Sum.inl.inj h1
  have h2 := Sum.inl.inj h2
  exact Prod.ext (by omega) (by omega)
def rowsP (ps : List (Nat × Nat)) : List (List L2.Key × V) := ps.map fun p => (keyP p, .bl true)
theorem rowsP_put (p : Nat × Nat) (ps : List (Nat × Nat)) : putK (rowsP ps) (keyP p) (.bl true) = rowsP (if p ∈ ps then ps else ps ++ [p]) := by
  unfold putK
  have e : ((rowsP ps).any fun kv => decide (kv.1 = keyP p)) = decide (p ∈ ps) := by
    unfold rowsP
    rw [List.any_map, Bool.eq_iff_iff, List.any_eq_true, decide_eq_true_iff]
    exact ⟨fun ⟨m, hm, e⟩ => by
      have e := of_decide_eq_true (p := keyP m = keyP p) e
      rw [← keyP_inj e]
      exact hm, fun h => ⟨p, h, decide_eq_true rfl⟩⟩
  rw [e]
  by_cases h : p ∈ ps
  · rw [if_pos (decide_eq_true h), if_pos h]
    unfold rowsP
    rw [List.map_map]
    refine List.map_congr_left fun m hm => ?_
    show (if keyP m = keyP p then _ else _) = _
    split <;> rfl
  · rw [if_neg (by rw [decide_eq_true_iff]; exact h), if_neg h]
    unfold rowsP
    rw [List.map_append]
    rfl
theorem keys_each {H : Hp} : ∀ {ps : List (Nat × Nat)} {bs : List Addr}, IsKeys H (rowsP ps) bs → EachIs (fun v p => ∃ t, v = .ref t ∧ H t = some (.tup [.int (p.1 : Int), .int (p.2 : Int)])) (bs.map V.ref) ps
  | [], _, .nil => .nil
  | p :: ps, _, .cons h t => .cons ⟨_, rfl, h⟩ (keys_each t)
end K20
namespace K20
open PySem PySem.Spec PyProof.Rows L2 TL TR QR
open GxR (TabB TabG Tabbed)
open PySem.W (EachIs)
section
variable {P : Program} {w : World} {K : PySem.W.Frag} {mg : Str → Option Value} {base : Heap} {CF : Addr}
def spSD (CF : Addr) : Sp := fun vs H Q _ => ∃ (x aD : Addr) (N : Addr → Prop) (css tss : Grp) (bits : Nat), vs = [.ref x, .int (bits : Int)] ∧ FdAt CF N H x aD css tss ∧
  ∀ H' v ps, Same H H' → PrsAt (fun a => H a = none) H' v ps → SidesOk css tss bits ps → Q v H'
theorem ok_SD {f : Addr} {fd : FuncData} (F : Fun K "sides" "Finder.sides" sSD f fd) (TF : TxtF K mg CF) (m_list : mg "list" = none) : FnOk P w K mg base CX0 1 f fd ["self", "bits"] (spSD CF) := by
  refine F.ok scSD (fun vs H Q E h => ?_) (fun cdv A outer s H vs Q E hr h => ?_)
  · obtain ⟨x, aD, N, css, tss, bits, rfl, _⟩ := h
    rfl
  · obtain ⟨x, aD, N, css, tss, bits, rfl, hF, q⟩ := h
    have hu := hr.units
    have hu1 := hu_of hr
    have zl := zl
    refine ⟨_, (pss_cons (ps_set (i := 2) scSD.nd rfl (.inl rfl) (pe_dnewT))
      (pss_cons (ps_for PassesOwn.never rfl (pi_list (pe_fld (pv 0) rfl)) (pg_name (i := 3) scSD.nd rfl (.inl rfl))
      (pss_cons (ps_set (i := 4) scSD.nd rfl (.inl rfl) (pe_op op_and (pv 1) (pv 3)))
      (pss_one (ps_if (PW.pt (pw_and (pt_cmpR op_ne (pv 4) (pe_int) (nomark _)) (pw_and1 (pt_cmpR op_ne (pv 4) (pv 1) (nomark _)))))
      (pss_one (ps_dput hu1 (pv 2) (pe_tup (pa_cons (pv 4) (pa_cons (pe_op op_sub (pv 1) (pv 4)) pa_nil))) (pe_bl) rfl)) pss_nil))))
      (pss_one (ps_ret (pe_callTy (call_list_dT rfl) (by rfl) m_list (by decide +kernel) (pa_cons (pv 2) pa_nil)))))), ?_⟩
    dsimp only [cxOf, Cx.nox]
    obtain ⟨dx, ba, ka, cv, ks, h1, h2, h3, h4, h5, h6⟩ := hF.ex
    refine asg_seq fun r nr => ?_
    dsimp only
    have s0 := same_new (o := .dT []) nr
    have er : upd H r (.dT []) r = some (.dT (rowsP [])) := upd_same
    generalize upd H r (.dT []) = H0 at s0 er
    refine ⟨_, rfl, x, CF, dx, _, _, rfl, s0 _ _ h1, TF.cl, TF.n4, fd_kinds, ka, rfl, ⟨_, SqL.of (s0 _ _ h4)⟩, ?_⟩
    refine for_list (K := K) (xs := ks.map fun k : Nat => V.int (k : Int)) (fun i σ H' => ∃ (y3 y4 : Option V) (ps : List (Nat × Nat)), σ = [some (.ref x), some (.int (bits : Int)), some (.ref r), y3, y4] ∧ Same H H' ∧ H' r = some (.dT (rowsP ps)) ∧ ps.length ≤ i ∧
      ∀ p, p ∈ ps ↔ ∃ k ∈ ks.take i, (bits &&& k ≠ 0 ∧ bits &&& k ≠ bits) ∧ p = (bits &&& k, bits - (bits &&& k))) ⟨none, none, [], rfl, s0, er, Nat.le_refl _, fun p => ⟨(fun h => nomatch h), fun ⟨k, h, _⟩ => by rw [List.take_zero] at h; cases h⟩⟩ ?_ ?_ ?_
    · rintro i σ H' _ ⟨y3, y4, ps, rfl, s, _⟩
      exact SqL.of (s _ _ h4)
    · rintro i v σ H' hv ⟨y3, y4, ps, rfl, s, hr', lps, hps⟩
      obtain ⟨k, hk, rfl⟩ := map_at hv
      have li := (List.getElem?_eq_some_iff.mp hk).1
      have et : ks.take (i + 1) = ks.take i ++ [k] := by rw [List.take_add_one, hk]; rfl
      refine name_to ?_
      dsimp only
      refine asg_seq ?_
      refine ⟨_, rfl, _, rfl, _, _, rfl, rfl, ?_⟩
      dsimp only
      rw [and_nat]
      refine ifS (p := bits &&& k ≠ 0 ∧ bits &&& k ≠ bits) (Sure.and (Sure.neN (j := 0) (.var rfl) .con) fun _ => Sure.neN (.var rfl) (.var rfl)) (fun yes => ?_) fun no => ?_
      · have le : bits &&& k ≤ bits := Nat.and_le_left
        refine ⟨_, rfl, _, rfl, _, rfl, _, rfl, _, _, rfl, rfl, by show 2 ≤ sizeLine; omega, fun t nt => ?_⟩
        have st := same_new (o := .tup [V.int ((bits &&& k : Nat) : Int), V.int ((bits : Int) - ((bits &&& k : Nat) : Int))]) nt
        have et' : upd H' t (.tup [V.int ((bits &&& k : Nat) : Int), V.int ((bits : Int) - ((bits &&& k : Nat) : Int))]) t = some (.tup ((keyP (bits &&& k, bits - (bits &&& k))).map kV)) := by
          rw [upd_same, ← Int.natCast_sub le]
          rfl
        generalize upd H' t (.tup [V.int ((bits &&& k : Nat) : Int), V.int ((bits : Int) - ((bits &&& k : Nat) : Int))]) = H2 at st et'
        refine ⟨r, _, rfl, DPut.t (st _ _ hr') et' (by unfold rowsP; rw [List.length_map]; omega), some (.int (k : Int)), _, (if (bits &&& k, bits - (bits &&& k)) ∈ ps then ps else ps ++ [(bits &&& k, bits - (bits &&& k))]), rfl, fun b o e => ?_, ?_, ?_, fun p => ?_⟩
        · rw [upd_ne (ne_of_none e nr)]
          exact st _ _ (s _ _ e)
        · rw [upd_same, rowsP_put]
        · split
          · omega
          · rw [List.length_append]
            exact Nat.succ_le_succ lps
        · rw [et]
          constructor
          · intro h
            have : p ∈ ps ∨ p = (bits &&& k, bits - (bits &&& k)) := by
              split at h
              · exact .inl h
              · rcases List.mem_append.mp h with h | h
                · exact .inl h
                · exact .inr (List.mem_singleton.mp h)
            rcases this with h | h
            · obtain ⟨k', hk', z⟩ := (hps p).mp h
              exact ⟨k', List.mem_append_left _ hk', z⟩
            · exact ⟨k, List.mem_append_right _ (List.mem_singleton.mpr rfl), yes, h⟩
          · rintro ⟨k', hk', z, e⟩
            rcases List.mem_append.mp hk' with hk' | hk'
            · have := (hps p).mpr ⟨k', hk', z, e⟩
              split
              · exact this
              · exact List.mem_append_left _ this
            · rw [List.mem_singleton.mp hk'] at e
              rw [e]
              split
              · assumption
              · exact List.mem_append_right _ (List.mem_singleton.mpr rfl)
      · refine ⟨some (.int (k : Int)), _, ps, rfl, s, hr', by omega, fun p => ?_⟩
        rw [et]
        constructor
        · intro h
          obtain ⟨k', hk', z⟩ := (hps p).mp h
          exact ⟨k', List.mem_append_left _ hk', z⟩
        · rintro ⟨k', hk', z, e⟩
          rcases List.mem_append.mp hk' with hk' | hk'
          · exact (hps p).mpr ⟨k', hk', z, e⟩
          · rw [List.mem_singleton.mp hk'] at z
            exact absurd z no
    · rintro σ H' ⟨y3, y4, ps, rfl, s, hr', lps, hps⟩
      rw [List.length_map] at lps hps
      rw [List.take_length] at hps
      dsimp only
      refine ret_cb ?_
      refine ⟨_, rfl, r, _, rfl, .inl hr', fun p bs np hb => ?_⟩
      have sp := same_new (o := .lst (bs.map V.ref)) np
      refine q _ _ ps (same_trans s sp) ⟨p, _, rfl, same_none s np, upd_same, (keys_each hb).mono fun _ _ ⟨t, e, h⟩ => ⟨t, e, sp _ _ h⟩⟩ ⟨fun p => ?_, by omega⟩
      rw [hps p]
      constructor
      · rintro ⟨k, hk, z⟩
        obtain ⟨t, ht, rfl⟩ := (h5 k).mp hk
        exact ⟨t, ht, z⟩
      · rintro ⟨t, ht, z⟩
        exact ⟨_, (h5 _).mpr ⟨t, ht, rfl⟩, z⟩
end
end K20
namespace K20
open PySem PySem.Spec PyProof.Rows L2 TL TR QR
open GxR (TabB TabG Tabbed)
open PySem.W (EachIs)
theorem minD_fold : ∀ (l : List Nat) (a : Nat), ((l.map fun n : Nat => (n : Int)).foldl min (a : Int)) = (minD (a :: l) : Nat)
  | [], a => rfl
  | b :: l, a => by
    rw [List.map_cons, List.foldl_cons, show min (a : Int) (b : Int) = ((min a b : Nat) : Int) by omega, minD_fold l (min a b)]
    rfl
theorem max_cast (i j : Nat) : (if (j : Int) > (i : Int) then (j : Int) else (i : Int)) = ((max i j : Nat) : Int) := by
  split <;> omega
theorem one_max (i j : Nat) : (1 : Int) + (if (j : Int) > (i : Int) then (j : Int) else (i : Int)) = ((1 + max i j : Nat) : Int) := by
  rw [max_cast]
  omega
def valP (css tss : Grp) (p : Nat × Nat) : Nat := 1 + max (fw tss (namedL css p.1)) (fw tss (namedL css p.2))
theorem sides_mem {css tss : Grp} {bits : Nat} {ps : List (Nat × Nat)} (lt : bits < 2 ^ css.length) (so : SidesOk css tss bits ps) {p : Nat × Nat} (h : p ∈ ps) :
    ∃ t ∈ tss, splitB t (namedL css bits) = true ∧ namedL css p.1 = badG t (namedL css bits) ∧ namedL css p.2 = goodG t (namedL css bits) ∧ p.1 < 2 ^ css.length ∧ p.2 < 2 ^ css.length ∧ (namedL css p.1).length < (namedL css bits).length ∧ (namedL css p.2).length < (namedL css bits).length := by
  obtain ⟨t, ht, hs, rfl⟩ := (so.iff p).mp h
  have sp : splitB t (namedL css bits) = true := by rw [split_bits lt]; exact decide_eq_true hs
  obtain ⟨a, b, _⟩ := split_len sp
  refine ⟨t, ht, sp, named_bad _ _ _, named_good _ _ _, and_lt lt, Nat.lt_of_le_of_lt (Nat.sub_le _ _) lt, ?_, ?_⟩
  · show (namedL css (bits &&& kindN css t)).length < _
    rw [named_bad]
    exact a
  · show (namedL css (bits - (bits &&& kindN css t))).length < _
    rw [named_good]
    exact b
theorem sides_fw {css tss : Grp} {bits : Nat} {ps : List (Nat × Nat)} (lt : bits < 2 ^ css.length) (so : SidesOk css tss bits ps) : minD (ps.map (valP css tss)) = fw tss (namedL css bits) := by
  rw [fw_rec]
  refine minD_ext fun x => ?_
  rw [List.mem_map, List.mem_map]
  constructor
  · rintro ⟨p, hp, rfl⟩
    obtain ⟨t, ht, sp, e1, e2, _⟩ := sides_mem lt so hp
    refine ⟨t, List.mem_filter.mpr ⟨ht, sp⟩, ?_⟩
    unfold valT valP
    rw [e1, e2]
  · rintro ⟨t, ht, rfl⟩
    obtain ⟨ht, sp⟩ := List.mem_filter.mp ht
    have hs := sp
    rw [split_bits lt, decide_eq_true_iff] at hs
    refine ⟨_, (so.iff _).mpr ⟨t, ht, hs, rfl⟩, ?_⟩
    unfold valT valP
    dsimp only
    rw [named_bad, named_good]
section
variable {P : Program} {w : World} {K : PySem.W.Frag} {mg : Str → Option Value} {base : Heap} {CF : Addr}
def spFE (CF : Addr) (c : Nat) : Sp := fun vs H Q _ => ∃ (x aD : Addr) (N : Addr → Prop) (css tss : Grp) (ms : List Nat) (bits : Nat), vs = [.ref x, .int (bits : Int)] ∧ FdAt CF N H x aD css tss ∧ MemF H aD css tss ms ∧ bits < 2 ^ css.length ∧ (namedL css bits).length < c ∧
  ∀ H' ms', EX aD H H' → MemF H' aD css tss ms' → Q (.int (fw tss (namedL css bits) : Int)) H'
theorem ok_FE0 {f : Addr} {fd : FuncData} : FnOk P w K mg base CX0 2 f fd ["self", "bits"] (spFE CF 0) :=
  ⟨fun vs H Q E ⟨_, _, _, _, _, _, _, _, _, _, _, h, _⟩ => absurd h (Nat.not_lt_zero _), fun A outer s H args us vs Q E hr he hb hv ⟨_, _, _, _, _, _, _, _, _, _, _, h, _⟩ => absurd h (Nat.not_lt_zero _)⟩
theorem ok_FE {c : Nat} {f fSD : Addr} {fd fdSD : FuncData} (F : Fun K "fewest" "Finder.fewest" sFE f fd) (TF : TxtF K mg CF)
    (MSD : Meth K CF "sides" fSD) (GSD : FnOk P w K mg base CX0 1 fSD fdSD ["self", "bits"] (spSD CF)) (bSD : Binds K fdSD ["self", "bits"] [])
    (MFE : Meth K CF "fewest" f) (GFE : FnOk P w K mg base CX0 (c + 2) f fd ["self", "bits"] (spFE CF c)) (bFE : Binds K fd ["self", "bits"] [])
    (m_min : mg "min" = none) (m_max : mg "max" = none) : FnOk P w K mg base CX0 (c + 3) f fd ["self", "bits"] (spFE CF (c + 1)) := by
  refine F.ok scFE (fun vs H Q E h => ?_) (fun cdv A outer s H vs Q E hr h => ?_)
  · obtain ⟨x, aD, N, css, tss, ms, bits, rfl, _⟩ := h
    rfl
  · obtain ⟨x, aD, N, css, tss, ms, bits, rfl, hF, hM, hlt, hc, q⟩ := h
    have hu := hr.units
    have hu1 := hu_of hr
    have hr1 : Room 1 _ := hr.mono (by omega)
    have hrF : Room (c + 2) _ := hr
    have zl := zl
    refine ⟨_, (pss_cons (ps_if (pt_cmp (pc_dnotin hu1 (pv 1) (pe_fld (pv 0) rfl)))
      (pss_cons (ps_set (i := 2) scFE.nd rfl (.inl rfl) (pe_lst (pa_nil)))
      (pss_cons (ps_for PassesOwn.never rfl (pi_list (pe_meth (pv 0) TF.cl MSD GSD hr1 bSD .nil pass0 (pa_cons (pv 1) pa_nil))) (pg_tup (by rfl) (pgs_cons (pg_name (i := 3) scFE.nd rfl (.inl rfl)) (pgs_cons (pg_name (i := 4) scFE.nd rfl (.inl rfl)) pgs_nil)))
      (pss_one (ps_expr (pe_bm PySem.F.plainAttrs_list PySem.F.slot_list_append PySem.F.type_list_append mt_append (pv 2) (pa_cons (pe_op op_add (pe_int) (pe_callB (call_max2 rfl) (by rfl) m_max (by decide +kernel) (pa_cons (pe_meth (pv 0) TF.cl MFE GFE hrF bFE .nil pass0 (pa_cons (pv 3) pa_nil)) (pa_cons (pe_meth (pv 0) TF.cl MFE GFE hrF bFE .nil pass0 (pa_cons (pv 4) pa_nil)) pa_nil)))) pa_nil)))))
      (pss_one (ps_dput hu1 (pe_fld (pv 0) rfl) (pv 1) (pe_callBK (GX.cr_minI rfl hu) (by rfl) m_min (by decide +kernel) (pa_cons (pv 2) pa_nil) (pk_cons (pe_int) pk_nil)) rfl)))) pss_nil)
      (pss_one (ps_ret (pe_dget hu1 (pe_fld (pv 0) rfl) (pv 1) (fun _ _ => rfl))))), ?_⟩
    dsimp only [cxOf, Cx.nox]
    obtain ⟨dx, ba, ka, cv, ks, hx, _⟩ := id hF.ex
    have xD : x ≠ aD := fun e => by rw [e, hM.ex] at hx; cases hx
    refine tseq_intro (fun σ' H' => ∃ (y2 y3 y4 : Option V) (ms' : List Nat), σ' = [some (.ref x), some (.int (bits : Int)), y2, y3, y4] ∧ EX aD H H' ∧ MemF H' aD css tss ms' ∧ bits ∈ ms') ?_ fun NN hN => ?_
    · rintro σ' H1 ⟨y2, y3, y4, ms', rfl, ex, hM1, hin⟩
      have gg := DGet.k (k := .inl (bits : Int)) hM1.ex
      rw [memK_get, if_pos hin] at gg
      exact ⟨_, rfl, x, CF, dx, _, _, rfl, ex _ _ xD hx, TF.cl, TF.n5, fd_least, _, rfl, aD, _, rfl, gg, q _ _ ex hM1⟩
    · refine ⟨_, rfl, _, rfl, x, CF, dx, _, _, rfl, hx, TF.cl, TF.n5, fd_least, aD, _, rfl, DGet.k (k := .inl (bits : Int)) hM.ex, ?_⟩
      rw [memK_get]
      refine ⟨_, rfl, ?_⟩
      by_cases hin : bits ∈ ms
      · rw [if_pos hin]
        exact no_if rfl (hN _ _ ⟨_, _, _, ms, rfl, EX.refl, hM, hin⟩)
      · rw [if_neg hin]
        refine yes_if rfl ?_
        refine asg_seq ⟨by show 0 ≤ sizeLine; omega, fun nl nnl => ?_⟩
        have s0 := same_new (o := .lst []) nnl
        have e0 : upd H nl (.lst []) nl = some (.lst []) := upd_same
        have nlD : nl ≠ aD := fun e => by rw [e, hM.ex] at nnl; cases nnl
        generalize upd H nl (.lst []) = H0 at s0 e0
        dsimp only
        have hx0 := s0 _ _ hx
        have hF0 := hF.same s0
        refine tseq_intro (fun σ' H' => ∃ (y3 y4 : Option V) (ms' : List Nat) (ps : List (Nat × Nat)), σ' = [some (.ref x), some (.int (bits : Int)), some (.ref nl), y3, y4] ∧ EX aD H H' ∧ MemF H' aD css tss ms' ∧ SidesOk css tss bits ps ∧ H' nl = some (.lst (ps.map fun p => V.int (valP css tss p : Int)))) ?_ fun N2 hN2 => ?_
        · rintro σ' H1 ⟨y3, y4, ms', ps, rfl, ex, hM1, so, enl⟩
          have hx1 := ex _ _ xD hx
          have eM : (ps.map fun p => V.int (valP css tss p : Int)) = ((ps.map (valP css tss)).map fun n : Nat => (n : Int)).map V.int := by
            rw [List.map_map, List.map_map]
            rfl
          have eF := sides_fw hlt so
          rw [eM] at enl
          generalize ps.map (valP css tss) = ns at enl eF
          have fin : ∀ v : Int, v = (fw tss (namedL css bits) : Int) → tFld K (tVar 0) "least" [some (.ref x), some (.int (bits : Int)), some (.ref nl), y3, y4] H1 fun xv H2 => tVar 1 [some (.ref x), some (.int (bits : Int)), some (.ref nl), y3, y4] H2 fun y H3 => ∃ a H4, xv = .ref a ∧ DPut H3 a y (.int v) H4 ∧ NN [some (.ref x), some (.int (bits : Int)), some (.ref nl), y3, y4] H4 := fun v hv => by
            refine ⟨_, rfl, x, CF, dx, _, _, rfl, hx1, TF.cl, TF.n5, fd_least, _, rfl, aD, _, rfl, DPut.k (k := .inl (bits : Int)) hM1.ex (by
              unfold memK
              rw [List.length_map]
              have := hM1.len hF.lc
              omega), ?_⟩
            rw [hv, memK_put]
            refine hN _ _ ⟨_, _, _, (if bits ∈ ms' then ms' else ms' ++ [bits]), rfl, fun b o n e => by rw [upd_ne n]; exact ex b o n e, ⟨upd_same, ?_, ?_⟩, ?_⟩
            · split
              · exact hM1.nd
              · rename_i hn
                refine List.nodup_append.mpr ⟨hM1.nd, by simp, fun a ha b hb e => ?_⟩
                rw [List.mem_singleton.mp hb] at e
                rw [e] at ha
                exact hn ha
            · intro n hn
              split at hn
              · exact hM1.lt n hn
              · rcases List.mem_append.mp hn with hn | hn
                · exact hM1.lt n hn
                · rw [List.mem_singleton.mp hn]
                  exact hlt
            · split
              · assumption
              · exact List.mem_append_right _ (List.mem_singleton.mpr rfl)
          refine ⟨_, rfl, nl, ns.map (fun n : Nat => (n : Int)), 0, rfl, rfl, SqL.of enl, fun e => ?_, fun n l e => ?_⟩
          · have : ns = [] := List.map_eq_nil_iff.mp e
            refine fin 0 ?_
            rw [← eF, this]
            rfl
          · cases ns with
            | nil => cases e
            | cons n0 l0 =>
              rw [List.map_cons] at e
              obtain ⟨rfl, rfl⟩ := List.cons.inj e
              refine fin _ ?_
              rw [minD_fold, eF]
        · refine ⟨_, rfl, x, dx, _, rfl, hx0, fd_no no_sides, _, rfl, x, aD, N, css, tss, bits, rfl, hF0, fun H2 v ps s2 hps so => ?_⟩
          obtain ⟨pl, pw, rfl, npl, hpl, hpw⟩ := hps
          have s02 := same_trans s0 s2
          have lpw := hpw.length
          have plD : pl ≠ aD := fun e => by rw [e, s02 _ _ hM.ex] at hpl; cases hpl
          have pln : pl ≠ nl := fun e => by rw [e, e0] at npl; cases npl
          refine ⟨pl, rfl, ⟨_, SqL.of hpl⟩, ?_⟩
          refine for_list (K := K) (xs := pw) (fun i σ H' => ∃ (y3 y4 : Option V) (ms' : List Nat), σ = [some (.ref x), some (.int (bits : Int)), some (.ref nl), y3, y4] ∧ (∀ b o, b ≠ aD → b ≠ nl → H2 b = some o → H' b = some o) ∧ MemF H' aD css tss ms' ∧ H' nl = some (.lst ((ps.take i).map fun p => V.int (valP css tss p : Int)))) ⟨none, none, ms, rfl, fun _ _ _ _ h => h, hM.same s02, s2 _ _ e0⟩ ?_ ?_ ?_
          · rintro i σ H' _ ⟨y3, y4, ms', rfl, hE, _⟩
            exact SqL.of (hE _ _ plD pln hpl)
          · rintro i v σ H3 hv ⟨y3, y4, ms', rfl, hE, hM3, enl⟩
            obtain ⟨p, hp, T, rfl, hT⟩ := each_at hpw hv
            have hp' := List.mem_of_getElem? hp
            have li := (List.getElem?_eq_some_iff.mp hp).1
            obtain ⟨t, ht, sp, e1, e2, l1, l2, c1, c2⟩ := sides_mem hlt so hp'
            have TD : T ≠ aD := fun e => by rw [e, s02 _ _ hM.ex] at hT; cases hT
            have Tn : T ≠ nl := fun e => by rw [e, s2 _ _ e0] at hT; cases hT
            have hT3 := hE _ _ TD Tn hT
            have exH : EX aD H H3 := fun b o n h => hE b o n (ne_of_none h nnl) (s02 b o h)
            have hF3 := hF.exD hM.ex exH
            have hx3 := exH _ _ xD hx
            refine ⟨T, _, rfl, SqT.of hT3, rfl, _, _, rfl, _, _, rfl, rfl, ?_⟩
            dsimp only
            refine ⟨_, rfl, .inl ⟨rfl, _, SqL.of enl⟩, _, rfl, x, dx, _, rfl, hx3, fd_no no_fewest, _, rfl, x, aD, N, css, tss, ms', p.1, rfl, hF3, hM3, l1, by omega, fun H4 ms4 ex4 hM4 => ?_⟩
            have hF4 := hF3.exD hM3.ex ex4
            have hx4 := ex4 _ _ xD hx3
            refine ⟨_, rfl, x, dx, _, rfl, hx4, fd_no no_fewest, _, rfl, x, aD, N, css, tss, ms4, p.2, rfl, hF4, hM4, l2, by omega, fun H5 ms5 ex5 hM5 => ?_⟩
            have enl5 := ex5 _ _ nlD (ex4 _ _ nlD enl)
            have lps : ps.length ≤ 40 := so.ln
            refine ⟨_, _, rfl, _, _, rfl, rfl, ?_⟩
            dsimp only
            rw [one_max]
            refine ⟨nl, _, _, rfl, rfl, enl5, by rw [List.length_map, List.length_take]; omega, _, _, ms5, rfl, fun b o n n2 e => ?_, ⟨(upd_ne (Ne.symm nlD)).trans hM5.ex, hM5.nd, hM5.lt⟩, ?_⟩
            · rw [upd_ne n2]
              exact (ex4.trans ex5) b o n (hE b o n n2 e)
            · rw [upd_same, List.take_add_one, hp, List.map_append]
              rfl
          · rintro σ H3 ⟨y3, y4, ms', rfl, hE, hM3, enl⟩
            rw [lpw, List.take_length] at enl
            exact hN2 _ _ ⟨y3, y4, ms', ps, rfl, fun b o n h => hE b o n (ne_of_none h nnl) (s02 b o h), hM3, so, enl⟩
end
end K20
namespace K20
open PySem PySem.Spec PyProof.Rows L2 TL TR QR
open GxR (TabB TabG Tabbed)
open PySem.W (EachIs)
def oN : Option Nat → V
  | none => .non
  | some k => .int (k : Int)
theorem no_val {css tss : Grp} {bits : Nat} (lt : bits < 2 ^ css.length) {t : List Nm} (h : ¬ (bits &&& kindN css t ≠ 0 ∧ bits &&& kindN css t ≠ bits)) : valO tss (namedL css bits) t = none := by
  unfold valO
  rw [if_neg]
  rw [split_bits lt, decide_eq_true_iff]
  exact h
theorem is_val {css tss : Grp} {bits : Nat} (lt : bits < 2 ^ css.length) {t : List Nm} (h : bits &&& kindN css t ≠ 0 ∧ bits &&& kindN css t ≠ bits) :
    valO tss (namedL css bits) t = some (1 + max (fw tss (namedL css (bits &&& kindN css t))) (fw tss (namedL css (bits - (bits &&& kindN css t))))) := by
  unfold valO
  rw [if_pos (by rw [split_bits lt]; exact decide_eq_true h)]
  unfold valT
  rw [named_bad, named_good]
section
variable {P : Program} {w : World} {K : PySem.W.Frag} {mg : Str → Option Value} {base : Heap} {CF : Addr}
def spFT (CF : Addr) (c : Nat) : Sp := fun vs H Q _ => ∃ (x aD : Addr) (N : Addr → Prop) (css tss : Grp) (ms : List Nat) (bits : Nat), vs = [.ref x, .int (bits : Int)] ∧ FdAt CF N H x aD css tss ∧ MemF H aD css tss ms ∧ bits < 2 ^ css.length ∧ (namedL css bits).length < c ∧
  ∀ H' ms', EX aD H H' → MemF H' aD css tss ms' → Q (oN (firstT tss (namedL css bits))) H'
theorem ok_FT {c : Nat} {f fFE : Addr} {fd fdFE : FuncData} (F : Fun K "first_test" "Finder.first_test" sFT f fd) (TF : TxtF K mg CF)
    (MFE : Meth K CF "fewest" fFE) (GFE : FnOk P w K mg base CX0 (c + 2) fFE fdFE ["self", "bits"] (spFE CF c)) (bFE : Binds K fdFE ["self", "bits"] [])
    (m_enumerate : mg "enumerate" = none) (m_max : mg "max" = none) : FnOk P w K mg base CX0 (c + 3) f fd ["self", "bits"] (spFT CF c) := by
  refine F.ok scFT (fun vs H Q E h => ?_) (fun cdv A outer s H vs Q E hr h => ?_)
  · obtain ⟨x, aD, N, css, tss, ms, bits, rfl, _⟩ := h
    rfl
  · obtain ⟨x, aD, N, css, tss, ms, bits, rfl, hF, hM, hlt, hc, q⟩ := h
    have hu := hr.units
    have hu1 := hu_of hr
    have hrF : Room (c + 2) _ := hr
    have zl := zl
    refine ⟨_, (pss_cons (ps_for PassesOwn.never rfl (pi_enum (by rfl) m_enumerate (pa_cons (pe_fld (pv 0) rfl) pa_nil)) (pg_tup (by rfl) (pgs_cons (pg_name (i := 2) scFT.nd rfl (.inl rfl)) (pgs_cons (pg_name (i := 3) scFT.nd rfl (.inl rfl)) pgs_nil)))
      (pss_cons (ps_set (i := 4) scFT.nd rfl (.inl rfl) (pe_op op_and (pv 1) (pv 3)))
      (pss_one (ps_if (PW.pt (pw_and (pt_cmpR op_ne (pv 4) (pe_int) (nomark _)) (pw_and1 (pt_cmpR op_ne (pv 4) (pv 1) (nomark _)))))
      (pss_one (ps_if (pt_cmpR op_eq (pe_op op_add (pe_int) (pe_callB (call_max2 rfl) (by rfl) m_max (by decide +kernel) (pa_cons (pe_meth (pv 0) TF.cl MFE GFE hrF bFE .nil pass0 (pa_cons (pv 4) pa_nil)) (pa_cons (pe_meth (pv 0) TF.cl MFE GFE hrF bFE .nil pass0 (pa_cons (pe_op op_sub (pv 1) (pv 4)) pa_nil)) pa_nil)))) (pe_meth (pv 0) TF.cl MFE GFE hrF bFE .nil pass0 (pa_cons (pv 1) pa_nil)) (nomark _))
      (pss_one (ps_ret (pv 2))) pss_nil)) pss_nil))))
      (pss_one (ps_ret (pe_non)))), ?_⟩
    dsimp only [cxOf, Cx.nox]
    obtain ⟨dx, ba, ka, cv, ks, hx, h2, h3, h4, h5, h6⟩ := id hF.ex
    have xD : x ≠ aD := fun e => by rw [e, hM.ex] at hx; cases hx
    have bD : ba ≠ aD := fun e => by rw [e, hM.ex] at h3; cases h3
    have ltss := hF.lt
    refine ⟨_, rfl, x, CF, dx, _, _, rfl, hx, TF.cl, TF.n3, fd_bad, ba, _, rfl, SqL.of h3, ?_⟩
    refine for_it (walk_enum (K := K) (a := ba) (xs := tss.map fun t => V.int (kindN css t : Int))) (fun i σ H' => ∃ (y2 y3 y4 : Option V) (ms' : List Nat), σ = [some (.ref x), some (.int (bits : Int)), y2, y3, y4] ∧ EX aD H H' ∧ MemF H' aD css tss ms' ∧ ∀ j < i, ∀ u, tss[j]? = some u → valO tss (namedL css bits) u ≠ some (fw tss (namedL css bits)))
      ⟨none, none, none, ms, rfl, EX.refl, hM, fun j hj => absurd hj (Nat.not_lt_zero _)⟩ ?_ ?_ ?_
    · rintro i σ H' _ ⟨y2, y3, y4, ms', rfl, ex, _⟩
      exact SqL.of (ex _ _ bD h3)
    · rintro i y σ H' H1 hi ⟨y2, y3, y4, ms', rfl, ex, hM1, hno⟩ ⟨T, v1, v2, rfl, nT, rfl, e1, e2⟩
      cases e1
      obtain ⟨t, ht, rfl⟩ := map_at e2
      have sT := same_new (o := .tup [V.int (i : Int), V.int (kindN css t : Int)]) nT
      have eT : upd H' T (.tup [V.int (i : Int), V.int (kindN css t : Int)]) T = some (.tup [V.int (i : Int), V.int (kindN css t : Int)]) := upd_same
      have hM2 := hM1.same sT
      have ex2 := ex.trans (EX.same sT)
      generalize upd H' T (.tup [V.int (i : Int), V.int (kindN css t : Int)]) = H2 at eT hM2 ex2
      have hF2 := hF.exD hM.ex ex2
      have hx2 := ex2 _ _ xD hx
      refine ⟨T, _, rfl, SqT.of eT, rfl, _, _, rfl, _, _, rfl, rfl, ?_⟩
      dsimp only
      refine asg_seq ?_
      refine ⟨_, rfl, _, rfl, _, _, rfl, rfl, ?_⟩
      dsimp only
      rw [and_nat]
      have step : ∀ u, tss[i]? = some u → valO tss (namedL css bits) u ≠ some (fw tss (namedL css bits)) → ∀ j < i + 1, ∀ u, tss[j]? = some u → valO tss (namedL css bits) u ≠ some (fw tss (namedL css bits)) := fun u hu hn j hj u' hu' => by
        by_cases z : j < i
        · exact hno j z u' hu'
        · have : j = i := by omega
          subst this
          rw [hu] at hu'
          cases hu'
          exact hn
      refine ifS (p := bits &&& kindN css t ≠ 0 ∧ bits &&& kindN css t ≠ bits) (Sure.and (Sure.neN (j := 0) (.var rfl) .con) fun _ => Sure.neN (.var rfl) (.var rfl)) (fun yes => ?_) fun no => ?_
      · have le : bits &&& kindN css t ≤ bits := Nat.and_le_left
        have sp : splitB t (namedL css bits) = true := by rw [split_bits hlt]; exact decide_eq_true yes
        obtain ⟨c1, c2, _⟩ := split_len sp
        rw [← named_bad] at c1
        rw [← named_good] at c2
        have vl := is_val (tss := tss) hlt yes
        refine ⟨_, rfl, x, dx, _, rfl, hx2, fd_no no_fewest, _, rfl, x, aD, N, css, tss, ms', _, rfl, hF2, hM2, and_lt hlt, by omega, fun H3 ms3 ex3 hM3 => ?_⟩
        have hF3 := hF2.exD hM2.ex ex3
        have hx3 := ex3 _ _ xD hx2
        refine ⟨_, rfl, x, dx, _, rfl, hx3, fd_no no_fewest, _, rfl, _, rfl, _, _, rfl, rfl, x, aD, N, css, tss, ms3, bits - (bits &&& kindN css t), by rw [Int.natCast_sub le]; rfl, hF3, hM3, Nat.lt_of_le_of_lt (Nat.sub_le _ _) hlt, by omega, fun H4 ms4 ex4 hM4 => ?_⟩
        have hF4 := hF3.exD hM3.ex ex4
        have hx4 := ex4 _ _ xD hx3
        refine ⟨_, _, rfl, _, _, rfl, rfl, ?_⟩
        dsimp only
        rw [one_max]
        refine ⟨_, rfl, x, dx, _, rfl, hx4, fd_no no_fewest, _, rfl, x, aD, N, css, tss, ms4, bits, rfl, hF4, hM4, hlt, hc, fun H5 ms5 ex5 hM5 => ⟨rfl, _, rfl, ?_⟩⟩
        have ex25 := ((ex2.trans ex3).trans ex4).trans ex5
        by_cases hv : 1 + max (fw tss (namedL css (bits &&& kindN css t))) (fw tss (namedL css (bits - (bits &&& kindN css t)))) = fw tss (namedL css bits)
        · refine yes_if (decide_eq_true (by rw [hv])) ⟨_, rfl, ?_⟩
          rw [hv] at vl
          have := q H5 ms5 ex25 hM5
          rw [first_is ht vl hno] at this
          exact this
        · refine no_if (decide_eq_false fun z => hv (by have := V.int.inj z; omega)) ⟨_, _, _, ms5, rfl, ex25, hM5, step t ht fun z => hv ?_⟩
          rw [vl] at z
          exact Option.some.inj z
      · exact ⟨_, _, _, ms', rfl, ex2, hM2, step t ht (by rw [no_val hlt no]; exact fun z => nomatch z)⟩
    · rintro σ H' ⟨y2, y3, y4, ms', rfl, ex, hM1, hno⟩
      rw [List.length_map] at hno
      have := q H' ms' ex hM1
      rw [first_not fun t ht => by
        obtain ⟨j, hj⟩ := List.mem_iff_getElem?.mp ht
        exact hno j (List.getElem?_eq_some_iff.mp hj).1 t hj] at this
      exact this
end
end K20
namespace K20
open PySem PySem.Spec PyProof.Rows L2 TL TR QR
open GxR (TabB TabG Tabbed)
open PySem.W (EachIs)
/-- a plan, as tuples -/
def TrAt (N : Addr → Prop) (H : Hp) : V → Pl → Prop
  | v, .found g => ∃ a lv, v = .ref a ∧ H a = some (.tup [.str "found", lv]) ∧ LsAt N H lv g
  | v, .test i b g => ∃ a bv gv, v = .ref a ∧ H a = some (.tup [.str "test", .int i, bv, gv]) ∧ TrAt N H bv b ∧ TrAt N H gv g
theorem TrAt.lf {N : Addr → Prop} {H H' : Hp} (s : LF N H H') : ∀ {t : Pl} {v : V}, TrAt N H v t → TrAt N H' v t
  | .found g, v, ⟨a, lv, e, h1, h2⟩ => ⟨a, lv, e, s.ts _ _ h1, h2.lf s⟩
  | .test i b g, v, ⟨a, bv, gv, e, h1, h2, h3⟩ => ⟨a, bv, gv, e, s.ts _ _ h1, h2.lf s, h3.lf s⟩
theorem TrAt.imp {N N' : Addr → Prop} {H : Hp} (k : ∀ a, N a → N' a) : ∀ {t : Pl} {v : V}, TrAt N H v t → TrAt N' H v t
  | .found g, v, ⟨a, lv, e, h1, h2⟩ => ⟨a, lv, e, h1, h2.imp k⟩
  | .test i b g, v, ⟨a, bv, gv, e, h1, h2, h3⟩ => ⟨a, bv, gv, e, h1, h2.imp k, h3.imp k⟩
theorem EX.none {x y : Addr} {H H' : Hp} {o : HO} (h : H' x = some o) (s : EX x H H') (n : H' y = Option.none) : H y = Option.none := by
  cases e : H y with
  | none => rfl
  | some q =>
    have : y ≠ x := fun z => by rw [z, h] at n; cases n
    rw [s y q this e] at n
    cases n
theorem named_le (css : Grp) (b : Nat) : (namedL css b).length ≤ css.length := by
  unfold namedL enumFM
  rw [List.length_map]
  exact Nat.le_trans (List.length_filter_le _ _) (by rw [List.length_zipIdx]; exact Nat.le_refl _)
section
variable {P : Program} {w : World} {K : PySem.W.Frag} {mg : Str → Option Value} {base : Heap} {CF : Addr}
def spBE (CF : Addr) (d : Nat) : Sp := fun vs H Q _ => ∃ (x aD : Addr) (N : Addr → Prop) (css tss : Grp) (ms : List Nat) (bits : Nat), vs = [.ref x, .int (bits : Int)] ∧ FdAt CF N H x aD css tss ∧ MemF H aD css tss ms ∧ bits < 2 ^ css.length ∧ (namedL css bits).length < d ∧
  ∀ H' ms' v, EX aD H H' → MemF H' aD css tss ms' → TrAt (fun a => H a = none) H' v (bp tss (namedL css bits)) → Q v H'
theorem ok_BE0 {k : Nat} {f : Addr} {fd : FuncData} : FnOk P w K mg base CX0 k f fd ["self", "bits"] (spBE CF 0) :=
  ⟨fun vs H Q E ⟨_, _, _, _, _, _, _, _, _, _, _, h, _⟩ => absurd h (Nat.not_lt_zero _), fun A outer s H args us vs Q E hr he hb hv ⟨_, _, _, _, _, _, _, _, _, _, _, h, _⟩ => absurd h (Nat.not_lt_zero _)⟩
theorem ok_BE {c d : Nat} {f fFT fNMD : Addr} {fd fdFT fdNMD : FuncData} (F : Fun K "best" "Finder.best" sBE f fd) (TF : TxtF K mg CF) (hdc : d + 1 ≤ c)
    (MFT : Meth K CF "first_test" fFT) (GFT : FnOk P w K mg base CX0 (c + 3) fFT fdFT ["self", "bits"] (spFT CF c)) (bFT : Binds K fdFT ["self", "bits"] [])
    (MNMD : Meth K CF "named" fNMD) (GNMD : FnOk P w K mg base CX0 1 fNMD fdNMD ["self", "bits"] (spNM CF)) (bNMD : Binds K fdNMD ["self", "bits"] [])
    (MBE : Meth K CF "best" f) (GBE : FnOk P w K mg base CX0 (c + 3 + d) f fd ["self", "bits"] (spBE CF d)) (bBE : Binds K fd ["self", "bits"] []) :
    FnOk P w K mg base CX0 (c + 3 + d + 1) f fd ["self", "bits"] (spBE CF (d + 1)) := by
  refine F.ok scBE (fun vs H Q E h => ?_) (fun cdv A outer s H vs Q E hr h => ?_)
  · obtain ⟨x, aD, N, css, tss, ms, bits, rfl, _⟩ := h
    rfl
  · obtain ⟨x, aD, N, css, tss, ms, bits, rfl, hF, hM, hlt, hc, q⟩ := h
    have hu := hr.units
    have hu1 := hu_of hr
    have hr1 : Room 1 _ := hr.mono (by omega)
    have hrT : Room (c + 3) _ := hr.mono (by omega)
    have hrB : Room (c + 3 + d) _ := hr
    have zl := zl
    refine ⟨_, (pss_cons (ps_set (i := 2) scBE.nd rfl (.inl rfl) (pe_meth (pv 0) TF.cl MFT GFT hrT bFT .nil pass0 (pa_cons (pv 1) pa_nil)))
      (pss_cons (ps_if (pt_cmpR op_isN (pv 2) (pe_non) (nomark _))
      (pss_one (ps_ret (pe_tup (pa_cons (pe_str) (pa_cons (pe_meth (pv 0) TF.cl MNMD GNMD hr1 bNMD .nil pass0 (pa_cons (pv 1) pa_nil)) pa_nil))))) pss_nil)
      (pss_cons (ps_set (i := 3) scBE.nd rfl (.inl rfl) (pe_op op_and (pv 1) (pe_ix ix_list (pe_fld (pv 0) rfl) (pv 2) (fun _ _ => rfl))))
      (pss_one (ps_ret (pe_tup (pa_cons (pe_str) (pa_cons (pv 2) (pa_cons (pe_meth (pv 0) TF.cl MBE GBE hrB bBE .nil pass0 (pa_cons (pv 3) pa_nil)) (pa_cons (pe_meth (pv 0) TF.cl MBE GBE hrB bBE .nil pass0 (pa_cons (pe_op op_sub (pv 1) (pv 3)) pa_nil)) pa_nil)))))))))), ?_⟩
    dsimp only [cxOf, Cx.nox]
    obtain ⟨dx, ba, ka, cv, ks, hx, h2, h3, h4, h5, h6⟩ := id hF.ex
    have xD : x ≠ aD := fun e => by rw [e, hM.ex] at hx; cases hx
    have bD : ba ≠ aD := fun e => by rw [e, hM.ex] at h3; cases h3
    refine ⟨_, rfl, x, dx, _, rfl, hx, fd_no no_first, _, rfl, x, aD, N, css, tss, ms, bits, rfl, hF, hM, hlt, by omega, fun H1 ms1 ex1 hM1 => name_to ?_⟩
    dsimp only
    have hF1 := hF.exD hM.ex ex1
    have hx1 := ex1 _ _ xD hx
    cases ef : firstT tss (namedL css bits) with
    | none =>
      refine ⟨_, rfl, rfl, _, rfl, yes_if rfl ?_⟩
      have lcs := hF.cs
      have lc := hF.lc
      refine ⟨_, rfl, x, dx, _, rfl, hx1, fd_no no_named, _, rfl, x, dx, _, cv, css, N, bits, rfl, hx1, fd_causes, h2.lf (ex1.lf hM.ex), by omega, lcs, fun H2 v s2 hv => ⟨by show 2 ≤ sizeLine; omega, fun p np => ?_⟩⟩
      have sp := same_new (o := .tup [.str "found", v]) np
      refine q _ ms1 _ ((ex1.trans (EX.same s2)).trans (EX.same sp)) ((hM1.same s2).same sp) ?_
      rw [bp_none ef]
      exact ⟨p, v, rfl, upd_same, (hv.imp fun a n => EX.none hM1.ex ex1 n).lf (Same.lf sp)⟩
    | some i =>
      obtain ⟨t, ht, hs, hv⟩ := first_some ef
      obtain ⟨c1, c2, _⟩ := split_len hs
      rw [← named_bad] at c1
      rw [← named_good] at c2
      have le : bits &&& kindN css t ≤ bits := Nat.and_le_left
      refine ⟨_, rfl, rfl, _, rfl, no_if rfl ?_⟩
      dsimp only [tNext]
      refine asg_seq ?_
      refine ⟨_, rfl, _, rfl, x, CF, dx, _, _, rfl, hx1, TF.cl, TF.n3, fd_bad, _, rfl, ba, _, _, V.int (kindN css t : Int), rfl, rfl, SqL.of (ex1 _ _ bD h3), atI_nat (j := i) (by rw [List.getElem?_map, ht]; rfl), _, _, rfl, rfl, ?_⟩
      dsimp only
      rw [and_nat]
      refine ⟨_, rfl, _, rfl, x, dx, _, rfl, hx1, fd_no no_best, _, rfl, x, aD, N, css, tss, ms1, _, rfl, hF1, hM1, and_lt hlt, by omega, fun H2 ms2 v2 ex2 hM2 hv2 => ?_⟩
      have hF2 := hF1.exD hM1.ex ex2
      have hx2 := ex2 _ _ xD hx1
      refine ⟨_, rfl, x, dx, _, rfl, hx2, fd_no no_best, _, rfl, _, rfl, _, _, rfl, rfl, x, aD, N, css, tss, ms2, bits - (bits &&& kindN css t), by rw [Int.natCast_sub le]; rfl, hF2, hM2, Nat.lt_of_le_of_lt (Nat.sub_le _ _) hlt, by omega, fun H3 ms3 v3 ex3 hM3 hv3 => ⟨by show 4 ≤ sizeLine; omega, fun p np => ?_⟩⟩
      have sp := same_new (o := .tup [.str "test", oN (some i), v2, v3]) np
      have ex13 := (ex1.trans ex2).trans ex3
      refine q _ ms3 _ (ex13.trans (EX.same sp)) (hM3.same sp) ?_
      rw [bp_some ef ht]
      rw [named_bad] at hv2
      rw [named_good] at hv3
      exact ⟨p, v2, v3, rfl, upd_same, ((hv2.imp fun a n => EX.none hM1.ex ex1 n).lf (ex3.lf hM2.ex)).lf (Same.lf sp), (hv3.imp fun a n => EX.none hM2.ex (ex1.trans ex2) n).lf (Same.lf sp)⟩
/-- the methods, for all groups -/
theorem ok_FEs {f fSD : Addr} {fd fdSD : FuncData} (F : Fun K "fewest" "Finder.fewest" sFE f fd) (TF : TxtF K mg CF)
    (MSD : Meth K CF "sides" fSD) (GSD : FnOk P w K mg base CX0 1 fSD fdSD ["self", "bits"] (spSD CF)) (bSD : Binds K fdSD ["self", "bits"] [])
    (MFE : Meth K CF "fewest" f) (bFE : Binds K fd ["self", "bits"] []) (m_min : mg "min" = none) (m_max : mg "max" = none) : ∀ c, FnOk P w K mg base CX0 (c + 2) f fd ["self", "bits"] (spFE CF c)
  | 0 => ok_FE0
  | c + 1 => ok_FE F TF MSD GSD bSD MFE (ok_FEs F TF MSD GSD bSD MFE bFE m_min m_max c) bFE m_min m_max
theorem ok_BEs {c : Nat} {f fFT fNMD : Addr} {fd fdFT fdNMD : FuncData} (F : Fun K "best" "Finder.best" sBE f fd) (TF : TxtF K mg CF)
    (MFT : Meth K CF "first_test" fFT) (GFT : FnOk P w K mg base CX0 (c + 3) fFT fdFT ["self", "bits"] (spFT CF c)) (bFT : Binds K fdFT ["self", "bits"] [])
    (MNMD : Meth K CF "named" fNMD) (GNMD : FnOk P w K mg base CX0 1 fNMD fdNMD ["self", "bits"] (spNM CF)) (bNMD : Binds K fdNMD ["self", "bits"] [])
    (MBE : Meth K CF "best" f) (bBE : Binds K fd ["self", "bits"] []) : ∀ d, d ≤ c → FnOk P w K mg base CX0 (c + 3 + d) f fd ["self", "bits"] (spBE CF d)
  | 0, _ => ok_BE0
  | d + 1, h => ok_BE F TF h MFT GFT bFT MNMD GNMD bNMD MBE (ok_BEs F TF MFT GFT bFT MNMD GNMD bNMD MBE bBE d (by omega)) bBE
end
end K20
namespace K20
open PySem PySem.Spec PyProof.Rows L2 TL TR QR
open GxR (TabB TabG Tabbed)
open PySem.W (EachIs)
theorem lf_ins {N : Addr → Prop} {H : Hp} {x C dx : Addr} {fs : List (Str × V)} {o : HO} (e : H x = some (.ins C dx fs)) : LF N H (upd H x o) :=
  ⟨fun b xs h => (upd_ne fun z => by rw [z, e] at h; cases h).trans h, fun b xs _ h => (upd_ne fun z => by rw [z, e] at h; cases h).trans h⟩
/-- all but the object and the table stays -/
structure FX (x T : Addr) (H H' : Hp) : Prop where
  sm : ∀ b o, b ≠ x → b ≠ T → H b = some o → H' b = some o
  tg : TabG H' T
theorem FX.same {x T : Addr} {H H1 H2 : Hp} (a : FX x T H H1) (s : Same H1 H2) : FX x T H H2 := ⟨fun b o n1 n2 e => s _ _ (a.sm b o n1 n2 e), tab_same a.tg s⟩
theorem FX.tbs {x T : Addr} {H H1 H2 : Hp} (a : FX x T H H1) (s : Tbs [T] H1 H2) : FX x T H H2 := ⟨fun b o n1 n2 e => s.sm _ _ (by simpa using n2) (a.sm b o n1 n2 e), s.tg T (by simp)⟩
theorem FX.ins {x T : Addr} {H H1 : Hp} {C dx : Addr} {fs : List (Str × V)} {o : HO} (a : FX x T H H1) (e : H1 x = some (.ins C dx fs)) : FX x T H (upd H1 x o) := by
  refine ⟨fun b o' n1 n2 h => (upd_ne n1).trans (a.sm b o' n1 n2 h), ?_⟩
  obtain ⟨ps, e1, e2⟩ := a.tg
  exact ⟨ps, (upd_ne fun z => by rw [z, e] at e1; cases e1).trans e1, e2⟩
theorem FX.lf {x T : Addr} {N : Addr → Prop} {H H1 : Hp} {C dx : Addr} {fs : List (Str × V)} (a : FX x T H H1) (e : H x = some (.ins C dx fs)) (t : TabG H T) : LF N H H1 :=
  ⟨fun b xs h => a.sm b _ (fun z => by rw [z, e] at h; cases h) (tab_ne t h fun _ z => nomatch z) h, fun b xs _ h => a.sm b _ (fun z => by rw [z, e] at h; cases h) (tab_ne t h fun _ z => nomatch z) h⟩
theorem tg_one {T : Addr} {H : Hp} (h : TabG H T) : TG [T] H := fun T' h' => by
  rw [List.mem_singleton.mp h']
  exact h
theorem able_I {β : Type} (f : β → Int) (es : List β) : PySem.W.AllAlike (es.map fun e => PyData.int (f e)) ∧ PySem.W.Sortable (es.map fun e => PyData.int (f e)) :=
  ⟨PySem.W.AllAlike.of fun b b' => by simp [PySem.W.alike], PySem.W.Sortable.others fun b => ⟨(fun z => nomatch z), (fun _ z => nomatch z)⟩⟩
abbrev scpP : Scope := { kind := .function, names := [(".0", .local), ("part", .cell), ("causes", .free), ("self", .free)], isGenerator := false, isCoroutine := false }
section
variable {P : Program} {w : World} {K : PySem.W.Frag} {mg : Str → Option Value} {base : Heap} {CF T1 : Addr}
def spFI (CF T1 : Addr) : Sp := fun vs H Q _ => ∃ (x dx : Addr) (cv tv : V) (N : Addr → Prop) (css tss : Grp), vs = [.ref x, cv, tv] ∧ H x = some (.ins CF dx []) ∧ LsAt N H cv css ∧ LsAt N H tv tss ∧ TabG H T1 ∧ css.length ≤ 10 ∧ tss.length ≤ 30 ∧ (∀ c ∈ css, c.length ≤ 1000) ∧
  ∀ H' aD, FX x T1 H H' → H aD = none → FdAt CF (fun a => H a = none) H' x aD css tss → MemF H' aD css tss [] → Q .non H'
theorem ok_FI {f fBO fIB : Addr} {fd fdBO fdIB : FuncData} (F : Fun K "__init__" "Finder.__init__" sFI f fd) (TF : TxtF K mg CF)
    (MBO : Meth K CF "bits_of" fBO) (GBO : FnOk P w K mg base CX0 1 fBO fdBO ["self", "words"] spBO) (bBO : Binds K fdBO ["self", "words"] [])
    (GIB : FnOk P w K mg base CX0 2 fIB fdIB ["part", "cause"] (spIB T1)) (bIB : Binds K fdIB ["part", "cause"] []) (gIB : mg "is_bad" = some (.ref fIB)) (kIB : PySem.W.keepIn K (.ref fIB) = true)
    (m_list : mg "list" = none) (m_len : mg "len" = none) (m_sorted : mg "sorted" = none) (m_set : mg "set" = none) : FnOk P w K mg base CX0 3 f fd ["self", "causes", "tests"] (spFI CF T1) := by
  refine F.ok scFI (fun vs H Q E h => ?_) (fun cdv A outer s H vs Q E hr h => ?_)
  · obtain ⟨x, dx, cv, tv, N, css, tss, rfl, _⟩ := h
    rfl
  · obtain ⟨x, dx, cv, tv, N, css, tss, rfl, hx, hcs, hts, tg, lc, lt, lcs, q⟩ := h
    have hu := hr.units
    have hu1 := hu_of hr
    have hr1 : Room 1 _ := hr.mono (by decide)
    have hr2 : Room 2 _ := hr.mono (by decide)
    have zl := zl
    refine ⟨_, (pss_cons (ps_fld (pv 0) (pe_lc (own := [("cause", 3)]) (g := gName 3) (tt := tYes) (te := tCB (fun xs H Q => ∃ p ys, xs = [.ref p] ∧ (SqL K H p ys ∨ SqT K H p ys) ∧ ∀ l, H l = none → Q (.ref l) (upd H l (.lst ys))) (tCons (tVar 3) tNil)) rfl scFI.nd (pi_list (pv 1)) (blkOk_by (N := nFI) (sc := defScope sFI) (by decide +kernel)) (fun _ _ _ _ _ => by exact pg_name (i := 3) scFI.nd rfl (.inl rfl)) (fun _ _ _ _ _ => pts_nil) (fun _ _ _ _ _ => by exact pe_callTy call_list_of (by rfl) m_list (by decide +kernel) (pa_cons (pv 3) pa_nil))) rfl)
      (pss_cons (ps_fld (pv 0) (pe_op op_sub (pe_op op_shl (pe_int) (pe_callB call_len_seq (by rfl) m_len PySem.boot_len (pa_cons (pv 1) pa_nil))) (pe_int)) rfl)
      (pss_cons (ps_fld (pv 0) (pe_lc (own := [("part", 4)]) (g := gName 4) (tt := tYes) (te := tMeth CF "bits_of" spBO [] E0 (tVar 0) (tCons (tLc (iList K (tVar 1)) (gName 3) (tYes) (tCall (spIB T1) [] E0 (tCons (tVar 4) (tCons (tVar 3) tNil))) [3]) tNil)) rfl scFI.nd (pi_list (pv 2)) (blkOk_by (N := nFI) (sc := defScope sFI) (by decide +kernel)) (fun _ _ _ _ _ => by exact pg_name (i := 4) scFI.nd rfl (.inr rfl)) (fun _ _ _ _ _ => pts_nil) (fun _ _ _ _ _ => by exact pe_meth (pv 0) TF.cl MBO GBO hr1 bBO .nil pass0 (pa_cons (pe_lc (own := [("cause", 3)]) (g := gName 3) (tt := tYes) (te := tCall (spIB T1) [] E0 (tCons (tVar 4) (tCons (tVar 3) tNil))) rfl scFI.nd (pi_list (pv 1)) (blkOk_by (N := nFI) (sc := relS scpP (defScope sFI)) (by decide +kernel)) (fun _ _ _ _ _ => by exact pg_name (i := 3) scFI.nd rfl (.inl rfl)) (fun _ _ _ _ _ => pts_nil) (fun _ _ _ _ _ => by exact pe_call GIB hr2 (by rfl) gIB kIB bIB .nil pass0 (pa_cons (pv 4) (pa_cons (pv 3) pa_nil)))) pa_nil))) rfl)
      (pss_cons (ps_fld (pv 0) (pe_callB (GS.cr_sorted (T := (GS.etI P w)) rfl hu) (by rfl) m_sorted (by decide +kernel) (pa_cons (pe_callTy (GS.cr_set (T := (GS.etI P w)) rfl hu) (by rfl) m_set (by decide +kernel) (pa_cons (pe_fld (pv 0) rfl) pa_nil)) pa_nil)) rfl)
      (pss_one (ps_fld (pv 0) (pe_dnewK) rfl)))))), ?_⟩
    dsimp only [cxOf, Cx.nox]
    obtain ⟨ca, cw, rfl, nca, hca, hcw⟩ := hcs
    obtain ⟨ta, tw, rfl, nta, hta, htw⟩ := hts
    have lcw := hcw.length
    have ltw := htw.length
    -- causes
    refine fld_seq ?_
    refine lc_gen (R := fun H' v c => NsAt N H' v c) (S := fun D H' v c => NsAt (fun a => H a = none ∧ a ≠ D) H' v c) (fun _ => true) (fun c => c) (.var rfl) hca (by omega) (fun H' s => hcw.mono fun _ _ z => z.lf (Same.lf s))
      (fun h k z => z.lf ⟨ts_but h k, fun a xs n e => k a _ n.2 e⟩) (fun v c H' hc s hv Q' hq => hq) (fun v c H' D hc _ s hv hD Q' hq => ?_) fun D us H1 s1 nD eD hus => ?_
    · obtain ⟨a1, w1, rfl, _, h1, h2⟩ := hv
      have lc1 := lcs c hc
      refine ⟨_, rfl, a1, w1, rfl, .inl (SqL.of h1), fun l nl => ?_⟩
      have sl := same_new (o := .lst w1) nl
      refine hq _ _ sl ⟨l, w1, rfl, ⟨same_none s nl, fun z => ?_⟩, upd_same, each_nm (Same.ts sl) h2⟩
      obtain ⟨us, hD⟩ := hD
      rw [z, hD] at nl
      cases nl
    rw [List.map_id', List.filter_eq_self.mpr fun _ _ => rfl] at hus
    have hD1 : LsAt (fun a => H a = none) H1 (.ref D) css := ⟨D, us, rfl, nD, eD, hus.mono fun _ _ z => z.imp fun a h => h.1⟩
    have hx1 := s1 _ _ hx
    refine ⟨_, rfl, x, CF, dx, [], rfl, hx1, TF.cl, TF.n1, by show 0 < 1000; decide, ?_⟩
    have fx1 : FX x T1 H (upd H1 x (.ins CF dx (putF "causes" (.ref D) []))) := FX.ins (⟨fun b o _ _ e => s1 b o e, tab_same tg s1⟩ : FX x T1 H H1) hx1
    have hD2 := hD1.lf (lf_ins (o := .ins CF dx (putF "causes" (.ref D) [])) hx1)
    have hx2 : upd H1 x (.ins CF dx (putF "causes" (.ref D) [])) x = some (.ins CF dx (putF "causes" (.ref D) [])) := upd_same
    generalize upd H1 x (.ins CF dx (putF "causes" (.ref D) [])) = H2 at fx1 hD2 hx2
    clear hus eD hD1 hx1 s1
    -- all_bits
    have lfN : ∀ {H' : Hp}, FX x T1 H H' → LF N H H' := fun fx => fx.lf hx tg
    refine fld_seq ?_
    have hca2 := (lfN fx1).ls _ _ nca hca
    refine ⟨_, rfl, ca, cw, rfl, .inl (SqL.of hca2), _, _, rfl, rfl, ⟨by omega, by omega, by decide⟩, _, _, rfl, rfl, ?_⟩
    have e1 : (1 : Int) * 2 ^ ((cw.length : Nat) : Int).toNat - 1 = ((2 ^ css.length - 1 : Nat) : Int) := by
      rw [pow_cast, lcw]
      have := Nat.two_pow_pos css.length
      omega
    dsimp only
    rw [e1]
    refine ⟨_, rfl, x, CF, dx, _, rfl, hx2, TF.cl, TF.n2, by show 1 < 1000; decide, ?_⟩
    have fx2 := fx1.ins (o := .ins CF dx (putF "all_bits" (.int ((2 ^ css.length - 1 : Nat) : Int)) (putF "causes" (.ref D) []))) hx2
    have hD3 := hD2.lf (lf_ins (o := .ins CF dx (putF "all_bits" (.int ((2 ^ css.length - 1 : Nat) : Int)) (putF "causes" (.ref D) []))) hx2)
    have hx3 : upd H2 x (.ins CF dx (putF "all_bits" (.int ((2 ^ css.length - 1 : Nat) : Int)) (putF "causes" (.ref D) []))) x = some (.ins CF dx (putF "all_bits" (.int ((2 ^ css.length - 1 : Nat) : Int)) (putF "causes" (.ref D) []))) := upd_same
    generalize upd H2 x (.ins CF dx (putF "all_bits" (.int ((2 ^ css.length - 1 : Nat) : Int)) (putF "causes" (.ref D) []))) = H3 at fx2 hD3 hx3
    clear hca2 hD2 hx2 fx1
    -- bad_bits
    refine fld_seq ?_
    have lf3 := lfN fx2
    have no_b : (putF "all_bits" (.int ((2 ^ css.length - 1 : Nat) : Int)) (putF "causes" (.ref D) []) : List (Str × V)).lookup ("bits_of" : Str) = none := by
      rw [lookup_putF, if_neg (by decide +kernel), lookup_putF, if_neg (by decide +kernel)]
      rfl
    refine lc_genT (Ts := [T1]) (R := fun H' v c => NsAt N H' v c) (S := fun _ _ v n => v = V.int ((n : Nat) : Int)) (fun t => kindN css t) (tg_one fx2.tg) (.var rfl) (lf3.ls _ _ nta hta) (by omega) (fun H' s => htw.mono fun _ _ z => (z.lf lf3).lf (s.lf (tg_one fx2.tg)))
      (fun _ _ _ z => z) (fun v t H' B ht s hv hB Q' hq => ?_) fun B us H4 t4 nB eB hus => ?_
    · obtain ⟨a1, w1, rfl, _, h1, h2⟩ := hv
      have lf' := lf3.trans (s.lf (tg_one fx2.tg))
      refine ⟨_, rfl, x, dx, _, rfl, s.at_ (tg_one fx2.tg) hx3 (fun _ z => nomatch z), no_b, ?_⟩
      refine lc_genT (Ts := [T1]) (R := fun H' v c => NsAt N H' v c) (S := fun _ _ v b => v = V.bl b) (badB t) s.tg (.var rfl) (lf'.ls _ _ nca hca) (by omega) (fun H5 s5 => hcw.mono fun _ _ z => (z.lf lf').lf (s5.lf s.tg))
        (fun _ _ _ z => z) (fun v c H5 B5 hc s5 hv5 hB5 Q5 hq5 => ?_) fun B5 us5 H5 t5 nB5 eB5 hus5 => ?_
      · obtain ⟨a2, w2, rfl, _, h3, h4⟩ := hv5
        refine ⟨_, rfl, _, rfl, a1, a2, w1, w2, t, c, rfl, (s5.lst s.tg h1), each_nm (s5.ts s.tg) h2, h3, h4, s5.tg T1 (by simp), fun H6 t6 => hq5 _ H6 ((Tbs.refl s5.tg).tab t6 (by simp)) rfl⟩
      · have eu : us5 = (css.map (badB t)).map V.bl := by
          have : ∀ {ws : List V} {bs : List Bool}, EachIs (fun v b => v = V.bl b) ws bs → ws = bs.map V.bl := by
            intro ws bs h
            induction h with
            | nil => rfl
            | cons h _ ih => rw [h, ih]; rfl
          exact this hus5
        rw [eu] at eB5
        refine ⟨x, B5, css.map (badB t), rfl, eB5, by rw [List.length_map]; omega, fun H6 s6 => hq _ H6 (t5.same s6) rfl⟩
    have eu : us = tss.map fun t => V.int (kindN css t : Int) := by
      have : ∀ {ws : List V} {ns : List Nat}, EachIs (fun v n => v = V.int ((n : Nat) : Int)) ws ns → ws = ns.map fun n : Nat => V.int (n : Int) := by
        intro ws ns h
        induction h with
        | nil => rfl
        | cons h _ ih => rw [h, ih]; rfl
      rw [this hus, List.map_map]
      rfl
    subst eu
    clear hus
    have hx4 := t4.at_ (tg_one fx2.tg) hx3 (fun _ z => nomatch z)
    have fx4 := fx2.tbs t4
    have hD4 := hD3.lf (t4.lf (tg_one fx2.tg))
    have lfT : LF (fun _ => True) H3 H4 := t4.lf (tg_one fx2.tg)
    refine ⟨_, rfl, x, CF, dx, _, rfl, hx4, TF.cl, TF.n3, by show 2 < 1000; decide, ?_⟩
    have fx5 := fx4.ins (o := .ins CF dx (putF "bad_bits" (.ref B) (putF "all_bits" (.int ((2 ^ css.length - 1 : Nat) : Int)) (putF "causes" (.ref D) [])))) hx4
    have hD5 := hD4.lf (lf_ins (o := .ins CF dx (putF "bad_bits" (.ref B) (putF "all_bits" (.int ((2 ^ css.length - 1 : Nat) : Int)) (putF "causes" (.ref D) [])))) hx4)
    have eB5 := (lf_ins (N := fun _ => True) (o := .ins CF dx (putF "bad_bits" (.ref B) (putF "all_bits" (.int ((2 ^ css.length - 1 : Nat) : Int)) (putF "causes" (.ref D) [])))) hx4).ls _ _ trivial eB
    have hx5 : upd H4 x (.ins CF dx (putF "bad_bits" (.ref B) (putF "all_bits" (.int ((2 ^ css.length - 1 : Nat) : Int)) (putF "causes" (.ref D) [])))) x = some (.ins CF dx (putF "bad_bits" (.ref B) (putF "all_bits" (.int ((2 ^ css.length - 1 : Nat) : Int)) (putF "causes" (.ref D) [])))) := upd_same
    generalize upd H4 x (.ins CF dx (putF "bad_bits" (.ref B) (putF "all_bits" (.int ((2 ^ css.length - 1 : Nat) : Int)) (putF "causes" (.ref D) [])))) = H5 at fx5 hD5 eB5 hx5
    clear lfT hD4 fx4 hx4 eB nB t4 lf3 hD3 fx2
    have lkb : (putF "bad_bits" (.ref B) (putF "all_bits" (.int ((2 ^ css.length - 1 : Nat) : Int)) (putF "causes" (.ref D) [])) : List (Str × V)).lookup ("bad_bits" : Str) = some (.ref B) := by rw [lookup_putF, if_pos rfl]
    -- kinds
    refine fld_seq ?_
    have hG : ∀ {H' : Hp} {es : List (Int × V)}, (∀ e ∈ es, e ∈ tss.map fun t => (((kindN css t : Int), V.int (kindN css t : Int)) : Int × V)) → GS.ElsAt (GS.etI P w) K H' es := fun {H' es} h e he => by
      obtain ⟨t, _, rfl⟩ := List.mem_map.mp (h e he)
      exact .int _
    refine ⟨_, rfl, x, CF, dx, _, _, rfl, hx5, TF.cl, TF.n3, lkb, B, tss.map fun t => (((kindN css t : Int), V.int (kindN css t : Int)) : Int × V), rfl, .inl (by rw [List.map_map]; exact SqL.of eB5), hG fun _ h => h, by rw [List.length_map]; omega, fun p es H6 s6 np ep out => ?_⟩
    obtain ⟨al, so⟩ := able_I (fun e : Int × V => e.1) es
    refine ⟨p, es, rfl, ep, hG out.2.1, al, so, fun p2 fs H7 s7 np2 ep2 pm => ?_⟩
    have pe : (GS.sortE PyData.int fs).Perm es := (GS.sortE_perm PyData.int fs).trans pm
    have ep2 : H7 p2 = some (.lst ((GS.sortE PyData.int fs).map (·.2))) := ep2
    generalize GS.sortE PyData.int fs = gs at ep2 pe
    have eg : gs.map (·.2) = (gs.map fun e => e.1.toNat).map fun n : Nat => V.int (n : Int) := by
      rw [List.map_map]
      refine List.map_congr_left fun e he => ?_
      obtain ⟨t, _, rfl⟩ := List.mem_map.mp (out.2.1 e (pe.mem_iff.mp he))
      show V.int (kindN css t : Int) = V.int (((kindN css t : Int).toNat : Nat) : Int)
      rw [Int.toNat_natCast]
    have mm : ∀ n, n ∈ (gs.map fun e => e.1.toNat) ↔ ∃ t ∈ tss, kindN css t = n := fun n => by
      constructor
      · intro h
        obtain ⟨e, he, rfl⟩ := List.mem_map.mp h
        obtain ⟨t, ht, rfl⟩ := List.mem_map.mp (out.2.1 e (pe.mem_iff.mp he))
        exact ⟨t, ht, (Int.toNat_natCast _).symm⟩
      · rintro ⟨t, ht, rfl⟩
        obtain ⟨e, he, ee⟩ := List.mem_map.mp (out.2.2 _ (List.mem_map.mpr ⟨t, ht, rfl⟩))
        refine List.mem_map.mpr ⟨e, pe.mem_iff.mpr he, ?_⟩
        have ee : e.1 = (kindN css t : Int) := ee
        rw [ee, Int.toNat_natCast]
    have lg : (gs.map fun e => e.1.toNat).length ≤ 40 := by
      rw [List.length_map, pe.length_eq]
      have := nd_len out.1 (m := (tss.map fun t => (((kindN css t : Int), V.int (kindN css t : Int)) : Int × V)).map (·.1)) fun k hk => by
        obtain ⟨e, he, rfl⟩ := List.mem_map.mp hk
        exact List.mem_map.mpr ⟨e, out.2.1 e he, rfl⟩
      rw [List.length_map, List.length_map, List.length_map] at this
      omega
    rw [eg] at ep2
    generalize (gs.map fun e => e.1.toNat) = ks at ep2 mm lg
    clear eg pe pm out al so ep hG
    have s57 := same_trans s6 s7
    have hx7 := s57 _ _ hx5
    refine ⟨_, rfl, x, CF, dx, _, rfl, hx7, TF.cl, TF.n4, by show 3 < 1000; decide, ?_⟩
    have fx8 := (fx5.same s57).ins (o := .ins CF dx (putF "kinds" (.ref p2) (putF "bad_bits" (.ref B) (putF "all_bits" (.int ((2 ^ css.length - 1 : Nat) : Int)) (putF "causes" (.ref D) []))))) hx7
    have lf8 : ∀ {N : Addr → Prop}, LF N H5 (upd H7 x (.ins CF dx (putF "kinds" (.ref p2) (putF "bad_bits" (.ref B) (putF "all_bits" (.int ((2 ^ css.length - 1 : Nat) : Int)) (putF "causes" (.ref D) [])))))) := fun {N} => (Same.lf s57).trans (lf_ins hx7)
    have hD8 := hD5.lf lf8
    have eB8 := (lf8 (N := fun _ => True)).ls _ _ trivial eB5
    have eK8 := (lf_ins (N := fun _ => True) (o := .ins CF dx (putF "kinds" (.ref p2) (putF "bad_bits" (.ref B) (putF "all_bits" (.int ((2 ^ css.length - 1 : Nat) : Int)) (putF "causes" (.ref D) []))))) hx7).ls _ _ trivial ep2
    have hx8 : upd H7 x (.ins CF dx (putF "kinds" (.ref p2) (putF "bad_bits" (.ref B) (putF "all_bits" (.int ((2 ^ css.length - 1 : Nat) : Int)) (putF "causes" (.ref D) []))))) x = some (.ins CF dx (putF "kinds" (.ref p2) (putF "bad_bits" (.ref B) (putF "all_bits" (.int ((2 ^ css.length - 1 : Nat) : Int)) (putF "causes" (.ref D) []))))) := upd_same
    clear lf8
    generalize upd H7 x (.ins CF dx (putF "kinds" (.ref p2) (putF "bad_bits" (.ref B) (putF "all_bits" (.int ((2 ^ css.length - 1 : Nat) : Int)) (putF "causes" (.ref D) []))))) = H8 at fx8 hD8 eB8 eK8 hx8
    -- least
    refine fun aD naD => ?_
    have sA := same_new (o := .dK []) naD
    have eA : upd H8 aD (.dK []) aD = some (.dK []) := upd_same
    generalize upd H8 aD (.dK []) = H9 at sA eA
    have hx9 := sA _ _ hx8
    refine ⟨_, rfl, x, CF, dx, _, rfl, hx9, TF.cl, TF.n5, by show 4 < 1000; decide, ?_⟩
    have xA : aD ≠ x := fun z => by rw [z, hx8] at naD; cases naD
    have fx9 := (fx8.same sA).ins (o := .ins CF dx (fdF (.ref D) (.ref B) (.ref p2) ((2 ^ css.length - 1 : Nat) : Int) aD)) hx9
    have lf9 : ∀ {N : Addr → Prop}, LF N H8 (upd H9 x (.ins CF dx (fdF (.ref D) (.ref B) (.ref p2) ((2 ^ css.length - 1 : Nat) : Int) aD))) := fun {N} => (Same.lf sA).trans (lf_ins hx9)
    refine q (upd H9 x (.ins CF dx (fdF (.ref D) (.ref B) (.ref p2) ((2 ^ css.length - 1 : Nat) : Int) aD))) aD fx9 ?_ ⟨⟨dx, B, p2, .ref D, ks, upd_same, hD8.lf lf9, (lf9 (N := fun _ => True)).ls _ _ trivial eB8, (lf9 (N := fun _ => True)).ls _ _ trivial eK8, mm, lg⟩, lc, lt, lcs⟩ ⟨(upd_ne xA).trans eA, List.nodup_nil, (fun _ h => nomatch h)⟩
    cases e : H aD with
    | none => rfl
    | some o =>
      by_cases zt : aD = T1
      · obtain ⟨ps, e1, _⟩ := fx8.tg
        rw [← zt, naD] at e1
        cases e1
      · rw [fx8.sm aD o xA zt e] at naD
        cases naD
end
end K20
namespace K20
open PySem PySem.Spec PyProof.Rows L2 TL TR QR
open GxR (TabB TabG Tabbed)
open PySem.W (EachIs)
def szP : Pl → Nat
  | .found _ => 1
  | .test _ a b => 1 + szP a + szP b
theorem szP_pos (t : Pl) : 0 < szP t := by
  cases t with
  | found g => exact Nat.one_pos
  | test i a b =>
    show 0 < 1 + szP a + szP b
    omega
def szS (S : List (Pl × Nat)) : Nat := (S.map fun p => szP p.1).sum
theorem szS_snoc (S : List (Pl × Nat)) (p : Pl × Nat) : szS (S ++ [p]) = szS S + szP p.1 := by
  unfold szS
  rw [List.map_append, List.sum_append, List.map_cons, List.sum_cons]
  rfl
theorem szS_len : ∀ S : List (Pl × Nat), S.length ≤ szS S
  | [] => Nat.le_refl _
  | p :: S => by
    have := szS_len S
    have := szP_pos p.1
    show S.length + 1 ≤ ((p :: S).map fun p => szP p.1).sum
    rw [List.map_cons, List.sum_cons]
    unfold szS at *
    omega
def mxS (S : List (Pl × Nat)) : Nat := S.foldr (fun p a => max (p.2 + depthP p.1) a) 0
theorem mxS_app : ∀ S T : List (Pl × Nat), mxS (S ++ T) = max (mxS S) (mxS T)
  | [], T => by
    show mxS T = max 0 (mxS T)
    omega
  | p :: S, T => by
    show max _ (mxS (S ++ T)) = max (max _ (mxS S)) (mxS T)
    rw [mxS_app S T]
    omega
/-- a tuple of a plan and a number -/
def StP (N : Addr → Prop) (H : Hp) (v : V) (p : Pl × Nat) : Prop := ∃ t tv, v = .ref t ∧ H t = some (.tup [tv, .int (p.2 : Int)]) ∧ TrAt N H tv p.1
theorem StP.lf {N : Addr → Prop} {H H' : Hp} {v : V} {p : Pl × Nat} (s : LF N H H') : StP N H v p → StP N H' v p := fun ⟨t, tv, e, h1, h2⟩ => ⟨t, tv, e, s.ts _ _ h1, h2.lf s⟩
/-- the last of a list -/
theorem each_last {α : Type} {R : V → α → Prop} {ws : List V} {xs : List α} (h : EachIs R ws xs) (ne : ws ≠ []) : ∃ us u ys y, ws = us ++ [u] ∧ xs = ys ++ [y] ∧ EachIs R us ys ∧ R u y := by
  induction h with
  | nil => exact absurd rfl ne
  | cons h t ih =>
    rename_i w x ws xs
    cases t with
    | nil => exact ⟨[], w, [], x, rfl, rfl, .nil, h⟩
    | cons h2 t2 =>
      obtain ⟨us, u, ys, y, e1, e2, h3, h4⟩ := ih (by simp)
      exact ⟨w :: us, u, x :: ys, y, by rw [e1]; rfl, by rw [e2]; rfl, .cons h h3, h4⟩
theorem last_ix (us : List V) (u : V) : (us ++ [u])[(us ++ [u]).length - 1]? = some u := by
  rw [List.length_append, show us.length + [u].length - 1 = us.length by simp, List.getElem?_append_right (Nat.le_refl _), Nat.sub_self]
  rfl
/-- the heads of plans -/
theorem found_ne : ("found" : Str) ≠ "test" := by decide +kernel
theorem lst_lf {N : Addr → Prop} {H : Hp} {a : Addr} {xs ys : List V} (e : H a = some (.lst xs)) (h : ¬ N a) : LF N H (upd H a (.lst ys)) := lf_upd e h
section
variable {P : Program} {w : World} {K : PySem.W.Frag} {mg : Str → Option Value} {base : Heap} {CF T1 : Addr}
def spDE : Sp := fun vs H Q _ => ∃ (tv : V) (N : Addr → Prop) (t : Pl), vs = [tv] ∧ TrAt N H tv t ∧ szP t ≤ 1000 ∧ ∀ H', Same H H' → Q (.int (depthP t : Int)) H'
abbrev sDE : Stmt := topS 4
abbrev nDE : List Str := ["tree", "most", "stack", "part", "many"]
theorem scDE : FnScope nDE ["tree"] (defScope sDE) := ⟨rfl, rfl, rfl, by decide +kernel, rfl, by decide +kernel, by decide +kernel⟩
theorem ok_DE {f : Addr} {fd : FuncData} (F : Fun K "depth" "depth" sDE f fd)
    (m_max : mg "max" = none) : FnOk P w K mg base CX0 1 f fd ["tree"] spDE := by
  refine F.ok scDE (fun vs H Q E h => ?_) (fun cdv A outer s H vs Q E hr h => ?_)
  · obtain ⟨tv, N, t, rfl, _⟩ := h
    rfl
  · obtain ⟨tv, N, t, rfl, ht, lt, q⟩ := h
    have hu := hr.units
    have hu1 := hu_of hr
    have zl := zl
    refine ⟨_, (pss_cons (ps_par (i := 1) (j := 2) (by rfl) scDE.nd rfl rfl (by decide) rfl rfl (pa_cons (pe_int) (pa_cons (pe_lst (pa_cons (pe_tup (pa_cons (pv 0) (pa_cons (pe_int) pa_nil))) pa_nil)) pa_nil)) (by rfl))
      (pss_cons (ps_while PassesOwn.never (pt_truth (pv 2) (by intro _; rfl))
      (pss_cons (ps_asg (pe_bm0 PySem.F.plainAttrs_list PySem.F.slot_list_pop PySem.F.type_list_pop mt_pop (pv 2)) (pg_tup (by rfl) (pgs_cons (pg_name (i := 3) scDE.nd rfl (.inl rfl)) (pgs_cons (pg_name (i := 4) scDE.nd rfl (.inl rfl)) pgs_nil))))
      (pss_cons (ps_set (i := 1) scDE.nd rfl (.inl rfl) (pe_callB (call_max2 rfl) (by rfl) m_max (by decide +kernel) (pa_cons (pv 1) (pa_cons (pv 4) pa_nil))))
      (pss_one (ps_if (pt_cmpR op_eq (pe_ix ix_tup (pv 3) (pe_int) (fun _ _ => rfl)) (pe_str) (nomark _))
      (pss_one (ps_expr (pe_bm PySem.F.plainAttrs_list PySem.F.slot_list_extend PySem.F.type_list_extend mt_extend (pv 2) (pa_cons (pe_lst (pa_cons (pe_tup (pa_cons (pe_ix ix_tup (pv 3) (pe_int) (fun _ _ => rfl)) (pa_cons (pe_op op_add (pv 4) (pe_int)) pa_nil))) (pa_cons (pe_tup (pa_cons (pe_ix ix_tup (pv 3) (pe_int) (fun _ _ => rfl)) (pa_cons (pe_op op_add (pv 4) (pe_int)) pa_nil))) pa_nil))) pa_nil)))) pss_nil)))))
      (pss_one (ps_ret (pv 1))))), ?_⟩
    dsimp only [cxOf, Cx.nox]
    refine ⟨_, rfl, by show 2 ≤ sizeLine; omega, fun t0 nt0 => ?_⟩
    have st0 := same_new (o := .tup [tv, .int 0]) nt0
    have et0 : upd H t0 (.tup [tv, .int 0]) t0 = some (.tup [tv, .int 0]) := upd_same
    generalize upd H t0 (.tup [tv, .int 0]) = H0 at st0 et0
    refine ⟨by show 1 ≤ sizeLine; omega, fun sk nsk => ?_⟩
    have sk0 := same_new (o := .lst [.ref t0]) nsk
    have esk : upd H0 sk (.lst [.ref t0]) sk = some (.lst [.ref t0]) := upd_same
    have nskH : H sk = none := same_none st0 nsk
    have s1 := same_trans st0 sk0
    have et1 := sk0 _ _ et0
    generalize upd H0 sk (.lst [.ref t0]) = H1 at s1 esk et1
    clear st0 et0 nt0 sk0 nsk
    refine ⟨_, _, rfl, ?_⟩
    dsimp only
    have hN : ¬ (H sk ≠ none) := fun z => z nskH
    have ht' : TrAt (fun a => N a ∧ H a ≠ none) H tv t := by
      have : ∀ (t : Pl) (v : V), TrAt N H v t → TrAt (fun a => N a ∧ H a ≠ none) H v t := by
        intro t
        induction t with
        | found g =>
          rintro v ⟨a, lv, e, h1, b, bw, e2, n, h2, h3⟩
          refine ⟨a, lv, e, h1, b, bw, e2, ⟨n, by rw [h2]; exact fun z => nomatch z⟩, h2, h3.mono fun _ _ ⟨c, cw, e3, n3, h4, h5⟩ => ⟨c, cw, e3, ⟨n3, by rw [h4]; exact fun z => nomatch z⟩, h4, h5⟩⟩
        | test i b g ih1 ih2 =>
          rintro v ⟨a, bv, gv, e, h1, h2, h3⟩
          exact ⟨a, bv, gv, e, h1, ih1 _ h2, ih2 _ h3⟩
      exact this t tv ht
    have hns : ¬ (N sk ∧ H sk ≠ none) := fun z => z.2 nskH
    clear ht
    refine ⟨fun m σ H' => ∃ (mo : Nat) (y3 y4 : Option V) (S : List (Pl × Nat)) (sw : List V), σ = [some tv, some (.int (mo : Int)), some (.ref sk), y3, y4] ∧ m = szS S ∧ m ≤ szP t ∧ Same H H' ∧ H' sk = some (.lst sw) ∧ EachIs (StP (fun a => N a ∧ H a ≠ none) H') sw S ∧ max mo (mxS S) = depthP t, ⟨_, 0, none, none, [(t, 0)], [.ref t0], rfl, rfl, Nat.le_refl _, s1, esk, .cons ⟨t0, tv, rfl, et1, ht'.lf (Same.lf s1)⟩ .nil, ?_⟩, ?_⟩
    · show max 0 (max (0 + depthP t) 0) = depthP t
      omega
    · rintro m σ H2 ⟨mo, y3, y4, S, sw, rfl, rfl, lm, s2, esk2, hS, hmx⟩
      refine ⟨_, rfl, !sw.isEmpty, .inl ⟨sw, SqL.of esk2, rfl⟩, ?_⟩
      by_cases ne : sw = []
      · rw [ne] at hS ⊢
        cases hS
        refine no_if rfl ⟨_, rfl, ?_⟩
        have e0 : max mo (mxS []) = mo := Nat.max_eq_left (Nat.zero_le _)
        rw [e0] at hmx
        rw [hmx]
        exact q H2 s2
      · obtain ⟨us, u, S0, p, rfl, rfl, hS0, t2, pv, rfl, et2, hp⟩ := each_last hS ne
        rw [szS_snoc] at lm
        rw [mxS_app] at hmx
        have emx : mxS [p] = p.2 + depthP p.1 := Nat.max_eq_left (Nat.zero_le _)
        rw [emx] at hmx
        refine yes_if (by cases us <;> rfl) ?_
        refine ⟨fun σ' H' => ∃ m', m' < szS (S0 ++ [p]) ∧ ∃ (mo : Nat) (y3 y4 : Option V) (S : List (Pl × Nat)) (sw : List V), σ' = [some tv, some (.int (mo : Int)), some (.ref sk), y3, y4] ∧ m' = szS S ∧ m' ≤ szP t ∧ Same H H' ∧ H' sk = some (.lst sw) ∧ EachIs (StP (fun a => N a ∧ H a ≠ none) H') sw S ∧ max mo (mxS S) = depthP t, fun _ _ z => z, ?_⟩
        refine ⟨_, rfl, .inl ⟨rfl, _, SqL.of esk2⟩, sk, _, _, rfl, rfl, esk2, last_ix us _, ?_⟩
        rw [List.dropLast_concat]
        have lf3 : LF (fun a => N a ∧ H a ≠ none) H2 (upd H2 sk (.lst us)) := lf_upd esk2 hns
        have s3 : Same H (upd H2 sk (.lst us)) := same_upd nskH s2
        have esk3 : upd H2 sk (.lst us) sk = some (.lst us) := upd_same
        have hS3 := hS0.mono fun _ _ z => StP.lf lf3 z
        have et3 := lf3.ts _ _ et2
        have hp3 := hp.lf lf3
        generalize upd H2 sk (.lst us) = H3 at s3 esk3 hS3 et3 hp3
        clear hS0 hp et2 lf3 esk2 hS
        refine ⟨t2, _, rfl, SqT.of et3, rfl, _, _, rfl, _, _, rfl, rfl, ?_⟩
        dsimp only
        refine asg_seq ?_
        refine ⟨_, rfl, _, rfl, _, _, rfl, ?_⟩
        rw [max_cast]
        dsimp only
        obtain ⟨pt, pn⟩ := p
        cases pt with
        | found g =>
          obtain ⟨a, lv, rfl, h1, h2⟩ := hp3
          refine ifS (p := ("found" : Str) = "test") (Sure.eqS (Ev.ixT (i := 0) (.var rfl) .con h1 rfl) .con) (fun yes => absurd yes found_ne) fun no => ?_
          refine ⟨szS S0, by
            rw [szS_snoc]
            have := szP_pos (Pl.found g)
            show szS S0 < szS S0 + szP (Pl.found g)
            omega, _, _, _, S0, us, rfl, rfl, by omega, s3, esk3, hS3, ?_⟩
          have hmx : max mo (max (mxS S0) (pn + 0)) = depthP t := hmx
          show max (max mo pn) (mxS S0) = _
          omega
        | test i b g =>
          obtain ⟨a, bv, gv, rfl, h1, h2, h3⟩ := hp3
          refine ifS (p := ("test" : Str) = "test") (Sure.eqS (Ev.ixT (i := 0) (.var rfl) .con h1 rfl) .con) (fun yes => ?_) fun no => absurd rfl no
          refine ⟨_, rfl, .inl ⟨rfl, _, SqL.of esk3⟩, ?_⟩
          refine Ev.ixT (i := 2) (.var rfl) .con h1 rfl _ ⟨_, rfl, _, _, rfl, rfl, by show 2 ≤ sizeLine; omega, fun ta nta => ?_⟩
          have sa := same_new (o := .tup [bv, .int ((pn : Int) + 1)]) nta
          have ea : upd H3 ta (.tup [bv, .int ((pn : Int) + 1)]) ta = some (.tup [bv, .int ((pn : Int) + 1)]) := upd_same
          generalize upd H3 ta (.tup [bv, .int ((pn : Int) + 1)]) = H4 at sa ea
          refine Ev.ixT (i := 3) (.var rfl) .con (sa _ _ h1) rfl _ ⟨_, rfl, _, _, rfl, rfl, by show 2 ≤ sizeLine; omega, fun tb ntb => ?_⟩
          have sb := same_new (o := .tup [gv, .int ((pn : Int) + 1)]) ntb
          have eb : upd H4 tb (.tup [gv, .int ((pn : Int) + 1)]) tb = some (.tup [gv, .int ((pn : Int) + 1)]) := upd_same
          generalize upd H4 tb (.tup [gv, .int ((pn : Int) + 1)]) = H5 at sb eb
          refine ⟨by show 2 ≤ sizeLine; omega, fun l nl => ?_⟩
          have sl := same_new (o := .lst [.ref ta, .ref tb]) nl
          have el : upd H5 l (.lst [.ref ta, .ref tb]) l = some (.lst [.ref ta, .ref tb]) := upd_same
          generalize upd H5 l (.lst [.ref ta, .ref tb]) = H6 at sl el
          have s36 := same_trans (same_trans sa sb) sl
          have ea6 := sl _ _ (sb _ _ ea)
          have eb6 := sl _ _ eb
          have esk6 := s36 _ _ esk3
          have lS := szS_len S0
          have lus := hS3.length
          have e4 : szP (Pl.test i b g) = 1 + szP b + szP g := rfl
          refine ⟨sk, l, us, _, rfl, rfl, esk6, el, by show us.length + 2 ≤ sizeLine; omega, ?_⟩
          have lf7 : LF (fun a => N a ∧ H a ≠ none) H6 (upd H6 sk (.lst (us ++ [.ref ta, .ref tb]))) := lf_upd esk6 hns
          have lf37 := (Same.lf s36).trans lf7
          refine ⟨szS (S0 ++ [(b, pn + 1)] ++ [(g, pn + 1)]), ?_, _, _, _, S0 ++ [(b, pn + 1)] ++ [(g, pn + 1)], us ++ [.ref ta, .ref tb], rfl, rfl, ?_, same_upd nskH (same_trans s3 s36), upd_same, ?_, ?_⟩
          · rw [szS_snoc, szS_snoc, szS_snoc, e4]
            show szS S0 + szP b + szP g < szS S0 + (1 + szP b + szP g)
            omega
          · rw [szS_snoc, szS_snoc]
            rw [e4] at lm
            show szS S0 + szP b + szP g ≤ _
            omega
          · generalize upd H6 sk (.lst (us ++ [.ref ta, .ref tb])) = H7 at lf7 lf37 ⊢
            rw [show us ++ [V.ref ta, V.ref tb] = us ++ [V.ref ta] ++ [V.ref tb] by simp]
            exact each_snoc (each_snoc (hS3.mono fun _ _ z => StP.lf lf37 z) ⟨ta, bv, rfl, lf7.ts _ _ ea6, h2.lf lf37⟩) ⟨tb, gv, rfl, lf7.ts _ _ eb6, h3.lf lf37⟩
          · rw [mxS_app, mxS_app]
            have e5 : mxS [(b, pn + 1)] = pn + 1 + depthP b := Nat.max_eq_left (Nat.zero_le _)
            have e6 : mxS [(g, pn + 1)] = pn + 1 + depthP g := Nat.max_eq_left (Nat.zero_le _)
            rw [e5, e6]
            have hmx : max mo (max (mxS S0) (pn + (1 + max (depthP b) (depthP g)))) = depthP t := hmx
            show max (max mo pn) _ = _
            omega
end
end K20
namespace K20
open PySem PySem.Spec PyProof.Rows L2 TL TR QR
open GxR (TabB TabG Tabbed)
open PySem.W (EachIs)
theorem nsD_inj {a b : List Nm} (h : nsD a = nsD b) : a = b := by
  unfold nsD at h
  have : ∀ {a b : List Nm}, a.map nmD = b.map nmD → a = b := by
    intro a
    induction a with
    | nil => intro b h; cases b with
      | nil => rfl
      | cons y r => cases h
    | cons x r ih => intro b h; cases b with
      | nil => cases h
      | cons y r2 => rw [ih (List.cons.inj h).2, nm_inj (List.cons.inj h).1]
  exact this (PyData.list.inj h)
theorem grD_inj {a b : Grp} (h : grD a = grD b) : a = b := by
  unfold grD at h
  have : ∀ {a b : Grp}, a.map nsD = b.map nsD → a = b := by
    intro a
    induction a with
    | nil => intro b h; cases b with
      | nil => rfl
      | cons y r => cases h
    | cons x r ih => intro b h; cases b with
      | nil => cases h
      | cons y r2 => rw [ih (List.cons.inj h).2, nsD_inj (List.cons.inj h).1]
  exact this (PyData.list.inj h)
theorem solid_nsD (c : List Nm) : solid (nsD c) = true := by
  unfold nsD
  rw [solid]
  exact solid_nms c
theorem solid_grD (g : Grp) : solid (grD g) = true := by
  unfold grD
  rw [solid]
  exact solid_map solid_nsD g
theorem depth_map {α : Type} {f : α → PyData} {k : Nat} (h : ∀ x, (f x).depth ≤ k) : ∀ l : List α, PyData.depthAll (l.map f) ≤ k
  | [] => Nat.zero_le _
  | x :: r => by
    rw [List.map_cons, PyData.depthAll]
    have := h x
    have := depth_map h r
    omega
theorem depth_nsD (c : List Nm) : (nsD c).depth ≤ 4 := by
  unfold nsD
  rw [PyData.depth]
  have := depth_map (f := nmD) (k := 3) (fun n => Nat.le_of_eq (nm_depth n)) c
  omega
theorem depth_grD (g : Grp) : (grD g).depth ≤ 5 := by
  unfold grD
  rw [PyData.depth]
  have := depth_map (f := nsD) (k := 4) depth_nsD g
  omega
theorem NsAt.dp {K : PySem.W.Frag} {N : Addr → Prop} {H : Hp} {v : V} {c : List Nm} : NsAt N H v c → Dp K H v (nsD c) := fun ⟨a, ws, e, n, h, q⟩ => by
  rw [e]
  exact .lst (SqL.of h) (dp_each (fun _ _ h => dp_nm h) q)
theorem LsAt.dp {K : PySem.W.Frag} {N : Addr → Prop} {H : Hp} {v : V} {g : Grp} : LsAt N H v g → Dp K H v (grD g) := fun ⟨a, ws, e, n, h, q⟩ => by
  rw [e]
  exact .lst (SqL.of h) (dp_each (fun _ _ h => NsAt.dp h) q)
section
variable {K : PySem.W.Frag} {σ : L2.St} {H : Hp} {t u : TT} {ta tb tc : TE}
theorem SureS.or {p q : Prop} [Decidable p] [Decidable q] (a : SureS t σ H p) (b : ¬ p → ∀ H1, Same H H1 → SureS u σ H1 q) : SureS (tOr t u) σ H (p ∨ q) := fun R r => a _ fun H1 s1 => by
  by_cases h : p
  · refine yes_if (decide_eq_true h) ?_
    have r := r H1 s1
    rw [show decide (p ∨ q) = true from decide_eq_true (.inl h)] at r
    exact r
  · refine no_if (decide_eq_false h) (b h H1 s1 R fun H2 s2 => ?_)
    have r := r H2 (same_trans s1 s2)
    rw [show decide (p ∨ q) = decide q from decide_eq_decide.mpr ⟨fun z => z.resolve_left h, .inr⟩] at r
    exact r
theorem ne_rel {x y : V} {d e : PyData} {p : Prop} [Decidable p] {R : Bool → Hp → Prop} (hp : d = e ↔ p) (hx : Dp K H x d) (hy : Dp K H y e) (sd : solid d = true) (se : solid e = true) (dd : d.depth ≤ 60) (r : R (decide (¬ p)) H) : rNeP K x y H fun z H4 => ∃ k, z = .bl k ∧ R k H4 :=
  ⟨d, e, hx, hy, solid_plain _ sd, solid_plain _ se, dd, _, rfl, by
    rw [show (!PyData.eqv d e) = decide (¬ p) from by
      rw [decide_not]
      congr 1
      rw [Bool.eq_iff_iff, decide_eq_true_iff]
      exact (eqv_iff sd se).trans hp]
    exact r⟩
theorem Sure.chain {i : Int} {n : Nat} (hb : Ev tb σ H (.int i)) (hc : Ev tc σ H (.int (n : Int))) : Sure (tTest (tChain (rI0 fun i j => V.bl (decide (i ≤ j))) (rI0 fun i j => V.bl (decide (i < j))) (tC (V.int 0)) tb tc)) σ H (0 ≤ i ∧ i < (n : Int)) := fun R r => hb _ ⟨_, _, rfl, rfl, _, rfl, by
  by_cases h : (0 : Int) ≤ i
  · refine yes_if (decide_eq_true h) (hc _ ⟨_, _, rfl, rfl, _, rfl, ?_⟩)
    rw [show decide (0 ≤ i ∧ i < (n : Int)) = decide (i < (n : Int)) from decide_eq_decide.mpr ⟨fun z => z.2, fun z => ⟨h, z⟩⟩] at r
    exact r
  · refine no_if (decide_eq_false h) ⟨_, rfl, ?_⟩
    rw [show decide (0 ≤ i ∧ i < (n : Int)) = false from decide_eq_false fun z => h z.1] at r
    exact r⟩
end
theorem sides_nil {css tss : Grp} {bits : Nat} {ps : List (Nat × Nat)} (lt : bits < 2 ^ css.length) (so : SidesOk css tss bits ps) : ps = [] ↔ ∀ t ∈ tss, splitB t (namedL css bits) = false := by
  constructor
  · intro e t ht
    refine Bool.eq_false_iff.mpr fun z => ?_
    rw [split_bits lt, decide_eq_true_iff] at z
    have := (so.iff _).mpr ⟨t, ht, z, rfl⟩
    rw [e] at this
    cases this
  · intro h
    cases ps with
    | nil => rfl
    | cons p r =>
      obtain ⟨t, ht, hs, _⟩ := sides_mem lt so (List.mem_cons_self ..)
      rw [h t ht] at hs
      cases hs
section
variable {P : Program} {w : World} {K : PySem.W.Frag} {mg : Str → Option Value} {base : Heap} {CF T1 : Addr}
/-- a finder has been made -/
structure FdMade (CF T1 : Addr) (H H1 : Hp) (x aD : Addr) (css tss : Grp) : Prop where
  tb : Tbs [T1] H H1
  fd : FdAt CF (fun a => H a = none) H1 x aD css tss
  me : MemF H1 aD css tss []
  nx : H x = none
  nD : H aD = none
  nn : ∀ a, H1 a = none → H a = none
theorem make_to {i j : Nat} {σ : L2.St} {H : Hp} {Q : VK} {cv tv : V} {N : Addr → Prop} {css tss : Grp} (h1 : σ[i]? = some (some cv)) (h2 : σ[j]? = some (some tv)) (hc : LsAt N H cv css) (ht : LsAt N H tv tss) (tg : TabG H T1) (lc : css.length ≤ 10) (lt : tss.length ≤ 30) (cs : ∀ c ∈ css, c.length ≤ 1000)
    (q : ∀ x aD H1, FdMade CF T1 H H1 x aD css tss → Q (.ref x) H1) : tMake CF (spFI CF T1) [] E0 (tCons (tVar i) (tCons (tVar j) tNil)) σ H Q := by
  refine ⟨_, h1, _, h2, fun x dx nx ndx ne => ?_⟩
  have s1 := same_new (o := .own x) ndx
  have nx1 : upd H dx (.own x) x = none := (upd_ne (Ne.symm ne)).trans nx
  have s2 := same_trans s1 (same_new (o := .ins CF dx []) nx1)
  have hx : upd (upd H dx (.own x)) x (.ins CF dx []) x = some (.ins CF dx []) := upd_same
  have tg2 := tab_same tg s2
  generalize upd (upd H dx (.own x)) x (.ins CF dx []) = H0 at s2 hx tg2
  refine ⟨x, dx, cv, tv, N, css, tss, rfl, hx, hc.lf (Same.lf s2), ht.lf (Same.lf s2), tg2, lc, lt, cs, fun H1 aD fx naD fd me => ⟨rfl, q x aD H1 ⟨⟨fun b o n e => ?_, tg_one fx.tg⟩, ?_, me, nx, same_none s2 naD, fun a na => ?_⟩⟩⟩
  · exact fx.sm b o (fun z => by rw [z, nx] at e; cases e) (by simpa using n) (s2 _ _ e)
  · obtain ⟨⟨d, ba, ka, cv', ks, a1, a2, a3⟩, l1, l2, l3⟩ := fd
    exact ⟨⟨d, ba, ka, cv', ks, a1, a2.imp fun a n => same_none s2 n, a3⟩, l1, l2, l3⟩
  · cases e : H a with
    | none => rfl
    | some o =>
      have e2 := s2 _ _ e
      by_cases z : a = T1
      · obtain ⟨ps, e1, _⟩ := fx.tg
        rw [← z, na] at e1
        cases e1
      · rw [fx.sm a o (fun z => by rw [z, nx] at e; cases e) z e2] at na
        cases na
theorem FdMade.ex {H H1 H2 : Hp} {x aD : Addr} {css tss : Grp} (f : FdMade CF T1 H H1 x aD css tss) (e : EX aD H1 H2) : Tbs [T1] H H2 := by
  refine ⟨fun b o n h => e b o (fun z => by rw [z, f.nD] at h; cases h) (f.tb.sm b o n h), fun T hT => ?_⟩
  obtain ⟨ps, e1, e2⟩ := f.tb.tg T hT
  exact ⟨ps, e _ _ (fun z => by rw [z, f.me.ex] at e1; cases e1) e1, e2⟩
theorem pow_pred (n : Nat) : 2 ^ n - 1 < 2 ^ n := by
  have := Nat.two_pow_pos n
  omega
def spPL (T1 : Addr) : Sp := fun vs H Q _ => ∃ (cv tv : V) (N : Addr → Prop) (css tss : Grp), vs = [cv, tv] ∧ LsAt N H cv css ∧ LsAt N H tv tss ∧ TabG H T1 ∧ css.length ≤ 10 ∧ tss.length ≤ 30 ∧ (∀ c ∈ css, c.length ≤ 1000) ∧
  ∀ H' v, Tbs [T1] H H' → TrAt (fun a => H a = none) H' v (bp tss css) → Q v H'
abbrev sPL : Stmt := topS 3
abbrev nPL : List Str := ["causes", "tests", "finder"]
theorem scPL : FnScope nPL ["causes", "tests"] (defScope sPL) := ⟨rfl, rfl, rfl, by decide +kernel, rfl, by decide +kernel, by decide +kernel⟩
theorem ok_PL {f fBE fFI : Addr} {fd fdBE fdFI : FuncData} (F : Fun K "plan" "plan" sPL f fd) (TF : TxtF K mg CF)
    (MkF : Mk K CF fFI) (GFI : FnOk P w K mg base CX0 3 fFI fdFI ["self", "causes", "tests"] (spFI CF T1)) (bFI : Binds K fdFI ["self", "causes", "tests"] [])
    (MBE : Meth K CF "best" fBE) (GBE : FnOk P w K mg base CX0 25 fBE fdBE ["self", "bits"] (spBE CF 11)) (bBE : Binds K fdBE ["self", "bits"] []) :
    FnOk P w K mg base CX0 26 f fd ["causes", "tests"] (spPL T1) := by
  refine F.ok scPL (fun vs H Q E h => ?_) (fun cdv A outer s H vs Q E hr h => ?_)
  · obtain ⟨cv, tv, N, css, tss, rfl, _⟩ := h
    rfl
  · obtain ⟨cv, tv, N, css, tss, rfl, hc, ht, tg, lc, lt, cs, q⟩ := h
    have hu := hr.units
    have hu1 := hu_of hr
    have hrI : Room (3 + 1) _ := hr.mono (by decide)
    have hrB : Room 25 _ := hr
    refine ⟨_, (pss_cons (ps_set (i := 2) scPL.nd rfl (.inl rfl) (pe_make MkF GFI hrI rfl TF.mg bFI .nil pass0 (pa_cons (pv 0) (pa_cons (pv 1) pa_nil))))
      (pss_one (ps_ret (pe_meth (pv 2) TF.cl MBE GBE hrB bBE .nil pass0 (pa_cons (pe_fld (pv 2) rfl) pa_nil))))), ?_⟩
    dsimp only [cxOf, Cx.nox]
    refine asg_seq ?_
    refine make_to (css := css) (tss := tss) rfl rfl hc ht tg lc lt cs fun x aD H1 fm => ?_
    obtain ⟨dx, ba, ka, cv', ks, hx, _⟩ := id fm.fd.ex
    refine ⟨_, rfl, x, dx, _, rfl, hx, fd_no no_best, _, rfl, x, CF, dx, _, _, rfl, hx, TF.cl, TF.n2, fd_all, x, aD, _, css, tss, [], 2 ^ css.length - 1, rfl, fm.fd, fm.me, pow_pred _, by rw [named_all]; omega, fun H2 ms v ex2 me2 hv => ?_⟩
    rw [named_all] at hv
    exact q H2 v (fm.ex ex2) (hv.imp fun a n => fm.nn a n)
def spPG (T1 : Addr) : Sp := fun vs H Q _ => ∃ (cv tv rv : V) (N : Addr → Prop) (css tss : Grp) (t : Pl), vs = [cv, tv, rv] ∧ LsAt N H cv css ∧ LsAt N H tv tss ∧ TrAt N H rv t ∧ szP t ≤ 1000 ∧ TabG H T1 ∧ css.length ≤ 10 ∧ tss.length ≤ 30 ∧ (∀ c ∈ css, c.length ≤ 1000) ∧
  ∀ H', Tbs [T1] H H' → Q (.bl (rightP tss css t)) H'
abbrev sPG : Stmt := topS 5
abbrev nPG : List Str := ["causes", "tests", "tree", "finder", "stack", "part", "bits", "bad"]
theorem scPG : FnScope nPG ["causes", "tests", "tree"] (defScope sPG) := ⟨rfl, rfl, rfl, by decide +kernel, rfl, by decide +kernel, by decide +kernel⟩
theorem ok_PG {f fNMD fSD fFI : Addr} {fd fdNMD fdSD fdFI : FuncData} (F : Fun K "plan_right" "plan_right" sPG f fd) (TF : TxtF K mg CF)
    (MkF : Mk K CF fFI) (GFI : FnOk P w K mg base CX0 3 fFI fdFI ["self", "causes", "tests"] (spFI CF T1)) (bFI : Binds K fdFI ["self", "causes", "tests"] [])
    (MNMD : Meth K CF "named" fNMD) (GNMD : FnOk P w K mg base CX0 1 fNMD fdNMD ["self", "bits"] (spNM CF)) (bNMD : Binds K fdNMD ["self", "bits"] [])
    (MSD : Meth K CF "sides" fSD) (GSD : FnOk P w K mg base CX0 1 fSD fdSD ["self", "bits"] (spSD CF)) (bSD : Binds K fdSD ["self", "bits"] []) (m_len : mg "len" = none) :
    FnOk P w K mg base CX0 5 f fd ["causes", "tests", "tree"] (spPG T1) := by
  refine F.ok scPG (fun vs H Q E h => ?_) (fun cdv A outer s H vs Q E hr h => ?_)
  · obtain ⟨cv, tv, rv, N, css, tss, t, rfl, _⟩ := h
    rfl
  · obtain ⟨cv, tv, rv, N, css, tss, t, rfl, hc, htt, ht, lsz, tg, lc, lt, cs, q⟩ := h
    have hu := hr.units
    have hu1 := hu_of hr
    have hr1 : Room 1 _ := hr.mono (by decide)
    have hrI : Room (3 + 1) _ := hr
    have zl := zl
    refine ⟨_, (pss_cons (ps_set (i := 3) scPG.nd rfl (.inl rfl) (pe_make MkF GFI hrI rfl TF.mg bFI .nil pass0 (pa_cons (pv 0) (pa_cons (pv 1) pa_nil))))
      (pss_cons (ps_set (i := 4) scPG.nd rfl (.inl rfl) (pe_lst (pa_cons (pe_tup (pa_cons (pv 2) (pa_cons (pe_fld (pv 3) rfl) pa_nil))) pa_nil)))
      (pss_cons (ps_while PassesOwn.never (pt_truth (pv 4) (by intro _; rfl))
      (pss_cons (ps_asg (pe_bm0 PySem.F.plainAttrs_list PySem.F.slot_list_pop PySem.F.type_list_pop mt_pop (pv 4)) (pg_tup (by rfl) (pgs_cons (pg_name (i := 5) scPG.nd rfl (.inl rfl)) (pgs_cons (pg_name (i := 6) scPG.nd rfl (.inl rfl)) pgs_nil))))
      (pss_one (ps_if (pt_cmpR op_eq (pe_ix ix_tup (pv 5) (pe_int) (fun _ _ => rfl)) (pe_str) (nomark _))
      (pss_one (ps_if (PW.pt (pw_or (pt_cmpR (op_neP hu) (pe_ix ix_tup (pv 5) (pe_int) (fun _ _ => rfl)) (pe_meth (pv 3) TF.cl MNMD GNMD hr1 bNMD .nil pass0 (pa_cons (pv 6) pa_nil)) (nomark _)) (pw_or1 (pt_truth (pe_meth (pv 3) TF.cl MSD GSD hr1 bSD .nil pass0 (pa_cons (pv 6) pa_nil)) (by intro _; rfl)))))
      (pss_one (ps_ret (pe_bl))) pss_nil)) (pss_one (ps_if (pt_chain op_le op_lt (pe_int) (pe_ix ix_tup (pv 5) (pe_int) (fun _ _ => rfl)) (pe_callB call_len_seq (by rfl) m_len PySem.boot_len (pa_cons (pv 1) pa_nil)))
      (pss_cons (ps_set (i := 7) scPG.nd rfl (.inl rfl) (pe_op op_and (pv 6) (pe_ix ix_list (pe_fld (pv 3) rfl) (pe_ix ix_tup (pv 5) (pe_int) (fun _ _ => rfl)) (fun _ _ => rfl))))
      (pss_one (ps_expr (pe_bm PySem.F.plainAttrs_list PySem.F.slot_list_extend PySem.F.type_list_extend mt_extend (pv 4) (pa_cons (pe_lst (pa_cons (pe_tup (pa_cons (pe_ix ix_tup (pv 5) (pe_int) (fun _ _ => rfl)) (pa_cons (pv 7) pa_nil))) (pa_cons (pe_tup (pa_cons (pe_ix ix_tup (pv 5) (pe_int) (fun _ _ => rfl)) (pa_cons (pe_op op_sub (pv 6) (pv 7)) pa_nil))) pa_nil))) pa_nil))))) (pss_one (ps_ret (pe_bl)))))))))
      (pss_one (ps_ret (pe_bl)))))), ?_⟩
    dsimp only [cxOf, Cx.nox]
    refine asg_seq ?_
    refine make_to (css := css) (tss := tss) rfl rfl hc htt tg lc lt cs fun x aD HB fm => ?_
    obtain ⟨dx, ba, ka, cv', ks, hx, hcv, hba, hka, hks⟩ := id fm.fd.ex
    refine ⟨_, rfl, _, rfl, x, CF, dx, _, _, rfl, hx, TF.cl, TF.n2, fd_all, by show 2 ≤ sizeLine; omega, fun t0 nt0 => ?_⟩
    have st0 := same_new (o := .tup [rv, .int ((2 ^ css.length - 1 : Nat) : Int)]) nt0
    have et0 : upd HB t0 (.tup [rv, .int ((2 ^ css.length - 1 : Nat) : Int)]) t0 = some (.tup [rv, .int ((2 ^ css.length - 1 : Nat) : Int)]) := upd_same
    generalize upd HB t0 (.tup [rv, .int ((2 ^ css.length - 1 : Nat) : Int)]) = H0 at st0 et0
    refine ⟨by show 1 ≤ sizeLine; omega, fun sk nsk => ?_⟩
    have sk0 := same_new (o := .lst [.ref t0]) nsk
    have esk : upd H0 sk (.lst [.ref t0]) sk = some (.lst [.ref t0]) := upd_same
    have nskB : HB sk = none := same_none st0 nsk
    have nskH : H sk = none := fm.nn _ nskB
    have s1 := same_trans st0 sk0
    have et1 := sk0 _ _ et0
    generalize upd H0 sk (.lst [.ref t0]) = H1 at s1 esk et1
    clear st0 et0 nt0 sk0 nsk
    dsimp only
    have lfB : ∀ {N : Addr → Prop}, LF N H HB := fun {N} => fm.tb.lf (tg_one tg)
    have ht' : TrAt (fun a => N a ∧ HB a ≠ none) HB rv t := by
      have : ∀ (t : Pl) (v : V), TrAt N HB v t → TrAt (fun a => N a ∧ HB a ≠ none) HB v t := by
        intro t
        induction t with
        | found g =>
          rintro v ⟨a, lv, e, h1, b, bw, e2, n, h2, h3⟩
          refine ⟨a, lv, e, h1, b, bw, e2, ⟨n, by rw [h2]; exact fun z => nomatch z⟩, h2, h3.mono fun _ _ ⟨c, cw, e3, n3, h4, h5⟩ => ⟨c, cw, e3, ⟨n3, by rw [h4]; exact fun z => nomatch z⟩, h4, h5⟩⟩
        | test i b g ih1 ih2 =>
          rintro v ⟨a, bv, gv, e, h1, h2, h3⟩
          exact ⟨a, bv, gv, e, h1, ih1 _ h2, ih2 _ h3⟩
      exact this t rv (ht.lf lfB)
    have hns : ¬ (N sk ∧ HB sk ≠ none) := fun z => z.2 nskB
    obtain ⟨ta, tw, rfl, nta, hta, htw⟩ := htt
    have ltw := htw.length
    clear ht
    refine ⟨fun m σ H' => ∃ (y5 y6 y7 : Option V) (S : List (Pl × Nat)) (sw : List V), σ = [some cv, some (.ref ta), some rv, some (.ref x), some (.ref sk), y5, y6, y7] ∧ m = szS S ∧ m ≤ szP t ∧ Same HB H' ∧ H' sk = some (.lst sw) ∧ EachIs (StP (fun a => N a ∧ HB a ≠ none) H') sw S ∧ (∀ p ∈ S, p.2 < 2 ^ css.length) ∧ (S.all fun p => rightP tss (namedL css p.2) p.1) = rightP tss css t, ⟨_, none, none, none, [(t, 2 ^ css.length - 1)], [.ref t0], rfl, rfl, Nat.le_refl _, s1, esk, .cons ⟨t0, rv, rfl, et1, ht'.lf (Same.lf s1)⟩ .nil, fun p hp => by rw [List.mem_singleton.mp hp]; exact pow_pred _, ?_⟩, ?_⟩
    · show (rightP tss (namedL css (2 ^ css.length - 1)) t && true) = _
      rw [named_all, Bool.and_true]
    · rintro m σ H2 ⟨y5, y6, y7, S, sw, rfl, rfl, lm, s2, esk2, hS, hlt, hal⟩
      refine ⟨_, rfl, !sw.isEmpty, .inl ⟨sw, SqL.of esk2, rfl⟩, ?_⟩
      by_cases ne : sw = []
      · rw [ne] at hS ⊢
        cases hS
        have := q H2 (fm.tb.same s2)
        rw [← hal] at this
        exact no_if rfl this
      · obtain ⟨us, u, S0, p, rfl, rfl, hS0, t2, pv, rfl, et2, hp⟩ := each_last hS ne
        rw [szS_snoc] at lm
        have hltp := hlt p (List.mem_append_right _ (List.mem_singleton.mpr rfl))
        have hlt0 : ∀ p ∈ S0, p.2 < 2 ^ css.length := fun p hp => hlt p (List.mem_append_left _ hp)
        rw [List.all_append] at hal
        have hal : ((S0.all fun p => rightP tss (namedL css p.2) p.1) && (rightP tss (namedL css p.2) p.1 && true)) = rightP tss css t := hal
        rw [Bool.and_true] at hal
        refine yes_if (by cases us <;> rfl) ?_
        refine ⟨fun σ' H' => ∃ m', m' < szS (S0 ++ [p]) ∧ ∃ (y5 y6 y7 : Option V) (S : List (Pl × Nat)) (sw : List V), σ' = [some cv, some (.ref ta), some rv, some (.ref x), some (.ref sk), y5, y6, y7] ∧ m' = szS S ∧ m' ≤ szP t ∧ Same HB H' ∧ H' sk = some (.lst sw) ∧ EachIs (StP (fun a => N a ∧ HB a ≠ none) H') sw S ∧ (∀ p ∈ S, p.2 < 2 ^ css.length) ∧ (S.all fun p => rightP tss (namedL css p.2) p.1) = rightP tss css t, fun _ _ z => z, ?_⟩
        refine ⟨_, rfl, .inl ⟨rfl, _, SqL.of esk2⟩, sk, _, _, rfl, rfl, esk2, last_ix us _, ?_⟩
        rw [List.dropLast_concat]
        have lf3 : LF (fun a => N a ∧ HB a ≠ none) H2 (upd H2 sk (.lst us)) := lf_upd esk2 hns
        have s3 : Same HB (upd H2 sk (.lst us)) := same_upd nskB s2
        have esk3 : upd H2 sk (.lst us) sk = some (.lst us) := upd_same
        have hS3 := hS0.mono fun _ _ z => StP.lf lf3 z
        have et3 := lf3.ts _ _ et2
        have hp3 := hp.lf lf3
        generalize upd H2 sk (.lst us) = H3 at s3 esk3 hS3 et3 hp3
        clear hS0 hp et2 lf3 esk2 hS
        refine ⟨t2, _, rfl, SqT.of et3, rfl, _, _, rfl, _, _, rfl, rfl, ?_⟩
        dsimp only
        have hx3 := s3 _ _ hx
        have fd3 := fm.fd.same s3
        obtain ⟨pt, bits⟩ := p
        have hltp : bits < 2 ^ css.length := hltp
        cases pt with
        | found g =>
          obtain ⟨a, lv, rfl, h1, h2⟩ := hp3
          refine ifS (p := ("found" : Str) = "found") (Sure.eqS (Ev.ixT (i := 0) (.var rfl) .con h1 rfl) .con) (fun yes => ?_) fun no => absurd rfl no
          refine ifSS (p := ¬ (g = namedL css bits) ∨ ¬ ∀ t ∈ tss, splitB t (namedL css bits) = false) (SureS.or (fun R r => ?_) fun _ H4 s4 R r => ?_) (fun yes H4 s4 => ?_) fun no H4 s4 => ?_
          · refine Ev.ixT (i := 1) (.var rfl) .con h1 rfl _ ⟨_, rfl, x, dx, _, rfl, hx3, fd_no no_named, _, rfl, x, dx, _, cv', css, fun a => H a = none, bits, rfl, hx3, fd_causes, hcv.lf (Same.lf s3), by omega, cs, fun H4 v s4 hv => ?_⟩
            exact ne_rel (p := g = namedL css bits) ⟨fun z => grD_inj z, fun z => by rw [z]⟩ (h2.lf (Same.lf s4)).dp hv.dp (solid_grD _) (solid_grD _) (Nat.le_trans (depth_grD _) (by decide)) (r H4 s4)
          · refine ⟨_, rfl, x, dx, _, rfl, s4 _ _ hx3, fd_no no_sides, _, rfl, x, aD, fun a => H a = none, css, tss, bits, rfl, fd3.same s4, fun H5 v ps s5 hps so => ?_⟩
            obtain ⟨pl, pw, rfl, npl, hpl, hpw⟩ := hps
            refine ⟨!pw.isEmpty, .inl ⟨pw, SqL.of hpl, rfl⟩, ?_⟩
            have e : (!pw.isEmpty) = decide (¬ ∀ t ∈ tss, splitB t (namedL css bits) = false) := by
              rw [Bool.eq_iff_iff, decide_eq_true_iff, ← sides_nil hltp so]
              have := hpw.length
              cases pw with
              | nil =>
                cases hpw
                exact ⟨(fun z => nomatch z), fun z => absurd rfl z⟩
              | cons v pw =>
                cases hpw
                exact ⟨fun _ z => (nomatch z), fun _ => rfl⟩
            rw [e]
            exact r H5 s5
          · have e : rightP tss (namedL css bits) (.found g) = false := by
              refine decide_eq_false fun z => ?_
              rcases yes with y | y
              · exact y z.2
              · exact y z.1
            have := q H4 (fm.tb.same (same_trans s3 s4))
            rw [← hal, e, Bool.and_false] at this
            exact this
          · have e : rightP tss (namedL css bits) (.found g) = true := decide_eq_true ⟨Decidable.byContradiction fun z => no (.inr z), Decidable.byContradiction fun z => no (.inl z)⟩
            rw [e, Bool.and_true] at hal
            refine ⟨szS S0, ?_, _, _, _, S0, us, rfl, rfl, by omega, same_trans s3 s4, s4 _ _ esk3, hS3.mono fun _ _ z => StP.lf (Same.lf s4) z, hlt0, hal⟩
            rw [szS_snoc]
            have := szP_pos (Pl.found g)
            show szS S0 < szS S0 + szP (Pl.found g)
            omega
        | test i b g =>
          obtain ⟨a, bv, gv, rfl, h1, h2, h3⟩ := hp3
          refine ifS (p := ("test" : Str) = "found") (Sure.eqS (Ev.ixT (i := 0) (.var rfl) .con h1 rfl) .con) (fun yes => absurd yes.symm found_ne) fun no => ?_
          have hta3 : H3 ta = some (.lst tw) := (lfB.trans (Same.lf s3)).ls _ _ nta hta
          refine ifS (p := 0 ≤ i ∧ i < ((tw.length : Nat) : Int)) (Sure.chain (Ev.ixT (i := 1) (.var rfl) .con h1 rfl) (Ev.len (.var rfl) hta3)) (fun yes => ?_) fun no => ?_
          · obtain ⟨y1, y2⟩ := yes
            obtain ⟨n, rfl⟩ : ∃ n : Nat, i = (n : Int) := ⟨i.toNat, by omega⟩
            have ln : n < tss.length := by omega
            have hn : tss[n]? = some tss[n] := List.getElem?_eq_getElem ln
            generalize tss[n] = tt at hn
            have er : rightP tss (namedL css bits) (.test (n : Int) b g) = (rightP tss (namedL css (bits &&& kindN css tt)) b && rightP tss (namedL css (bits - (bits &&& kindN css tt))) g) := by
              show (decide (0 ≤ (n : Int) ∧ (n : Int) < tss.length) && _ && _) = _
              rw [decide_eq_true (by omega), Bool.true_and, Int.toNat_natCast, getD_of hn, named_bad, named_good]
            rw [er] at hal
            have le : bits &&& kindN css tt ≤ bits := Nat.and_le_left
            refine asg_seq ?_
            refine ⟨_, rfl, _, rfl, x, CF, dx, _, _, rfl, hx3, TF.cl, TF.n3, fd_bad, ?_⟩
            refine Ev.ixT (i := 1) (.var rfl) .con h1 rfl _ ⟨ba, _, _, V.int (kindN css tt : Int), rfl, rfl, SqL.of (s3 _ _ hba), atI_nat (j := n) (by rw [List.getElem?_map, hn]; rfl), _, _, rfl, rfl, ?_⟩
            dsimp only
            rw [and_nat]
            refine ⟨_, rfl, .inl ⟨rfl, _, SqL.of esk3⟩, ?_⟩
            refine Ev.ixT (i := 2) (.var rfl) .con h1 rfl _ ⟨_, rfl, by show 2 ≤ sizeLine; omega, fun ta' nta' => ?_⟩
            have sa := same_new (o := .tup [bv, .int ((bits &&& kindN css tt : Nat) : Int)]) nta'
            have ea : upd H3 ta' (.tup [bv, .int ((bits &&& kindN css tt : Nat) : Int)]) ta' = some (.tup [bv, .int ((bits &&& kindN css tt : Nat) : Int)]) := upd_same
            generalize upd H3 ta' (.tup [bv, .int ((bits &&& kindN css tt : Nat) : Int)]) = H4 at sa ea
            refine Ev.ixT (i := 3) (.var rfl) .con (sa _ _ h1) rfl _ ⟨_, rfl, _, rfl, _, _, rfl, rfl, by show 2 ≤ sizeLine; omega, fun tb ntb => ?_⟩
            have ei : (bits : Int) - ((bits &&& kindN css tt : Nat) : Int) = ((bits - (bits &&& kindN css tt) : Nat) : Int) := by rw [Int.natCast_sub le]
            dsimp only
            rw [ei]
            have sb := same_new (o := .tup [gv, .int ((bits - (bits &&& kindN css tt) : Nat) : Int)]) ntb
            have eb : upd H4 tb (.tup [gv, .int ((bits - (bits &&& kindN css tt) : Nat) : Int)]) tb = some (.tup [gv, .int ((bits - (bits &&& kindN css tt) : Nat) : Int)]) := upd_same
            generalize upd H4 tb (.tup [gv, .int ((bits - (bits &&& kindN css tt) : Nat) : Int)]) = H5 at sb eb
            refine ⟨by show 2 ≤ sizeLine; omega, fun l nl => ?_⟩
            have sl := same_new (o := .lst [.ref ta', .ref tb]) nl
            have el : upd H5 l (.lst [.ref ta', .ref tb]) l = some (.lst [.ref ta', .ref tb]) := upd_same
            generalize upd H5 l (.lst [.ref ta', .ref tb]) = H6 at sl el
            have s36 := same_trans (same_trans sa sb) sl
            have ea6 := sl _ _ (sb _ _ ea)
            have eb6 := sl _ _ eb
            have esk6 := s36 _ _ esk3
            have lS := szS_len S0
            have lus := hS3.length
            have e4 : szP (Pl.test (n : Int) b g) = 1 + szP b + szP g := rfl
            refine ⟨sk, l, us, _, rfl, rfl, esk6, el, by show us.length + 2 ≤ sizeLine; omega, ?_⟩
            have lf7 : LF (fun a => N a ∧ HB a ≠ none) H6 (upd H6 sk (.lst (us ++ [.ref ta', .ref tb]))) := lf_upd esk6 hns
            have lf37 := (Same.lf s36).trans lf7
            refine ⟨szS (S0 ++ [(b, bits &&& kindN css tt)] ++ [(g, bits - (bits &&& kindN css tt))]), ?_, _, _, _, S0 ++ [(b, bits &&& kindN css tt)] ++ [(g, bits - (bits &&& kindN css tt))], us ++ [.ref ta', .ref tb], rfl, rfl, ?_, same_upd nskB (same_trans s3 s36), upd_same, ?_, fun p hp => ?_, ?_⟩
            · rw [szS_snoc, szS_snoc, szS_snoc, e4]
              show szS S0 + szP b + szP g < szS S0 + (1 + szP b + szP g)
              omega
            · rw [szS_snoc, szS_snoc]
              rw [e4] at lm
              show szS S0 + szP b + szP g ≤ _
              omega
            · generalize upd H6 sk (.lst (us ++ [.ref ta', .ref tb])) = H7 at lf7 lf37 ⊢
              rw [show us ++ [V.ref ta', V.ref tb] = us ++ [V.ref ta'] ++ [V.ref tb] by simp]
              exact each_snoc (each_snoc (hS3.mono fun _ _ z => StP.lf lf37 z) ⟨ta', bv, rfl, lf7.ts _ _ ea6, h2.lf lf37⟩) ⟨tb, gv, rfl, lf7.ts _ _ eb6, h3.lf lf37⟩
            · rcases List.mem_append.mp hp with hp | hp
              · rcases List.mem_append.mp hp with hp | hp
                · exact hlt0 p hp
                · rw [List.mem_singleton.mp hp]
                  exact and_lt hltp
              · rw [List.mem_singleton.mp hp]
                exact Nat.lt_of_le_of_lt (Nat.sub_le _ _) hltp
            · rw [← hal, List.all_append, List.all_append]
              show (((S0.all fun p => rightP tss (namedL css p.2) p.1) && (rightP tss (namedL css (bits &&& kindN css tt)) b && true)) && (rightP tss (namedL css (bits - (bits &&& kindN css tt))) g && true)) = _
              rw [Bool.and_true, Bool.and_true, Bool.and_assoc]
          · have e : rightP tss (namedL css bits) (.test i b g) = false := by
              show (decide (0 ≤ i ∧ i < tss.length) && _ && _) = false
              rw [decide_eq_false (by rw [ltw] at no; exact no), Bool.false_and, Bool.false_and]
            have := q H3 (fm.tb.same s3)
            rw [← hal, e, Bool.and_false] at this
            exact this
end
end K20
namespace K20
open PySem PySem.Spec PyProof.Rows L2 TL TR QR
open GxR (TabB TabG Tabbed)
open PySem.W (EachIs)
abbrev sCe (i : Nat) : Stmt := inClass (topS 6) i
abbrev sSI : Stmt := sCe 0
abbrev nSI : List Str := ["self", "causes", "tests", "part"]
theorem scSI : FnScope nSI ["self", "causes", "tests"] (defScope sSI) := ⟨rfl, rfl, rfl, by decide +kernel, rfl, by decide +kernel, by decide +kernel⟩
abbrev sNP : Stmt := sCe 1
abbrev nNP : List Str := ["self"]
theorem scNP : FnScope nNP ["self"] (defScope sNP) := ⟨rfl, rfl, rfl, by decide +kernel, rfl, by decide +kernel, by decide +kernel⟩
abbrev sAN : Stmt := sCe 2
abbrev nAN : List Str := ["self", "bad"]
theorem scAN : FnScope nAN ["self", "bad"] (defScope sAN) := ⟨rfl, rfl, rfl, by decide +kernel, rfl, by decide +kernel, by decide +kernel⟩
abbrev sFO : Stmt := sCe 3
abbrev nFO : List Str := ["self", "cause"]
theorem scFO : FnScope nFO ["self"] (defScope sFO) := ⟨rfl, rfl, rfl, by decide +kernel, rfl, by decide +kernel, by decide +kernel⟩
structure TxtE (K : PySem.W.Frag) (mg : Str → Option Value) (C : Addr) : Prop where
  cl : Cls K C
  n1 : NoAttr K C "tests"
  n2 : NoAttr K C "rest"
  n3 : NoAttr K C "made"
  mg : mg "Search" = some (.ref C)
def seF (tv rv : V) (m : Int) : List (Str × V) := putF "made" (.int m) (putF "rest" rv (putF "tests" tv []))
section
variable {tv rv rv' : V} {m m' : Int}
theorem se_tests : (seF tv rv m).lookup ("tests" : Str) = some tv := by
  unfold seF
  rw [lookup_putF, if_neg (by decide +kernel), lookup_putF, if_neg (by decide +kernel), lookup_putF, if_pos rfl]
theorem se_rest : (seF tv rv m).lookup ("rest" : Str) = some rv := by
  unfold seF
  rw [lookup_putF, if_neg (by decide +kernel), lookup_putF, if_pos rfl]
theorem se_made : (seF tv rv m).lookup ("made" : Str) = some (.int m) := by
  unfold seF
  rw [lookup_putF, if_pos rfl]
abbrev NoE (m : Str) : Prop := m ≠ "made" ∧ m ≠ "rest" ∧ m ≠ "tests"
theorem se_no {n : Str} (h : NoE n) : (seF tv rv m).lookup n = none := by
  unfold seF
  rw [lookup_putF, if_neg h.1, lookup_putF, if_neg h.2.1, lookup_putF, if_neg h.2.2]
  rfl
theorem no_np : NoE ("next_part" : Str) := by decide +kernel
theorem no_an : NoE ("answer" : Str) := by decide +kernel
theorem no_fo : NoE ("found" : Str) := by decide +kernel
theorem se_is : seF tv rv m = [(("tests" : Str), tv), (("rest" : Str), rv), (("made" : Str), .int m)] := by
  unfold seF
  rw [putF, putF, if_neg (by decide +kernel), putF, putF, if_neg (by decide +kernel), putF, if_neg (by decide +kernel), putF]
theorem se_put_rest : putF "rest" rv' (seF tv rv m) = seF tv rv' m := by
  rw [se_is, se_is, putF, if_neg (by decide +kernel), putF, if_pos rfl]
theorem se_put_made : putF "made" (.int m') (seF tv rv m) = seF tv rv m' := by
  rw [se_is, se_is, putF, if_neg (by decide +kernel), putF, if_neg (by decide +kernel), putF, if_pos rfl]
end
structure SeAt (CE : Addr) (N : Addr → Prop) (H : Hp) (x : Addr) (tss : Grp) (t : Pl) (m : Int) : Prop where
  ex : ∃ dx tv rv, H x = some (.ins CE dx (seF tv rv m)) ∧ LsAt N H tv tss ∧ TrAt N H rv t
theorem SeAt.same {CE x : Addr} {N : Addr → Prop} {H H' : Hp} {tss : Grp} {t : Pl} {m : Int} (s : Same H H') (h : SeAt CE N H x tss t m) : SeAt CE N H' x tss t m := by
  obtain ⟨dx, tv, rv, h1, h2, h3⟩ := h.ex
  exact ⟨dx, tv, rv, s _ _ h1, h2.lf (Same.lf s), h3.lf (Same.lf s)⟩
section
variable {P : Program} {w : World} {K : PySem.W.Frag} {mg : Str → Option Value} {base : Heap} {CE T1 : Addr}
def spSI (CE T1 : Addr) : Sp := fun vs H Q _ => ∃ (x dx : Addr) (cv tv : V) (N : Addr → Prop) (css tss : Grp), vs = [.ref x, cv, tv] ∧ H x = some (.ins CE dx []) ∧ LsAt N H cv css ∧ LsAt N H tv tss ∧ TabG H T1 ∧ css.length ≤ 10 ∧ tss.length ≤ 30 ∧ (∀ c ∈ css, c.length ≤ 1000) ∧ (∀ c ∈ tss, c.length ≤ 1000) ∧
  ∀ H', FX x T1 H H' → SeAt CE (fun a => H a = none) H' x tss (bp tss css) 0 → Q .non H'
theorem tabbed_fx {x T : Addr} {H H' : Hp} (t : Tbs [T] H H') : FX x T H H' := ⟨fun b o _ n e => t.sm b o (by simpa using n) e, t.tg T (by simp)⟩
theorem ok_SI {f fPL : Addr} {fd fdPL : FuncData} (F : Fun K "__init__" "Search.__init__" sSI f fd) (TE : TxtE K mg CE)
    (GPL : FnOk P w K mg base CX0 26 fPL fdPL ["causes", "tests"] (spPL T1)) (bPL : Binds K fdPL ["causes", "tests"] []) (gPL : mg "plan" = some (.ref fPL)) (kPL : PySem.W.keepIn K (.ref fPL) = true)
    (m_list : mg "list" = none) : FnOk P w K mg base CX0 27 f fd ["self", "causes", "tests"] (spSI CE T1) := by
  refine F.ok scSI (fun vs H Q E h => ?_) (fun cdv A outer s H vs Q E hr h => ?_)
  · obtain ⟨x, dx, cv, tv, N, css, tss, rfl, _⟩ := h
    rfl
  · obtain ⟨x, dx, cv, tv, N, css, tss, rfl, hx, hcs, hts, tg, lc, lt, lcs, lts, q⟩ := h
    have hu := hr.units
    have hu1 := hu_of hr
    have hrP : Room 26 _ := hr
    have zl := zl
    refine ⟨_, (pss_cons (ps_fld (pv 0) (pe_lc (own := [("part", 3)]) (g := gName 3) (tt := tYes) (te := tCB (fun xs H Q => ∃ p ys, xs = [.ref p] ∧ (SqL K H p ys ∨ SqT K H p ys) ∧ ∀ l, H l = none → Q (.ref l) (upd H l (.lst ys))) (tCons (tVar 3) tNil)) rfl scSI.nd (pi_list (pv 2)) (blkOk_by (N := nSI) (sc := defScope sSI) (by decide +kernel)) (fun _ _ _ _ _ => by exact pg_name (i := 3) scSI.nd rfl (.inl rfl)) (fun _ _ _ _ _ => pts_nil) (fun _ _ _ _ _ => by exact pe_callTy call_list_of (by rfl) m_list (by decide +kernel) (pa_cons (pv 3) pa_nil))) rfl)
      (pss_cons (ps_fld (pv 0) (pe_call GPL hrP (by rfl) gPL kPL bPL .nil pass0 (pa_cons (pv 1) (pa_cons (pv 2) pa_nil))) rfl)
      (pss_one (ps_fld (pv 0) (pe_int) rfl)))), ?_⟩
    dsimp only [cxOf, Cx.nox]
    obtain ⟨ta, tw, rfl, nta, hta, htw⟩ := hts
    have ltw := htw.length
    refine fld_seq ?_
    refine lc_gen (R := fun H' v c => NsAt N H' v c) (S := fun D H' v c => NsAt (fun a => H a = none ∧ a ≠ D) H' v c) (fun _ => true) (fun c => c) (.var rfl) hta (by omega) (fun H' s => htw.mono fun _ _ z => z.lf (Same.lf s))
      (fun h k z => z.lf ⟨ts_but h k, fun a xs n e => k a _ n.2 e⟩) (fun v c H' hc s hv Q' hq => hq) (fun v c H' D hc _ s hv hD Q' hq => ?_) fun D us H1 s1 nD eD hus => ?_
    · obtain ⟨a1, w1, rfl, _, h1, h2⟩ := hv
      have lc1 := lts c hc
      refine ⟨_, rfl, a1, w1, rfl, .inl (SqL.of h1), fun l nl => ?_⟩
      have sl := same_new (o := .lst w1) nl
      refine hq _ _ sl ⟨l, w1, rfl, ⟨same_none s nl, fun z => ?_⟩, upd_same, each_nm (Same.ts sl) h2⟩
      obtain ⟨us, hD⟩ := hD
      rw [z, hD] at nl
      cases nl
    rw [List.map_id', List.filter_eq_self.mpr fun _ _ => rfl] at hus
    have hD1 : LsAt (fun a => H a = none) H1 (.ref D) tss := ⟨D, us, rfl, nD, eD, hus.mono fun _ _ z => z.imp fun a h => h.1⟩
    have hx1 := s1 _ _ hx
    refine ⟨_, rfl, x, CE, dx, [], rfl, hx1, TE.cl, TE.n1, by show 0 < 1000; decide, ?_⟩
    have fx1 : FX x T1 H (upd H1 x (.ins CE dx (putF "tests" (.ref D) []))) := FX.ins (⟨fun b o _ _ e => s1 b o e, tab_same tg s1⟩ : FX x T1 H H1) hx1
    have hD2 := hD1.lf (lf_ins (o := .ins CE dx (putF "tests" (.ref D) [])) hx1)
    have hx2 : upd H1 x (.ins CE dx (putF "tests" (.ref D) [])) x = some (.ins CE dx (putF "tests" (.ref D) [])) := upd_same
    have nn2 : ∀ a, upd H1 x (.ins CE dx (putF "tests" (.ref D) [])) a = none → H a = none := fun a e => by
      by_cases z : a = x
      · rw [z, upd_same] at e
        cases e
      · rw [upd_ne z] at e
        exact same_none s1 e
    generalize upd H1 x (.ins CE dx (putF "tests" (.ref D) [])) = H2 at fx1 hD2 hx2 nn2
    clear hus eD hD1 hx1 s1
    have lf2 : LF N H H2 := fx1.lf hx tg
    refine fld_seq ?_
    refine ⟨_, rfl, _, rfl, cv, .ref ta, N, css, tss, rfl, hcs.lf lf2, ⟨ta, tw, rfl, nta, lf2.ls _ _ nta hta, htw.mono fun _ _ z => z.lf lf2⟩, fx1.tg, lc, lt, lcs, fun H3 rv t3 hrv => ?_⟩
    have hx3 := t3.at_ (tg_one fx1.tg) hx2 (fun _ z => nomatch z)
    refine ⟨_, rfl, x, CE, dx, _, rfl, hx3, TE.cl, TE.n2, by show 1 < 1000; decide, ?_⟩
    have fx3 := (fx1.tbs t3).ins (o := .ins CE dx (putF "rest" rv (putF "tests" (.ref D) []))) hx3
    have lf3 : ∀ {N : Addr → Prop}, LF N H3 (upd H3 x (.ins CE dx (putF "rest" rv (putF "tests" (.ref D) [])))) := lf_ins hx3
    have hD3 := (hD2.lf (t3.lf (tg_one fx1.tg))).lf lf3
    have hrv3 := (hrv.imp nn2).lf lf3
    have hx4 : upd H3 x (.ins CE dx (putF "rest" rv (putF "tests" (.ref D) []))) x = some (.ins CE dx (putF "rest" rv (putF "tests" (.ref D) []))) := upd_same
    clear lf3
    generalize upd H3 x (.ins CE dx (putF "rest" rv (putF "tests" (.ref D) []))) = H4 at fx3 hD3 hrv3 hx4
    refine ⟨_, rfl, x, CE, dx, _, rfl, hx4, TE.cl, TE.n3, by show 2 < 1000; decide, ?_⟩
    have lf4 : ∀ {N : Addr → Prop}, LF N H4 (upd H4 x (.ins CE dx (seF (.ref D) rv 0))) := lf_ins hx4
    exact q _ (fx3.ins (o := .ins CE dx (seF (.ref D) rv 0)) hx4) ⟨dx, .ref D, rv, upd_same, hD3.lf lf4, hrv3.lf lf4⟩
def spNP (CE : Addr) : Sp := fun vs H Q _ => ∃ (x : Addr) (N : Addr → Prop) (tss : Grp) (t : Pl) (m : Int), vs = [.ref x] ∧ SeAt CE N H x tss t m ∧
  ((∃ g, t = .found g ∧ Q .non H) ∨ ∃ (n : Nat) (b g : Pl) (part : List Nm), t = .test (n : Int) b g ∧ tss[n]? = some part ∧ ∀ H' v, Same H H' → NsAt (fun a => H a = none) H' v part → Q v H')
theorem ok_NP {f : Addr} {fd : FuncData} (F : Fun K "next_part" "Search.next_part" sNP f fd) (TE : TxtE K mg CE) (m_list : mg "list" = none) : FnOk P w K mg base CX0 1 f fd ["self"] (spNP CE) := by
  refine F.ok scNP (fun vs H Q E h => ?_) (fun cdv A outer s H vs Q E hr h => ?_)
  · obtain ⟨x, N, tss, t, m, rfl, _⟩ := h
    rfl
  · obtain ⟨x, N, tss, t, m, rfl, hS, q⟩ := h
    have hu := hr.units
    have hu1 := hu_of hr
    have zl := zl
    refine ⟨_, (pss_one (ps_ret (pe_ifExp (pt_cmpR op_eq (pe_ix ix_tup (pe_fld (pv 0) rfl) (pe_int) (fun _ _ => rfl)) (pe_str) (nomark _)) (pe_callTy call_list_of (by rfl) m_list (by decide +kernel) (pa_cons (pe_ix ix_list (pe_fld (pv 0) rfl) (pe_ix ix_tup (pe_fld (pv 0) rfl) (pe_int) (fun _ _ => rfl)) (fun _ _ => rfl)) pa_nil)) (pe_non)))), ?_⟩
    dsimp only [cxOf, Cx.nox]
    obtain ⟨dx, tv, rv, hx, h2, h3⟩ := hS.ex
    rcases q with ⟨g, rfl, q⟩ | ⟨n, b, g, part, rfl, hp, q⟩
    · obtain ⟨a, lv, rfl, h4, h5⟩ := h3
      refine ⟨_, rfl, x, CE, dx, _, _, rfl, hx, TE.cl, TE.n2, se_rest, a, _, 0, _, rfl, rfl, SqT.of h4, atI_nat (j := 0) rfl, rfl, _, rfl, no_if (decide_eq_false fun z => found_ne (V.str.inj z)) q⟩
    · obtain ⟨a, bv, gv, rfl, h4, _⟩ := h3
      obtain ⟨ta, tw, rfl, nta, hta, htw⟩ := h2
      obtain ⟨v, hv, w0⟩ := each_get htw hp
      obtain ⟨pa, pw, rfl, npa, hpa, hpw⟩ := w0
      refine ⟨_, rfl, x, CE, dx, _, _, rfl, hx, TE.cl, TE.n2, se_rest, a, _, 0, _, rfl, rfl, SqT.of h4, atI_nat (j := 0) rfl, rfl, _, rfl, yes_if (decide_eq_true rfl) ?_⟩
      refine ⟨_, rfl, x, CE, dx, _, _, rfl, hx, TE.cl, TE.n1, se_tests, _, rfl, x, CE, dx, _, _, rfl, hx, TE.cl, TE.n2, se_rest, a, _, 1, _, rfl, rfl, SqT.of h4, atI_nat (j := 1) rfl, ta, _, _, _, rfl, rfl, SqL.of hta, atI_nat (j := n) hv, pa, pw, rfl, .inl (SqL.of hpa), fun l nl => ?_⟩
      have sl := same_new (o := .lst pw) nl
      exact q _ _ sl ⟨l, pw, rfl, nl, upd_same, each_nm (Same.ts sl) hpw⟩
def spFO (CE : Addr) : Sp := fun vs H Q _ => ∃ (x : Addr) (N : Addr → Prop) (tss : Grp) (t : Pl) (m : Int), vs = [.ref x] ∧ SeAt CE N H x tss t m ∧
  ((∃ i b g, t = .test i b g ∧ Q .non H) ∨ ∃ g, t = .found g ∧ g.length ≤ 1000 ∧ (∀ c ∈ g, c.length ≤ 1000) ∧ ∀ H' v, Same H H' → LsAt (fun a => H a = none) H' v g → Q v H')
theorem ok_FO {f : Addr} {fd : FuncData} (F : Fun K "found" "Search.found" sFO f fd) (TE : TxtE K mg CE) (m_list : mg "list" = none) : FnOk P w K mg base CX0 1 f fd ["self"] (spFO CE) := by
  refine F.ok scFO (fun vs H Q E h => ?_) (fun cdv A outer s H vs Q E hr h => ?_)
  · obtain ⟨x, N, tss, t, m, rfl, _⟩ := h
    rfl
  · obtain ⟨x, N, tss, t, m, rfl, hS, q⟩ := h
    have hu := hr.units
    have hu1 := hu_of hr
    have zl := zl
    refine ⟨_, (pss_one (ps_ret (pe_ifExp (pt_cmpR op_eq (pe_ix ix_tup (pe_fld (pv 0) rfl) (pe_int) (fun _ _ => rfl)) (pe_str) (nomark _)) (pe_lc (own := [("cause", 1)]) (g := gName 1) (tt := tYes) (te := tCB (fun xs H Q => ∃ p ys, xs = [.ref p] ∧ (SqL K H p ys ∨ SqT K H p ys) ∧ ∀ l, H l = none → Q (.ref l) (upd H l (.lst ys))) (tCons (tVar 1) tNil)) rfl scFO.nd (pi_list (pe_ix ix_tup (pe_fld (pv 0) rfl) (pe_int) (fun _ _ => rfl))) (blkOk_by (N := nFO) (sc := defScope sFO) (by decide +kernel)) (fun _ _ _ _ _ => by exact pg_name (i := 1) scFO.nd rfl (.inl rfl)) (fun _ _ _ _ _ => pts_nil) (fun _ _ _ _ _ => by exact pe_callTy call_list_of (by rfl) m_list (by decide +kernel) (pa_cons (pv 1) pa_nil))) (pe_non)))), ?_⟩
    dsimp only [cxOf, Cx.nox]
    obtain ⟨dx, tv, rv, hx, h2, h3⟩ := hS.ex
    rcases q with ⟨i, b, g, rfl, q⟩ | ⟨g, rfl, lg, lgs, q⟩
    · obtain ⟨a, bv, gv, rfl, h4, _⟩ := h3
      refine ⟨_, rfl, x, CE, dx, _, _, rfl, hx, TE.cl, TE.n2, se_rest, a, _, 0, _, rfl, rfl, SqT.of h4, atI_nat (j := 0) rfl, rfl, _, rfl, no_if (decide_eq_false fun z => found_ne (V.str.inj z).symm) q⟩
    · obtain ⟨a, lv, rfl, h4, la, lw, rfl, nla, hla, hlw⟩ := h3
      refine ⟨_, rfl, x, CE, dx, _, _, rfl, hx, TE.cl, TE.n2, se_rest, a, _, 0, _, rfl, rfl, SqT.of h4, atI_nat (j := 0) rfl, rfl, _, rfl, yes_if (decide_eq_true rfl) ?_⟩
      refine lc_gen (R := fun H' v c => NsAt N H' v c) (S := fun D H' v c => NsAt (fun a => H a = none ∧ a ≠ D) H' v c) (fun _ => true) (fun c => c) (fun Q' hq => ⟨_, rfl, x, CE, dx, _, _, rfl, hx, TE.cl, TE.n2, se_rest, a, _, 1, _, rfl, rfl, SqT.of h4, atI_nat (j := 1) rfl, hq⟩) hla (by omega) (fun H' s => hlw.mono fun _ _ z => z.lf (Same.lf s))
        (fun h k z => z.lf ⟨ts_but h k, fun a xs n e => k a _ n.2 e⟩) (fun v c H' hc s hv Q' hq => hq) (fun v c H' D hc _ s hv hD Q' hq => ?_) fun D us H1 s1 nD eD hus => ?_
      · obtain ⟨a1, w1, rfl, _, h1, h2⟩ := hv
        have lc1 := lgs c hc
        refine ⟨_, rfl, a1, w1, rfl, .inl (SqL.of h1), fun l nl => ?_⟩
        have sl := same_new (o := .lst w1) nl
        refine hq _ _ sl ⟨l, w1, rfl, ⟨same_none s nl, fun z => ?_⟩, upd_same, each_nm (Same.ts sl) h2⟩
        obtain ⟨us, hD⟩ := hD
        rw [z, hD] at nl
        cases nl
      rw [List.map_id', List.filter_eq_self.mpr fun _ _ => rfl] at hus
      exact q H1 _ s1 ⟨D, us, rfl, nD, eD, hus.mono fun _ _ z => z.imp fun a h => h.1⟩
def spAN (CE : Addr) : Sp := fun vs H Q _ => ∃ (x : Addr) (bad : Bool) (N : Addr → Prop) (tss : Grp) (i : Int) (b g : Pl) (m : Int), vs = [.ref x, .bl bad] ∧ SeAt CE N H x tss (.test i b g) m ∧
  ∀ H', EX x H H' → SeAt CE N H' x tss (if bad = true then b else g) (m + 1) → Q .non H'
theorem ok_AN {f : Addr} {fd : FuncData} (F : Fun K "answer" "Search.answer" sAN f fd) (TE : TxtE K mg CE) : FnOk P w K mg base CX0 1 f fd ["self", "bad"] (spAN CE) := by
  refine F.ok scAN (fun vs H Q E h => ?_) (fun cdv A outer s H vs Q E hr h => ?_)
  · obtain ⟨x, bad, N, tss, i, b, g, m, rfl, _⟩ := h
    rfl
  · obtain ⟨x, bad, N, tss, i, b, g, m, rfl, hS, q⟩ := h
    have hu := hr.units
    have hu1 := hu_of hr
    have zl := zl
    refine ⟨_, (pss_cons (ps_fld (pv 0) (pe_ifExp (pt_val (pv 1)) (pe_ix ix_tup (pe_fld (pv 0) rfl) (pe_int) (fun _ _ => rfl)) (pe_ix ix_tup (pe_fld (pv 0) rfl) (pe_int) (fun _ _ => rfl))) rfl)
      (pss_one (ps_fldaug (pv 0) (pe_int) in_add))), ?_⟩
    dsimp only [cxOf, Cx.nox]
    obtain ⟨dx, tv, rv, hx, h2, a, bv, gv, rfl, h4, h5, h6⟩ := hS.ex
    have fin : ∀ {v : V}, TrAt N H v (if bad = true then b else g) → upd (upd H x (.ins CE dx (putF "rest" v (seF tv (.ref a) m)))) x (.ins CE dx (putF "made" (.int (m + 1)) (putF "rest" v (seF tv (.ref a) m)))) = upd H x (.ins CE dx (seF tv v (m + 1))) ∧ SeAt CE N (upd H x (.ins CE dx (seF tv v (m + 1)))) x tss (if bad = true then b else g) (m + 1) := fun {v} hv => by
      refine ⟨by rw [upd_upd, se_put_rest, se_put_made], ⟨dx, tv, v, upd_same, h2.lf (lf_ins hx), hv.lf (lf_ins hx)⟩⟩
    refine fld_seq ?_
    cases bad with
    | true =>
      refine ⟨_, rfl, true, rfl, yes_if rfl ⟨_, rfl, x, CE, dx, _, _, rfl, hx, TE.cl, TE.n2, se_rest, a, _, 2, _, rfl, rfl, SqT.of h4, atI_nat (j := 2) rfl, _, rfl, x, CE, dx, _, rfl, hx, TE.cl, TE.n2, by rw [se_is]; show 3 < 1000; decide, ?_⟩⟩
      refine ⟨_, rfl, x, CE, dx, _, .int m, rfl, upd_same, TE.cl, TE.n3, by rw [se_put_rest]; exact se_made, _, _, rfl, rfl, dx, _, upd_same, by rw [se_put_rest, se_is]; show 3 < 1000; decide, ?_⟩
      obtain ⟨e, h⟩ := fin (v := bv) h5
      have := q _ (EX.upd (o := .ins CE dx (seF tv bv (m + 1)))) h
      rw [← e] at this
      exact this
    | false =>
      refine ⟨_, rfl, false, rfl, no_if rfl ⟨_, rfl, x, CE, dx, _, _, rfl, hx, TE.cl, TE.n2, se_rest, a, _, 3, _, rfl, rfl, SqT.of h4, atI_nat (j := 3) rfl, _, rfl, x, CE, dx, _, rfl, hx, TE.cl, TE.n2, by rw [se_is]; show 3 < 1000; decide, ?_⟩⟩
      refine ⟨_, rfl, x, CE, dx, _, .int m, rfl, upd_same, TE.cl, TE.n3, by rw [se_put_rest]; exact se_made, _, _, rfl, rfl, dx, _, upd_same, by rw [se_put_rest, se_is]; show 3 < 1000; decide, ?_⟩
      obtain ⟨e, h⟩ := fin (v := gv) h6
      have := q _ (EX.upd (o := .ins CE dx (seF tv gv (m + 1)))) h
      rw [← e] at this
      exact this
end
end K20
/-! what the law's own plans rest on -/
namespace K20
open PySem PySem.Spec PyProof.Rows L2 TL TR QR
open GxR (TabB TabG Tabbed)
open PySem.W (EachIs)
theorem NsAt.live {N : Addr → Prop} {H : Hp} {v : V} {c : List Nm} : NsAt N H v c → NsAt (fun a => N a ∧ H a ≠ none) H v c := fun ⟨a, ws, e, n, h, q⟩ => ⟨a, ws, e, ⟨n, by rw [h]; exact fun z => nomatch z⟩, h, q⟩
theorem LsAt.live {N : Addr → Prop} {H : Hp} {v : V} {g : Grp} : LsAt N H v g → LsAt (fun a => N a ∧ H a ≠ none) H v g := fun ⟨a, ws, e, n, h, q⟩ => ⟨a, ws, e, ⟨n, by rw [h]; exact fun z => nomatch z⟩, h, q.mono fun _ _ z => z.live⟩
theorem TrAt.live {N : Addr → Prop} {H : Hp} : ∀ {t : Pl} {v : V}, TrAt N H v t → TrAt (fun a => N a ∧ H a ≠ none) H v t
  | .found g, v, ⟨a, lv, e, h1, h2⟩ => ⟨a, lv, e, h1, h2.live⟩
  | .test i b g, v, ⟨a, bv, gv, e, h1, h2, h3⟩ => ⟨a, bv, gv, e, h1, h2.live, h3.live⟩
section
variable {P : Program} {w : World} {K : PySem.W.Frag} {σ : L2.St} {H : Hp} {ta tb : TE} {Q : VK}
theorem Sure.isN {x : V} (ha : Ev ta σ H x) : Sure (tTest (tOp (fun x y H Q => y = .non ∧ Q (.bl (decide (x = .non))) H) ta (tC .non))) σ H (x = .non) := fun R r => ha _ ⟨rfl, _, rfl, r⟩
section
variable {j : Nat} {tp tl : TE} {ga pa : Addr} {gw pw : List V} {g : Grp} {part : List Nm} {N : Addr → Prop}
theorem bad_call (hj : σ[j]? = some (some v)) {H' : Hp} (ep : Ev tp σ H' (.ref pa)) (hpa : H' pa = some (.lst pw)) (hpw : EachIs (NmAt H') pw part) (lp : part.length ≤ 1000) {c : List Nm} (hv : NsAt N H' v c) (lc : c.length ≤ 1000) {Q' : Bool → Hp → Prop} (q : ∀ H'', Same H' H'' → Q' (badB part c) H'') :
    tB (tCall spBD [] E0 (tCons tp (tCons (tVar j) tNil))) σ H' Q' := by
  obtain ⟨a1, w1, rfl, _, h1, h2⟩ := hv
  exact ep _ ⟨_, hj, pa, a1, pw, w1, part, c, rfl, hpa, hpw, h1, h2, lp, lc, fun H'' s => ⟨_, rfl, q H'' s⟩⟩
theorem lc_bad (ev : Ev tl σ H (.ref ga)) (hga : H ga = some (.lst gw)) (hgw : EachIs (NsAt N H) gw g) (lg : g.length ≤ 1000) (lgs : ∀ c ∈ g, c.length ≤ 1000)
    (hpa : H pa = some (.lst pw)) (hpw : EachIs (NmAt H) pw part) (lp : part.length ≤ 1000) (hj : ∀ v, ((wipe σ [j]).set j (some v))[j]? = some (some v)) (evp : ∀ v H', Same H H' → Ev tp ((wipe σ [j]).set j (some v)) H' (.ref pa))
    (q : ∀ D us H', Same H H' → H D = none → H' D = some (.lst us) → EachIs (NsAt N H') us (badG part g) → Q (.ref D) H') : tLc (iList K tl) (gName j) (tB (tCall spBD [] E0 (tCons tp (tCons (tVar j) tNil)))) (tVar j) [j] σ H Q := by
  have zl := zl
  have hgl := hgw.mono fun _ _ z => NsAt.live z
  refine lc_genS (R := NsAt fun a => N a ∧ H a ≠ none) (S := fun D H' v c => H D = none → NsAt (fun a => N a ∧ H a ≠ none) H' v c) (badB part) (fun c => c) ev hga (by omega) (fun H' s => hgl.mono fun _ _ z => z.lf (Same.lf s))
    (fun h k z hD => (z hD).lf ⟨ts_but h k, fun a xs n e => k a _ (fun w => n.2 (by rw [w]; exact hD)) e⟩) (fun v c H' hc s hv Q' hq => bad_call (hj v) (evp v H' s) (s _ _ hpa) (each_nm (Same.ts s) hpw) lp hv (lgs c hc) hq) (fun v c H' D hc hf s hv hD Q' hq => ⟨v, hj v, hq _ H' same_refl fun _ => hv⟩) fun D us H1 s1 nD eD hus => ?_
  rw [List.map_id'] at hus
  exact q D us H1 s1 nD eD (hus.mono fun _ _ z => (z nD).imp fun a h => h.1)
theorem lc_good (ev : Ev tl σ H (.ref ga)) (hga : H ga = some (.lst gw)) (hgw : EachIs (NsAt N H) gw g) (lg : g.length ≤ 1000) (lgs : ∀ c ∈ g, c.length ≤ 1000)
    (hpa : H pa = some (.lst pw)) (hpw : EachIs (NmAt H) pw part) (lp : part.length ≤ 1000) (hj : ∀ v, ((wipe σ [j]).set j (some v))[j]? = some (some v)) (evp : ∀ v H', Same H H' → Ev tp ((wipe σ [j]).set j (some v)) H' (.ref pa))
    (q : ∀ D us H', Same H H' → H D = none → H' D = some (.lst us) → EachIs (NsAt N H') us (goodG part g) → Q (.ref D) H') : tLc (iList K tl) (gName j) (tNot (tB (tCall spBD [] E0 (tCons tp (tCons (tVar j) tNil))))) (tVar j) [j] σ H Q := by
  have zl := zl
  have hgl := hgw.mono fun _ _ z => NsAt.live z
  refine lc_genS (R := NsAt fun a => N a ∧ H a ≠ none) (S := fun D H' v c => H D = none → NsAt (fun a => N a ∧ H a ≠ none) H' v c) (fun c => !badB part c) (fun c => c) ev hga (by omega) (fun H' s => hgl.mono fun _ _ z => z.lf (Same.lf s))
    (fun h k z hD => (z hD).lf ⟨ts_but h k, fun a xs n e => k a _ (fun w => n.2 (by rw [w]; exact hD)) e⟩) (fun v c H' hc s hv Q' hq => bad_call (hj v) (evp v H' s) (s _ _ hpa) (each_nm (Same.ts s) hpw) lp hv (lgs c hc) hq) (fun v c H' D hc hf s hv hD Q' hq => ⟨v, hj v, hq _ H' same_refl fun _ => hv⟩) fun D us H1 s1 nD eD hus => ?_
  rw [List.map_id'] at hus
  exact q D us H1 s1 nD eD (hus.mono fun _ _ z => (z nD).imp fun a h => h.1)
end
end
/-! ### names, groups: sizes of their texts -/
structure GrOk (l : Lab) (k : Nat) (g : Grp) : Prop where
  lv : l.1 < 8
  mr : l.2 ∈ marks3
  nm : ∀ c ∈ g, ∀ n ∈ c, NmG l n
  ln : ∀ c ∈ g, c.length ≤ 10
  lg : g.length ≤ k
theorem rp_lab {l : Lab} (h1 : l.1 < 8) (h2 : l.2 ∈ marks3) : Rp 20 3 (labD l) := by
  unfold labD
  have hm : l.2.length ≤ 2 ∧ ∀ m ∈ l.2, m ≤ 4 := by
    rcases List.mem_cons.mp h2 with e | h2
    · rw [e]; exact ⟨by decide, (fun _ h => nomatch h)⟩
    rcases List.mem_cons.mp h2 with e | h2
    · rw [e]; exact ⟨by decide, by decide⟩
    rw [List.mem_singleton.mp h2]
    exact ⟨by decide, by decide⟩
  have a : RpAll (1 * 2) 0 (l.2.map fun m : Nat => PyData.int (m : Int)) := RpAll.mono (RpAll.map (b := 0) fun m h => rp_int (by have := hm.2 m h; omega)) (Nat.mul_le_mul_left _ hm.1) (Nat.le_refl _)
  exact (RpAll.cons (rp_kw (s := "label") (b := 5) (k := 2) (by decide +kernel) (by decide +kernel)) (RpAll.cons (rp_int (b := 0) (k := 2) (n := l.1) (by omega)) (RpAll.cons (a.tup.mono (Nat.le_refl _) (by decide)) (RpAll.nil (b := 0))))).tup.mono (by decide) (by decide)
theorem auth_ok {a : List Nat} (h : a ∈ auths) : (∀ c ∈ a, c ≤ 122) ∧ a.length ≤ 3 := by
  rcases List.mem_cons.mp h with e | h
  · rw [e]; decide
  rcases List.mem_cons.mp h with e | h
  · rw [e]; decide
  rw [List.mem_singleton.mp h]
  decide
theorem rp_nm {l : Lab} {n : Nm} (h1 : l.1 < 8) (h2 : l.2 ∈ marks3) (h : NmG l n) : Rp 40 4 (nmD n) := by
  unfold nmD
  rw [h.lb]
  have ha := auth_ok h.au
  exact (RpAll.cons (rp_lab h1 h2) (RpAll.cons (rp_str (fun c hc => .inl (ha.1 c hc)) ha.2) (RpAll.cons (rp_int (b := 0) (by have := h.nm; omega)) (RpAll.nil (b := 0))))).tup.mono (by decide) (by decide)
theorem rp_gr {l : Lab} {k : Nat} {g : Grp} (h : GrOk l k g) : Rp (500 * k) 6 (grD g) := by
  unfold grD
  have a : RpAll (500 * k) 5 (g.map nsD) := RpAll.mono (RpAll.map (b := 450) fun c hc => by
    unfold nsD
    exact (RpAll.mono (RpAll.map (b := 40) fun n hn => rp_nm h.lv h.mr (h.nm c hc n hn)) (Nat.mul_le_mul_left 41 (h.ln c hc)) (Nat.le_refl _)).lst.mono (by decide) (by decide)) (Nat.mul_le_mul (by decide) h.lg) (Nat.le_refl _)
  exact a.lst
theorem gr_facts {l : Lab} {k : Nat} {g : Grp} (h : GrOk l k g) (hk : k ≤ 100) : (grD g).showable = true ∧ (grD g).hasDict = false ∧ (grD g).depth ≤ 60 ∧ (grD g).shown.length ≤ sizeLine := by
  have b := rp_gr h
  have : 500 * k ≤ 50000 := by omega
  exact ⟨b.s, b.h, Nat.le_trans b.k (by decide), PyData.shown_fits_bulk (B := 8) (by decide) (by decide) b.l (Nat.le_trans b.b (Nat.le_trans this (by decide)))⟩
theorem GrOk.sub {l : Lab} {k : Nat} {g g' : Grp} (h : GrOk l k g) (s : ∀ c ∈ g', c ∈ g) (lg : g'.length ≤ k) : GrOk l k g' := ⟨h.lv, h.mr, fun c hc => h.nm c (s c hc), fun c hc => h.ln c (s c hc), lg⟩
theorem named_sub {css : Grp} {b : Nat} {c : List Nm} (h : c ∈ namedL css b) : c ∈ css := by
  unfold namedL enumFM at h
  obtain ⟨p, hp, rfl⟩ := List.mem_map.mp h
  have := (List.mem_filter.mp hp).1
  obtain ⟨_, _, e⟩ := List.mem_zipIdx this
  show p.1 ∈ css
  rw [e]
  exact List.getElem_mem _
theorem GrOk.named {l : Lab} {k : Nat} {css : Grp} (h : GrOk l k css) (b : Nat) : GrOk l k (namedL css b) := h.sub (fun _ => named_sub) (Nat.le_trans (named_le _ _) h.lg)
end K20
namespace K20
open PySem PySem.Spec PyProof.Rows L2 TL TR QR
open GxR (TabB TabG Tabbed)
open PySem.W (EachIs)
/-- the text of a group, as a key -/
def txG (g : Grp) : L2.Key := .inr (grD g).shown
/-- what is known of a group: the fewest tests, and the first test -/
def ValAt (H : Hp) (v : V) (tss g : Grp) : Prop := ∃ t, v = .ref t ∧ H t = some (.tup [.int (fw tss g : Int), oN (firstT tss g)])
theorem ValAt.ts {H H' : Hp} {v : V} {tss g : Grp} (s : TS H H') : ValAt H v tss g → ValAt H' v tss g := fun ⟨t, e, h⟩ => ⟨t, e, s _ _ h⟩
theorem putK_keys {κ α : Type} [DecidableEq κ] (kvs : List (κ × α)) (k : κ) (f : κ × α → κ × α) (hf : ∀ p, (f p).1 = p.1) : (kvs.map f).map (·.1) = kvs.map (·.1) := by
  rw [List.map_map]
  exact List.map_congr_left fun p _ => hf p
theorem putK_nd {κ : Type} [DecidableEq κ] {kvs : List (κ × V)} {k : κ} {v : V} (h : (kvs.map (·.1)).Nodup) : ((putK kvs k v).map (·.1)).Nodup := by
  unfold putK
  split
  · rw [putK_keys kvs k _ fun p => by split <;> rfl]
    exact h
  · rename_i hn
    rw [List.map_append]
    refine List.nodup_append.mpr ⟨h, by simp, fun a ha b hb e => hn ?_⟩
    rw [List.mem_singleton.mp hb] at e
    obtain ⟨p, hp, rfl⟩ := List.mem_map.mp ha
    rw [List.any_eq_true]
    exact ⟨p, hp, decide_eq_true e⟩
theorem valV_of {κ : Type} [DecidableEq κ] : ∀ {kvs : List (κ × V)} {p : κ × V}, p ∈ kvs → ∃ v, valV kvs p.1 = some v
  | q :: r, p, h => by
    by_cases e : q.1 = p.1
    · exact ⟨_, valV_pos e⟩
    · rcases List.mem_cons.mp h with rfl | h
      · exact absurd rfl e
      · rw [valV_neg e]
        exact valV_of h
structure KnG (H : Hp) (kd : Addr) (css tss : Grp) (kvs : List (L2.Key × V)) : Prop where
  ex : H kd = some (.dK kvs)
  nd : (kvs.map (·.1)).Nodup
  vl : ∀ k v, valV kvs k = some v → ∃ b, b < 2 ^ css.length ∧ k = txG (namedL css b) ∧ ValAt H v tss (namedL css b)
section
variable {l : Lab} {H H' : Hp} {kd : Addr} {css tss : Grp} {kvs : List (L2.Key × V)} {bits : Nat}
theorem txG_inj {k : Nat} {g g' : Grp} (h : GrOk l k g) (h' : GrOk l k g') (e : txG g = txG g') : g = g' := gr_inj h.nm h'.nm (Sum.inr.inj e)
theorem KnG.same (s : Same H H') (h : KnG H kd css tss kvs) : KnG H' kd css tss kvs := ⟨s _ _ h.ex, h.nd, fun k v e => let ⟨b, h1, h2, h3⟩ := h.vl k v e; ⟨b, h1, h2, h3.ts (Same.ts s)⟩⟩
theorem KnG.len (h : KnG H kd css tss kvs) (lc : css.length ≤ 10) : kvs.length ≤ 1024 := by
  have := nd_len h.nd (m := (List.range (2 ^ css.length)).map fun b => txG (namedL css b)) fun k hk => by
    obtain ⟨p, hp, rfl⟩ := List.mem_map.mp hk
    obtain ⟨v, hv⟩ := valV_of hp
    obtain ⟨b, hb, e, _⟩ := h.vl _ _ hv
    exact List.mem_map.mpr ⟨b, List.mem_range.mpr hb, e.symm⟩
  rw [List.length_map, List.length_map, List.length_range] at this
  exact Nat.le_trans this (Nat.le_trans (Nat.pow_le_pow_right (by decide) lc) (by decide))
/-- what is looked up is right -/
theorem KnG.get (ok : GrOk l 10 css) (h : KnG H kd css tss kvs) {v : V} (e : valV kvs (txG (namedL css bits)) = some v) : ValAt H v tss (namedL css bits) := by
  obtain ⟨b, _, h2, h3⟩ := h.vl _ _ e
  rw [txG_inj (ok.named bits) (ok.named b) h2]
  exact h3
/-- a value is stored -/
theorem KnG.store (h : KnG H kd css tss kvs) (lt : bits < 2 ^ css.length) {v : V} (hv : ValAt H v tss (namedL css bits)) :
    KnG (upd H kd (.dK (putK kvs (txG (namedL css bits)) v))) kd css tss (putK kvs (txG (namedL css bits)) v) := by
  have ts : ∀ o, TS H (upd H kd o) := fun o b xs e => (upd_ne fun z => by rw [z, h.ex] at e; cases e).trans e
  refine ⟨upd_same, putK_nd h.nd, fun k v' e => ?_⟩
  rw [valV_put] at e
  by_cases z : k = txG (namedL css bits)
  · rw [if_pos z] at e
    rw [← Option.some.inj e]
    exact ⟨bits, lt, z, hv.ts (ts _)⟩
  · rw [if_neg z] at e
    obtain ⟨b, h1, h2, h3⟩ := h.vl k v' e
    exact ⟨b, h1, h2, h3.ts (ts _)⟩
end
section
variable {P : Program} {w : World} {K : PySem.W.Frag} {mg : Str → Option Value} {base : Heap}
def spLF (c : Nat) : Sp := fun vs H Q _ => ∃ (tv gv : V) (kd : Addr) (N : Addr → Prop) (l : Lab) (css tss : Grp) (es : List (L2.Key × V)) (bits : Nat), vs = [tv, gv, .ref kd] ∧ LsAt N H tv tss ∧ LsAt N H gv (namedL css bits) ∧ KnG H kd css tss es ∧ GrOk l 10 css ∧ tss.length ≤ 30 ∧ (∀ t ∈ tss, t.length ≤ 1000) ∧ bits < 2 ^ css.length ∧ (namedL css bits).length < c ∧
  ∀ H' es' v, EX kd H H' → KnG H' kd css tss es' → ValAt H' v tss (namedL css bits) → Q v H'
abbrev sLF : Stmt := topS 24
abbrev nLF : List Str := ["tests", "group", "known", "key", "best", "index", "bad", "good", "count", "cause"]
theorem scLF : FnScope nLF ["tests", "group", "known"] (defScope sLF) := ⟨rfl, rfl, rfl, by decide +kernel, rfl, by decide +kernel, by decide +kernel⟩
theorem ok_LF0 {f : Addr} {fd : FuncData} {k : Nat} : FnG P w K mg base k f fd ["tests", "group", "known"] (spLF 0) :=
  ⟨fun vs H Q E ⟨_, _, _, _, _, _, _, _, _, _, _, _, _, _, _, _, _, h, _⟩ => absurd h (Nat.not_lt_zero _), fun A outer s H args us vs Q E hg hr he hb hv ⟨_, _, _, _, _, _, _, _, _, _, _, _, _, _, _, _, _, h, _⟩ => absurd h (Nat.not_lt_zero _)⟩
theorem ok_LF {c : Nat} {f fBD : Addr} {fd fdBD : FuncData} (F : Fun K "_law_fewest" "_law_fewest" sLF f fd)
    (GBD : FnOk P w K mg base CX0 1 fBD fdBD ["part", "cause"] spBD) (bBD : Binds K fdBD ["part", "cause"] []) (gBD : mg "_law_bad" = some (.ref fBD)) (kBD : PySem.W.keepIn K (.ref fBD) = true)
    (GLF : FnG P w K mg base (c + 2) f fd ["tests", "group", "known"] (spLF c)) (bLF : Binds K fd ["tests", "group", "known"] []) (gLF : mg "_law_fewest" = some (.ref f)) (kLF : PySem.W.keepIn K (.ref f) = true)
    (m_repr : mg "repr" = none) (m_len : mg "len" = none) (m_range : mg "range" = none) (m_max : mg "max" = none) : FnG P w K mg base (c + 3) f fd ["tests", "group", "known"] (spLF (c + 1)) := by
  refine fn_G F scLF (fun vs H Q E h => ?_) (fun cdv A outer s H vs Q E hgd hr h => ?_)
  · obtain ⟨tv, gv, kd, N, l, css, tss, es, bits, rfl, _⟩ := h
    rfl
  · obtain ⟨tv, gv, kd, N, l, css, tss, es, bits, rfl, hts, hgs, hK, ok, lts, ltl, hlt, hc, q⟩ := h
    have hu := hr.units
    have hu1 := hu_of hr
    have hr1 : Room 1 _ := hr.mono (by omega)
    have hrL : Room (c + 2) _ := hr
    have zl := zl
    refine ⟨_, (pss_cons (ps_set (i := 3) scLF.nd rfl (.inl rfl) (pe_callB (GX.cr_repr hgd hu) (by rfl) m_repr (by decide +kernel) (pa_cons (pv 1) pa_nil)))
      (pss_cons (ps_if (pt_cmp (pc_dnotin hu1 (pv 3) (pv 2)))
      (pss_cons (ps_set (i := 4) scLF.nd rfl (.inl rfl) (pe_tup (pa_cons (pe_int) (pa_cons (pe_non) pa_nil))))
      (pss_cons (ps_for PassesOwn.never rfl (pi_range1 (by rfl) m_range (pa_cons (pe_callB call_len_seq (by rfl) m_len PySem.boot_len (pa_cons (pv 0) pa_nil)) pa_nil)) (pg_name (i := 5) scLF.nd rfl (.inr rfl))
      (pss_cons (ps_setLc (i := 6) (own := [("cause", 9)]) (g := gName 9) (tt := tB (tCall spBD [] E0 (tCons (tOp (rIxL K) (tVar 0) (tVar 5)) (tCons (tVar 9) tNil)))) (te := tVar 9) rfl scLF.nd rfl rfl (sw_true rfl rfl rfl (by decide +kernel)) (pi_list (pv 1)) (blkOk_by (N := nLF) (sc := defScope sLF) (by decide +kernel)) (fun _ _ _ _ _ => by exact pg_name (i := 9) scLF.nd rfl (.inl rfl)) (fun _ _ _ _ _ => by exact pts_one (pt_val (pe_call GBD hr1 (by rfl) gBD kBD bBD .nil pass0 (pa_cons (pe_ix ix_list (pv 0) (pv 5) (fun _ _ => rfl)) (pa_cons (pv 9) pa_nil))))) (fun _ _ _ _ _ => by exact pv 9))
      (pss_cons (ps_setLc (i := 7) (own := [("cause", 9)]) (g := gName 9) (tt := tNot (tB (tCall spBD [] E0 (tCons (tOp (rIxL K) (tVar 0) (tVar 5)) (tCons (tVar 9) tNil))))) (te := tVar 9) rfl scLF.nd rfl rfl (sw_true rfl rfl rfl (by decide +kernel)) (pi_list (pv 1)) (blkOk_by (N := nLF) (sc := defScope sLF) (by decide +kernel)) (fun _ _ _ _ _ => by exact pg_name (i := 9) scLF.nd rfl (.inl rfl)) (fun _ _ _ _ _ => by exact pts_one (pt_not (pt_val (pe_call GBD hr1 (by rfl) gBD kBD bBD .nil pass0 (pa_cons (pe_ix ix_list (pv 0) (pv 5) (fun _ _ => rfl)) (pa_cons (pv 9) pa_nil)))))) (fun _ _ _ _ _ => by exact pv 9))
      (pss_one (ps_if (PW.pt (pw_and (pt_cmpR op_gt (pe_callB call_len_seq (by rfl) m_len PySem.boot_len (pa_cons (pv 6) pa_nil)) (pe_int) (nomark _)) (pw_and1 (pt_cmpR op_gt (pe_callB call_len_seq (by rfl) m_len PySem.boot_len (pa_cons (pv 7) pa_nil)) (pe_int) (nomark _)))))
      (pss_cons (ps_set (i := 8) scLF.nd rfl (.inl rfl) (pe_op op_add (pe_int) (pe_callB (call_max2 rfl) (by rfl) m_max (by decide +kernel) (pa_cons (pe_ix ix_tup (pe_callG GLF hgd hrL (by rfl) gLF kLF bLF .nil pass0 (pa_cons (pv 0) (pa_cons (pv 6) (pa_cons (pv 2) pa_nil)))) (pe_int) (fun _ _ => rfl)) (pa_cons (pe_ix ix_tup (pe_callG GLF hgd hrL (by rfl) gLF kLF bLF .nil pass0 (pa_cons (pv 0) (pa_cons (pv 7) (pa_cons (pv 2) pa_nil)))) (pe_int) (fun _ _ => rfl)) pa_nil)))))
      (pss_one (ps_if (PW.pt (pw_or (pt_cmpR op_isN (pe_ix ix_tup (pv 4) (pe_int) (fun _ _ => rfl)) (pe_non) (nomark _)) (pw_or1 (pt_cmpR op_lt (pv 8) (pe_ix ix_tup (pv 4) (pe_int) (fun _ _ => rfl)) (nomark _)))))
      (pss_one (ps_set (i := 4) scLF.nd rfl (.inl rfl) (pe_tup (pa_cons (pv 8) (pa_cons (pv 5) pa_nil))))) pss_nil))) pss_nil)))))
      (pss_one (ps_dput hu1 (pv 2) (pv 3) (pv 4) rfl)))) pss_nil)
      (pss_one (ps_ret (pe_dget hu1 (pv 2) (pv 3) (fun _ _ => rfl)))))), ?_⟩
    dsimp only [cxOf, Cx.nox]
    obtain ⟨ta, tw, rfl, nta, hta, htw⟩ := hts
    obtain ⟨ga, gw, rfl, nga, hga, hgw⟩ := hgs
    have ok' := ok.named bits
    obtain ⟨f1, f2, f3, f4⟩ := gr_facts ok' (by decide)
    have dg : Dp K H (.ref ga) (grD (namedL css bits)) := LsAt.dp ⟨ga, gw, rfl, nga, hga, hgw⟩
    refine asg_seq ?_
    refine ⟨_, rfl, ga, _, rfl, dg, f1, f2, f3, f4, ?_⟩
    dsimp only
    have taD : ta ≠ kd := fun e => by rw [e, hK.ex] at hta; cases hta
    have gaD : ga ≠ kd := fun e => by rw [e, hK.ex] at hga; cases hga
    refine tseq_intro (fun σ' H' => ∃ (y4 y5 y6 y7 y8 y9 : Option V) (es' : List (L2.Key × V)) (v : V), σ' = [some (.ref ta), some (.ref ga), some (.ref kd), some (.str (grD (namedL css bits)).shown), y4, y5, y6, y7, y8, y9] ∧ EX kd H H' ∧ KnG H' kd css tss es' ∧ valV es' (txG (namedL css bits)) = some v) ?_ fun NN hN => ?_
    · rintro σ' H1 ⟨y4, y5, y6, y7, y8, y9, es', v, rfl, ex, hK1, hv⟩
      have gg := DGet.k (k := txG (namedL css bits)) hK1.ex
      rw [hv] at gg
      exact ⟨_, rfl, _, rfl, kd, v, rfl, gg, q _ _ _ ex hK1 (hK1.get ok hv)⟩
    · refine ⟨_, rfl, _, rfl, kd, _, rfl, DGet.k (k := txG (namedL css bits)) hK.ex, _, rfl, ?_⟩
      cases e : valV es (txG (namedL css bits)) with
      | some v => exact no_if rfl (hN _ _ ⟨_, _, _, _, _, _, es, v, rfl, EX.refl, hK, e⟩)
      | none =>
        refine yes_if rfl ?_
        refine asg_seq ⟨by show 2 ≤ sizeLine; omega, fun b0 nb0 => ?_⟩
        have s0 := same_new (o := .tup [.int 0, .non]) nb0
        have e0 : upd H b0 (.tup [.int 0, .non]) b0 = some (.tup [.int 0, .non]) := upd_same
        generalize upd H b0 (.tup [.int 0, .non]) = H0 at s0 e0
        dsimp only
        refine tseq_intro (fun σ' H' => ∃ (bt : Addr) (y5 y6 y7 y8 y9 : Option V) (es' : List (L2.Key × V)), σ' = [some (.ref ta), some (.ref ga), some (.ref kd), some (.str (grD (namedL css bits)).shown), some (.ref bt), y5, y6, y7, y8, y9] ∧ EX kd H H' ∧ KnG H' kd css tss es' ∧ H' bt = some (.tup [.int (fw tss (namedL css bits) : Int), oN (firstT tss (namedL css bits))])) ?_ fun N2 hN2 => ?_
        · rintro σ' H1 ⟨bt, y5, y6, y7, y8, y9, es', rfl, ex, hK1, hbt⟩
          have hK2 := hK1.store hlt (v := .ref bt) ⟨bt, rfl, hbt⟩
          refine ⟨_, rfl, _, rfl, _, rfl, kd, _, rfl, DPut.k (k := txG (namedL css bits)) hK1.ex (by
            have := hK1.len ok.lg
            omega), hN _ _ ⟨_, _, _, _, _, _, _, .ref bt, rfl, fun b o n e => by rw [upd_ne n]; exact ex b o n e, hK2, by rw [valV_put, if_pos rfl]⟩⟩
        · have hta0 := s0 _ _ hta
          refine for_rng (Ev.len (.var rfl) hta0) ?_
          have ltw := htw.length
          have lgw := hgw.length
          refine ⟨_, rfl, by omega, by omega, ?_⟩
          refine for_it (walk_range (lo := 0) (n := ((tw.length : Nat) : Int).toNat)) (fun i σ' H' => ∃ (bt : Addr) (y5 y6 y7 y8 y9 : Option V) (es' : List (L2.Key × V)), σ' = [some (.ref ta), some (.ref ga), some (.ref kd), some (.str (grD (namedL css bits)).shown), some (.ref bt), y5, y6, y7, y8, y9] ∧ EX kd H H' ∧ KnG H' kd css tss es' ∧ H' bt = some (.tup [.int ((pickB ((tss.take i).map (valO tss (namedL css bits)))).1 : Int), oN (pickB ((tss.take i).map (valO tss (namedL css bits)))).2]))
            ⟨b0, none, none, none, none, none, es, rfl, EX.same s0, hK.same s0, e0⟩ ?_ ?_ ?_
          · exact fun _ _ _ _ _ => trivial
          · rintro i x σ' H1 H1' hi ⟨bt, y5, y6, y7, y8, y9, es1, rfl, ex1, hK1, hbt⟩ ⟨rfl, rfl⟩
            have li : i < tss.length := by omega
            have hti : tss[i]? = some tss[i] := List.getElem?_eq_getElem li
            generalize tss[i] = part at hti
            obtain ⟨pv, hpv, pa, pw, rfl, npa, hpa, hpw⟩ := each_get htw hti
            have paD : pa ≠ kd := fun e => by rw [e, hK.ex] at hpa; cases hpa
            have lpart := ltl part (List.mem_of_getElem? hti)
            have ts1 : TS H H1' := ex1.ts hK.ex
            have lf1 : LF N H H1' := ex1.lf hK.ex
            have lcs : ∀ c ∈ namedL css bits, c.length ≤ 1000 := fun c hc => by have := ok'.ln c hc; omega
            have lgb := ok'.lg
            have hta1 := ex1 _ _ taD hta
            have hga1 := ex1 _ _ gaD hga
            have hpa1 := ex1 _ _ paD hpa
            refine name_to ?_
            dsimp only
            rw [Int.zero_add]
            refine asg_seq ?_
            have evp : ∀ {y6 y7 y8 : Option V} {H2 : Hp} (s2 : Same H1' H2) (v : V) (H' : Hp), Same H2 H' → Ev (tOp (rIxL K) (tVar 0) (tVar 5)) ([some (.ref ta), some (.ref ga), some (.ref kd), some (.str (grD (namedL css bits)).shown), some (.ref bt), some (.int (i : Int)), y6, y7, y8, some v]) H' (.ref pa) := fun s2 v H' s => Ev.ixL (i := i) (.var rfl) (.var rfl) (s _ _ (s2 _ _ hta1)) hpv
            refine lc_bad (.var rfl) hga1 (hgw.mono fun _ _ z => z.lf lf1) (by omega) lcs hpa1 (each_nm ts1 hpw) lpart (fun _ => rfl) (fun v H' s => evp same_refl v H' s) fun B bw H2 s2 nB eB hbw => ?_
            refine asg_seq ?_
            refine lc_good (.var rfl) (s2 _ _ hga1) (hgw.mono fun _ _ z => (z.lf lf1).lf (Same.lf s2)) (by omega) lcs (s2 _ _ hpa1) (each_nm (Same.ts s2) (each_nm ts1 hpw)) lpart (fun _ => rfl) (fun v H' s => evp s2 v H' s) fun G gw2 H3 s3 nG eG hgw2 => ?_
            have s13 := same_trans s2 s3
            have eB3 := s3 _ _ eB
            have hbw3 := hbw.mono fun _ _ z => NsAt.lf (Same.lf s3) z
            have lbw := hbw.length
            have lgw2 := hgw2.length
            have ex3 := ex1.trans (EX.same s13)
            have hK3 := hK1.same s13
            have hbt3 := s13 _ _ hbt
            have eTake : (tss.take (i + 1)).map (valO tss (namedL css bits)) = (tss.take i).map (valO tss (namedL css bits)) ++ [valO tss (namedL css bits) part] := by
              rw [List.take_add_one, hti, List.map_append]
              rfl
            have lTake : ((tss.take i).map (valO tss (namedL css bits))).length = i := by
              rw [List.length_map, List.length_take]
              omega
            refine ifS (p := 0 < bw.length ∧ 0 < gw2.length) (Sure.and (Sure.gt (j := 0) (Ev.len (.var rfl) eB3) .con) fun _ => Sure.gt (j := 0) (Ev.len (.var rfl) eG) .con) (fun yes => ?_) fun no => ?_
            · have sp : splitB part (namedL css bits) = true := decide_eq_true ⟨List.length_pos_iff.mp (by omega), List.length_pos_iff.mp (by omega)⟩
              obtain ⟨c1, c2, _⟩ := split_len sp
              have le : bits &&& kindN css part ≤ bits := Nat.and_le_left
              have vl : valO tss (namedL css bits) part = some (1 + max (fw tss (badG part (namedL css bits))) (fw tss (goodG part (namedL css bits)))) := by
                unfold valO
                rw [if_pos sp]
                rfl
              rw [vl] at eTake
              have hB3 : LsAt (fun _ => True) H3 (.ref B) (namedL css (bits &&& kindN css part)) := ⟨B, bw, rfl, trivial, eB3, by rw [named_bad]; exact hbw3.mono fun _ _ z => z.imp fun _ _ => trivial⟩
              have hG3 : LsAt (fun _ => True) H3 (.ref G) (namedL css (bits - (bits &&& kindN css part))) := ⟨G, gw2, rfl, trivial, eG, by rw [named_good]; exact hgw2.mono fun _ _ z => z.imp fun _ _ => trivial⟩
              have hT3 : LsAt (fun _ => True) H3 (.ref ta) tss := ⟨ta, tw, rfl, trivial, s13 _ _ hta1, htw.mono fun _ _ z => ((z.lf lf1).lf (Same.lf s13)).imp fun _ _ => trivial⟩
              rw [← named_bad] at c1 vl eTake
              rw [← named_good] at c2 vl eTake
              refine asg_seq ?_
              refine ⟨_, rfl, _, rfl, _, rfl, .ref ta, .ref B, kd, fun _ => True, l, css, tss, es1, _, rfl, hT3, hB3, hK3, ok, lts, ltl, and_lt hlt, by omega, fun H4 es4 v4 ex4 hK4 ⟨t4, e4, ht4⟩ => ?_⟩
              subst e4
              refine ⟨t4, _, 0, _, rfl, rfl, SqT.of ht4, atI_nat (j := 0) rfl, ?_⟩
              have lf4 : LF (fun _ => True) H3 H4 := ex4.lf hK3.ex
              refine ⟨_, rfl, _, rfl, _, rfl, .ref ta, .ref G, kd, fun _ => True, l, css, tss, es4, _, rfl, hT3.lf lf4, hG3.lf lf4, hK4, ok, lts, ltl, Nat.lt_of_le_of_lt (Nat.sub_le _ _) hlt, by omega, fun H5 es5 v5 ex5 hK5 ⟨t5, e5, ht5⟩ => ?_⟩
              subst e5
              refine ⟨t5, _, 0, _, rfl, rfl, SqT.of ht5, atI_nat (j := 0) rfl, _, _, rfl, _, _, rfl, rfl, ?_⟩
              dsimp only
              rw [one_max]
              have ex5' := (ex3.trans ex4).trans ex5
              have ts5 : TS H3 H5 := (ex4.ts hK3.ex).trans (ex5.ts hK4.ex)
              have hbt5 := ts5 _ _ hbt3
              have epick := pick_some ((tss.take i).map (valO tss (namedL css bits))) (1 + max (fw tss (namedL css (bits &&& kindN css part))) (fw tss (namedL css (bits - (bits &&& kindN css part)))))
              rw [← eTake, lTake] at epick
              generalize pickB ((tss.take i).map (valO tss (namedL css bits))) = pk at hbt5 epick
              refine ifS (p := oN pk.2 = .non ∨ 1 + max (fw tss (namedL css (bits &&& kindN css part))) (fw tss (namedL css (bits - (bits &&& kindN css part)))) < pk.1) (Sure.or (Sure.isN (Ev.ixT (i := 1) (.var rfl) .con hbt5 rfl)) fun _ => Sure.lt (.var rfl) (Ev.ixT (i := 0) (.var rfl) .con hbt5 rfl)) (fun yes2 => ?_) fun no2 => ?_
              · refine ⟨_, rfl, _, rfl, by show 2 ≤ sizeLine; omega, fun b6 nb6 => ?_⟩
                refine ⟨b6, _, _, _, _, _, es5, rfl, ex5'.trans (EX.same (same_new nb6)), hK5.same (same_new nb6), ?_⟩
                rw [upd_same, epick, if_pos]
                · rfl
                · rcases yes2 with z | z
                  · refine .inl ?_
                    cases e : pk.2 with
                    | none => rfl
                    | some j =>
                      rw [e] at z
                      cases z
                  · exact .inr z
              · refine ⟨bt, _, _, _, _, _, es5, rfl, ex5', hK5, ?_⟩
                rw [hbt5, epick, if_neg]
                rintro (z | z)
                · exact no2 (.inl (by rw [z]; rfl))
                · exact no2 (.inr z)
            · have sp : splitB part (namedL css bits) = false := decide_eq_false fun z => no ⟨by have := List.length_pos_iff.mpr z.1; omega, by have := List.length_pos_iff.mpr z.2; omega⟩
              have vl : valO tss (namedL css bits) part = none := by
                unfold valO
                rw [if_neg (by rw [sp]; decide)]
              rw [vl] at eTake
              refine ⟨bt, _, _, _, _, _, es1, rfl, ex3, hK3, ?_⟩
              rw [hbt3, eTake, pick_none]
          · rintro σ' H1 ⟨bt, y5, y6, y7, y8, y9, es1, rfl, ex1, hK1, hbt⟩
            rw [List.take_of_length_le (by omega), pick_fw] at hbt
            exact hN2 _ _ ⟨bt, _, _, _, _, _, es1, rfl, ex1, hK1, hbt⟩
end
end K20
namespace K20
open PySem PySem.Spec PyProof.Rows L2 TL TR QR
open GxR (TabB TabG Tabbed)
open PySem.W (EachIs)
section
variable {P : Program} {w : World} {K : PySem.W.Frag} {mg : Str → Option Value} {base : Heap}
def spLP (d : Nat) : Sp := fun vs H Q _ => ∃ (tv gv : V) (kd : Addr) (N : Addr → Prop) (l : Lab) (css tss : Grp) (es : List (L2.Key × V)) (bits : Nat), vs = [tv, gv, .ref kd] ∧ LsAt N H tv tss ∧ LsAt N H gv (namedL css bits) ∧ KnG H kd css tss es ∧ GrOk l 10 css ∧ tss.length ≤ 30 ∧ (∀ t ∈ tss, t.length ≤ 1000) ∧ bits < 2 ^ css.length ∧ (namedL css bits).length < d ∧
  ∀ H' es' v, EX kd H H' → KnG H' kd css tss es' → TrAt (fun a => N a ∨ H a = none) H' v (bp tss (namedL css bits)) → Q v H'
abbrev sLP : Stmt := topS 25
abbrev nLP : List Str := ["tests", "group", "known", "index", "bad", "good", "cause"]
theorem scLP : FnScope nLP ["tests", "group", "known"] (defScope sLP) := ⟨rfl, rfl, rfl, by decide +kernel, rfl, by decide +kernel, by decide +kernel⟩
theorem ok_LP0 {f : Addr} {fd : FuncData} {k : Nat} : FnG P w K mg base k f fd ["tests", "group", "known"] (spLP 0) :=
  ⟨fun vs H Q E ⟨_, _, _, _, _, _, _, _, _, _, _, _, _, _, _, _, _, h, _⟩ => absurd h (Nat.not_lt_zero _), fun A outer s H args us vs Q E hg hr he hb hv ⟨_, _, _, _, _, _, _, _, _, _, _, _, _, _, _, _, _, h, _⟩ => absurd h (Nat.not_lt_zero _)⟩
theorem ok_LP {d : Nat} {f fBD fLF : Addr} {fd fdBD fdLF : FuncData} (F : Fun K "_law_plan" "_law_plan" sLP f fd)
    (GBD : FnOk P w K mg base CX0 1 fBD fdBD ["part", "cause"] spBD) (bBD : Binds K fdBD ["part", "cause"] []) (gBD : mg "_law_bad" = some (.ref fBD)) (kBD : PySem.W.keepIn K (.ref fBD) = true)
    (GLF : FnG P w K mg base 13 fLF fdLF ["tests", "group", "known"] (spLF 11)) (bLF : Binds K fdLF ["tests", "group", "known"] []) (gLF : mg "_law_fewest" = some (.ref fLF)) (kLF : PySem.W.keepIn K (.ref fLF) = true)
    (GLP : FnG P w K mg base (13 + d) f fd ["tests", "group", "known"] (spLP d)) (bLP : Binds K fd ["tests", "group", "known"] []) (gLP : mg "_law_plan" = some (.ref f)) (kLP : PySem.W.keepIn K (.ref f) = true) : FnG P w K mg base (13 + d + 1) f fd ["tests", "group", "known"] (spLP (d + 1)) := by
  refine fn_G F scLP (fun vs H Q E h => ?_) (fun cdv A outer s H vs Q E hgd hr h => ?_)
  · obtain ⟨tv, gv, kd, N, l, css, tss, es, bits, rfl, _⟩ := h
    rfl
  · obtain ⟨tv, gv, kd, N, l, css, tss, es, bits, rfl, hts, hgs, hK, ok, lts, ltl, hlt, hc, q⟩ := h
    have hu := hr.units
    have hu1 := hu_of hr
    have hr1 : Room 1 _ := hr.mono (by omega)
    have hrL : Room 13 _ := hr.mono (by omega)
    have hrA : Room (13 + d) _ := hr
    have zl := zl
    refine ⟨_, (pss_cons (ps_set (i := 3) scLP.nd rfl (.inr rfl) (pe_ix ix_tup (pe_callG GLF hgd hrL (by rfl) gLF kLF bLF .nil pass0 (pa_cons (pv 0) (pa_cons (pv 1) (pa_cons (pv 2) pa_nil)))) (pe_int) (fun _ _ => rfl)))
      (pss_cons (ps_if (pt_cmpR op_isN (pv 3) (pe_non) (nomark _))
      (pss_one (ps_ret (pe_tup (pa_cons (pe_str) (pa_cons (pv 1) pa_nil))))) pss_nil)
      (pss_cons (ps_setLc (i := 4) (own := [("cause", 6)]) (g := gName 6) (tt := tB (tCall spBD [] E0 (tCons (tOp (rIxL K) (tVar 0) (tVar 3)) (tCons (tVar 6) tNil)))) (te := tVar 6) rfl scLP.nd rfl rfl (sw_true rfl rfl rfl (by decide +kernel)) (pi_list (pv 1)) (blkOk_by (N := nLP) (sc := defScope sLP) (by decide +kernel)) (fun _ _ _ _ _ => by exact pg_name (i := 6) scLP.nd rfl (.inl rfl)) (fun _ _ _ _ _ => by exact pts_one (pt_val (pe_call GBD hr1 (by rfl) gBD kBD bBD .nil pass0 (pa_cons (pe_ix ix_list (pv 0) (pv 3) (fun _ _ => rfl)) (pa_cons (pv 6) pa_nil))))) (fun _ _ _ _ _ => by exact pv 6))
      (pss_cons (ps_setLc (i := 5) (own := [("cause", 6)]) (g := gName 6) (tt := tNot (tB (tCall spBD [] E0 (tCons (tOp (rIxL K) (tVar 0) (tVar 3)) (tCons (tVar 6) tNil))))) (te := tVar 6) rfl scLP.nd rfl rfl (sw_true rfl rfl rfl (by decide +kernel)) (pi_list (pv 1)) (blkOk_by (N := nLP) (sc := defScope sLP) (by decide +kernel)) (fun _ _ _ _ _ => by exact pg_name (i := 6) scLP.nd rfl (.inl rfl)) (fun _ _ _ _ _ => by exact pts_one (pt_not (pt_val (pe_call GBD hr1 (by rfl) gBD kBD bBD .nil pass0 (pa_cons (pe_ix ix_list (pv 0) (pv 3) (fun _ _ => rfl)) (pa_cons (pv 6) pa_nil)))))) (fun _ _ _ _ _ => by exact pv 6))
      (pss_one (ps_ret (pe_tup (pa_cons (pe_str) (pa_cons (pv 3) (pa_cons (pe_callG GLP hgd hrA (by rfl) gLP kLP bLP .nil pass0 (pa_cons (pv 0) (pa_cons (pv 4) (pa_cons (pv 2) pa_nil)))) (pa_cons (pe_callG GLP hgd hrA (by rfl) gLP kLP bLP .nil pass0 (pa_cons (pv 0) (pa_cons (pv 5) (pa_cons (pv 2) pa_nil)))) pa_nil))))))))))), ?_⟩
    dsimp only [cxOf, Cx.nox]
    have ok' := ok.named bits
    have lgb := ok'.lg
    obtain ⟨ta, tw, rfl, nta, hta, htw⟩ := hts
    obtain ⟨ga, gw, rfl, nga, hga, hgw⟩ := hgs
    have taD : ta ≠ kd := fun e => by rw [e, hK.ex] at hta; cases hta
    have gaD : ga ≠ kd := fun e => by rw [e, hK.ex] at hga; cases hga
    refine asg_seq ?_
    refine ⟨_, rfl, _, rfl, _, rfl, .ref ta, .ref ga, kd, N, l, css, tss, es, bits, rfl, ⟨ta, tw, rfl, nta, hta, htw⟩, ⟨ga, gw, rfl, nga, hga, hgw⟩, hK, ok, lts, ltl, hlt, by omega, fun H1 es1 v1 ex1 hK1 ⟨t1, e1, ht1⟩ => ?_⟩
    subst e1
    refine ⟨t1, _, 1, _, rfl, rfl, SqT.of ht1, atI_nat (j := 1) rfl, ?_⟩
    dsimp only
    have ts1 : TS H H1 := ex1.ts hK.ex
    have lf1 : LF N H H1 := ex1.lf hK.ex
    have hta1 := ex1 _ _ taD hta
    have hga1 := ex1 _ _ gaD hga
    have ltw := htw.length
    have lgw := hgw.length
    have nn1 : ∀ a, H1 a = none → H a = none := fun a n => EX.none hK1.ex ex1 n
    cases ef : firstT tss (namedL css bits) with
    | none =>
      refine ⟨_, rfl, rfl, _, rfl, yes_if rfl ⟨_, rfl, by show 2 ≤ sizeLine; omega, fun p np => ?_⟩⟩
      have sp := same_new (o := .tup [.str "found", .ref ga]) np
      refine q _ es1 _ (ex1.trans (EX.same sp)) (hK1.same sp) ?_
      rw [bp_none ef]
      exact ⟨p, .ref ga, rfl, upd_same, ga, gw, rfl, .inl nga, sp _ _ hga1, hgw.mono fun _ _ z => ((z.lf lf1).lf (Same.lf sp)).imp fun _ h => .inl h⟩
    | some i =>
      obtain ⟨part, hti, hs, hv⟩ := first_some ef
      obtain ⟨c1, c2, _⟩ := split_len hs
      rw [← named_bad] at c1
      rw [← named_good] at c2
      refine ⟨_, rfl, rfl, _, rfl, no_if rfl ?_⟩
      dsimp only [tNext]
      obtain ⟨pv, hpv, pa, pw, rfl, npa, hpa, hpw⟩ := each_get htw hti
      have paD : pa ≠ kd := fun e => by rw [e, hK.ex] at hpa; cases hpa
      have lpart := ltl part (List.mem_of_getElem? hti)
      have lcs : ∀ c ∈ namedL css bits, c.length ≤ 1000 := fun c hc => by have := ok'.ln c hc; omega
      have hpa1 := ex1 _ _ paD hpa
      refine asg_seq ?_
      refine lc_bad (.var rfl) hga1 (hgw.mono fun _ _ z => z.lf lf1) (by omega) lcs hpa1 (each_nm ts1 hpw) lpart (fun _ => rfl) (fun v H' s => Ev.ixL (i := i) (.var rfl) (.var rfl) (s _ _ hta1) hpv) fun B bw H2 s2 nB eB hbw => ?_
      refine asg_seq ?_
      refine lc_good (.var rfl) (s2 _ _ hga1) (hgw.mono fun _ _ z => (z.lf lf1).lf (Same.lf s2)) (by omega) lcs (s2 _ _ hpa1) (each_nm (Same.ts s2) (each_nm ts1 hpw)) lpart (fun _ => rfl) (fun v H' s => Ev.ixL (i := i) (.var rfl) (.var rfl) (s _ _ (s2 _ _ hta1)) hpv) fun G gw2 H3 s3 nG eG hgw2 => ?_
      have s13 := same_trans s2 s3
      have nB0 := nn1 _ nB
      have nG0 := nn1 _ (same_none s2 nG)
      have hB3 : LsAt (fun a => N a ∨ H a = none) H3 (.ref B) (namedL css (bits &&& kindN css part)) := ⟨B, bw, rfl, .inr nB0, s3 _ _ eB, by rw [named_bad]; exact hbw.mono fun _ _ z => (NsAt.lf (Same.lf s3) z).imp fun _ h => .inl h⟩
      have hG3 : LsAt (fun a => N a ∨ H a = none) H3 (.ref G) (namedL css (bits - (bits &&& kindN css part))) := ⟨G, gw2, rfl, .inr nG0, eG, by rw [named_good]; exact hgw2.mono fun _ _ z => z.imp fun _ h => .inl h⟩
      have hT3 : LsAt (fun a => N a ∨ H a = none) H3 (.ref ta) tss := ⟨ta, tw, rfl, .inl nta, s13 _ _ hta1, htw.mono fun _ _ z => ((z.lf lf1).lf (Same.lf s13)).imp fun _ h => .inl h⟩
      have hK3 := hK1.same s13
      have ex3 := ex1.trans (EX.same s13)
      have nn3 : ∀ a, H3 a = none → H a = none := fun a n => nn1 a (same_none s13 n)
      refine ⟨_, rfl, _, rfl, _, rfl, _, rfl, .ref ta, .ref B, kd, _, l, css, tss, es1, _, rfl, hT3, hB3, hK3, ok, lts, ltl, and_lt hlt, by omega, fun H4 es4 v4 ex4 hK4 hv4 => ?_⟩
      have lf4 : LF (fun a => N a ∨ H a = none) H3 H4 := ex4.lf hK3.ex
      have nn4 : ∀ a, H4 a = none → H a = none := fun a n => nn3 a (EX.none hK4.ex ex4 n)
      refine ⟨_, rfl, _, rfl, _, rfl, .ref ta, .ref G, kd, _, l, css, tss, es4, _, rfl, hT3.lf lf4, hG3.lf lf4, hK4, ok, lts, ltl, Nat.lt_of_le_of_lt (Nat.sub_le _ _) hlt, by omega, fun H5 es5 v5 ex5 hK5 hv5 => ⟨by show 4 ≤ sizeLine; omega, fun p np => ?_⟩⟩
      have sp := same_new (o := .tup [.str "test", .int (i : Int), v4, v5]) np
      refine q _ es5 _ (((ex3.trans ex4).trans ex5).trans (EX.same sp)) (hK5.same sp) ?_
      rw [bp_some ef hti]
      rw [named_bad] at hv4
      rw [named_good] at hv5
      have hv4' := hv4.imp (N' := fun a => N a ∨ H a = none) fun a h => h.elim id fun n => .inr (nn3 a n)
      have hv5' := hv5.imp (N' := fun a => N a ∨ H a = none) fun a h => h.elim id fun n => .inr (nn4 a n)
      exact ⟨p, v4, v5, rfl, upd_same, (hv4'.lf (ex5.lf hK4.ex)).lf (Same.lf sp), hv5'.lf (Same.lf sp)⟩
/-- for all groups -/
theorem ok_LFs {f fBD : Addr} {fd fdBD : FuncData} (F : Fun K "_law_fewest" "_law_fewest" sLF f fd)
    (GBD : FnOk P w K mg base CX0 1 fBD fdBD ["part", "cause"] spBD) (bBD : Binds K fdBD ["part", "cause"] []) (gBD : mg "_law_bad" = some (.ref fBD)) (kBD : PySem.W.keepIn K (.ref fBD) = true)
    (bLF : Binds K fd ["tests", "group", "known"] []) (gLF : mg "_law_fewest" = some (.ref f)) (kLF : PySem.W.keepIn K (.ref f) = true)
    (m_repr : mg "repr" = none) (m_len : mg "len" = none) (m_range : mg "range" = none) (m_max : mg "max" = none) : ∀ c, FnG P w K mg base (c + 2) f fd ["tests", "group", "known"] (spLF c)
  | 0 => ok_LF0
  | c + 1 => ok_LF F GBD bBD gBD kBD (ok_LFs F GBD bBD gBD kBD bLF gLF kLF m_repr m_len m_range m_max c) bLF gLF kLF m_repr m_len m_range m_max
theorem ok_LPs {f fBD fLF : Addr} {fd fdBD fdLF : FuncData} (F : Fun K "_law_plan" "_law_plan" sLP f fd)
    (GBD : FnOk P w K mg base CX0 1 fBD fdBD ["part", "cause"] spBD) (bBD : Binds K fdBD ["part", "cause"] []) (gBD : mg "_law_bad" = some (.ref fBD)) (kBD : PySem.W.keepIn K (.ref fBD) = true)
    (GLF : FnG P w K mg base 13 fLF fdLF ["tests", "group", "known"] (spLF 11)) (bLF : Binds K fdLF ["tests", "group", "known"] []) (gLF : mg "_law_fewest" = some (.ref fLF)) (kLF : PySem.W.keepIn K (.ref fLF) = true)
    (bLP : Binds K fd ["tests", "group", "known"] []) (gLP : mg "_law_plan" = some (.ref f)) (kLP : PySem.W.keepIn K (.ref f) = true) : ∀ d, FnG P w K mg base (13 + d) f fd ["tests", "group", "known"] (spLP d)
  | 0 => ok_LP0
  | d + 1 => ok_LP F GBD bBD gBD kBD GLF bLF gLF kLF (ok_LPs F GBD bBD gBD kBD GLF bLF gLF kLF bLP gLP kLP d) bLP gLP kLP
end
end K20
namespace K20
open PySem PySem.Spec PyProof.Rows L2 TL TR QR
open GxR (TabB TabG Tabbed)
open PySem.W (EachIs)
section
variable {P : Program} {w : World} {K : PySem.W.Frag} {mg : Str → Option Value} {base : Heap} {σ : L2.St} {H : Hp} {ta tb tc : TE}
theorem Sure.ltI {i j : Int} (ha : Ev ta σ H (.int i)) (hb : Ev tb σ H (.int j)) : Sure (tTest (tOp (rI0 fun i j => .bl (decide (i < j))) ta tb)) σ H (i < j) := fun R r => ha _ (hb _ ⟨_, _, rfl, rfl, _, rfl, r⟩)
theorem Sure.geI {i j : Int} (ha : Ev ta σ H (.int i)) (hb : Ev tb σ H (.int j)) : Sure (tTest (tOp (rI0 fun i j => .bl (decide (j ≤ i))) ta tb)) σ H (j ≤ i) := fun R r => ha _ (hb _ ⟨_, _, rfl, rfl, _, rfl, r⟩)
theorem fuel0 {f : Addr} {fd : FuncData} {k : Nat} {ps : List Str} {sp : Sp} (h : ∀ vs H Q E, ¬ sp vs H Q E) : FnOk P w K mg base CX0 k f fd ps sp :=
  ⟨fun vs H Q E z => absurd z (h _ _ _ _), fun A outer s H args us vs Q E hr he hb hv z => absurd z (h _ _ _ _)⟩
/-! ### _law_depth -/
def spLD (d : Nat) : Sp := fun vs H Q _ => ∃ (rv : V) (N : Addr → Prop) (t : Pl), vs = [rv] ∧ TrAt N H rv t ∧ depthP t < d ∧ ∀ H', Same H H' → Q (.int (depthP t : Int)) H'
abbrev sLD : Stmt := topS 27
abbrev nLD : List Str := ["tree"]
theorem scLD : FnScope nLD ["tree"] (defScope sLD) := ⟨rfl, rfl, rfl, by decide +kernel, rfl, by decide +kernel, by decide +kernel⟩
theorem ok_LD {d : Nat} {f : Addr} {fd : FuncData} (F : Fun K "_law_depth" "_law_depth" sLD f fd)
    (GLD : FnOk P w K mg base CX0 (d + 1) f fd ["tree"] (spLD d)) (bLD : Binds K fd ["tree"] []) (gLD : mg "_law_depth" = some (.ref f)) (kLD : PySem.W.keepIn K (.ref f) = true) (m_max : mg "max" = none) : FnOk P w K mg base CX0 (d + 2) f fd ["tree"] (spLD (d + 1)) := by
  refine F.ok scLD (fun vs H Q E h => ?_) (fun cdv A outer s H vs Q E hr h => ?_)
  · obtain ⟨rv, N, t, rfl, _⟩ := h
    rfl
  · obtain ⟨rv, N, t, rfl, ht, hd, q⟩ := h
    have hu := hr.units
    have hu1 := hu_of hr
    have hrD : Room (d + 1) _ := hr
    have zl := zl
    refine ⟨_, (pss_one (ps_ret (pe_ifExp (pt_cmpR op_eq (pe_ix ix_tup (pv 0) (pe_int) (fun _ _ => rfl)) (pe_str) (nomark _)) (pe_int) (pe_op op_add (pe_int) (pe_callB (call_max2 rfl) (by rfl) m_max (by decide +kernel) (pa_cons (pe_call GLD hrD (by rfl) gLD kLD bLD .nil pass0 (pa_cons (pe_ix ix_tup (pv 0) (pe_int) (fun _ _ => rfl)) pa_nil)) (pa_cons (pe_call GLD hrD (by rfl) gLD kLD bLD .nil pass0 (pa_cons (pe_ix ix_tup (pv 0) (pe_int) (fun _ _ => rfl)) pa_nil)) pa_nil))))))), ?_⟩
    dsimp only [cxOf, Cx.nox]
    cases t with
    | found g =>
      obtain ⟨a, lv, rfl, h1, h2⟩ := ht
      exact Sure.eqS (Ev.ixT (i := 0) (.var rfl) .con h1 rfl) .con _ (yes_if (decide_eq_true rfl) (q H same_refl))
    | test i b g =>
      obtain ⟨a, bv, gv, rfl, h1, h2, h3⟩ := ht
      have hd : 1 + max (depthP b) (depthP g) < d + 1 := hd
      refine Sure.eqS (Ev.ixT (i := 0) (.var rfl) .con h1 rfl) .con _ (no_if (decide_eq_false fun z => found_ne z.symm) ?_)
      refine Ev.ixT (i := 2) (.var rfl) .con h1 rfl _ ⟨_, N, b, rfl, h2, by omega, fun H1 s1 => ?_⟩
      refine Ev.ixT (i := 3) (.var rfl) .con (s1 _ _ h1) rfl _ ⟨_, N, g, rfl, h3.lf (Same.lf s1), by omega, fun H2 s2 => ⟨_, _, rfl, _, _, rfl, rfl, ?_⟩⟩
      dsimp only
      rw [one_max]
      exact q H2 (same_trans s1 s2)
theorem ok_LDs {f : Addr} {fd : FuncData} (F : Fun K "_law_depth" "_law_depth" sLD f fd)
    (bLD : Binds K fd ["tree"] []) (gLD : mg "_law_depth" = some (.ref f)) (kLD : PySem.W.keepIn K (.ref f) = true) (m_max : mg "max" = none) : ∀ d, FnOk P w K mg base CX0 (d + 1) f fd ["tree"] (spLD d)
  | 0 => fuel0 fun vs H Q E ⟨_, _, _, _, _, h, _⟩ => absurd h (Nat.not_lt_zero _)
  | d + 1 => ok_LD F (ok_LDs F bLD gLD kLD m_max d) bLD gLD kLD m_max
/-! ### _law_plan_right -/
def spLR (d : Nat) : Sp := fun vs H Q _ => ∃ (tv gv rv : V) (N : Addr → Prop) (tss g : Grp) (t : Pl), vs = [tv, gv, rv] ∧ LsAt N H tv tss ∧ LsAt N H gv g ∧ TrAt N H rv t ∧ tss.length ≤ 30 ∧ (∀ t ∈ tss, t.length ≤ 1000) ∧ g.length ≤ 1000 ∧ (∀ c ∈ g, c.length ≤ 1000) ∧ depthP t < d ∧ ∀ H', Same H H' → Q (.bl (rightP tss g t)) H'
abbrev sLR : Stmt := topS 26
abbrev nLR : List Str := ["tests", "group", "tree", "part", "bad", "good", "cause"]
theorem scLR : FnScope nLR ["tests", "group", "tree"] (defScope sLR) := ⟨rfl, rfl, rfl, by decide +kernel, rfl, by decide +kernel, by decide +kernel⟩
theorem split_cnt (t : List Nm) (g : Grp) : splitB t g = decide (¬ ((badG t g).length = 0 ∨ (badG t g).length = g.length)) := by
  have := sides_len t g
  refine decide_eq_decide.mpr ⟨fun ⟨a, b⟩ => ?_, fun h => ⟨fun z => h (.inl (by rw [z]; rfl)), fun z => h (.inr ?_)⟩⟩
  · have := List.length_pos_iff.mpr a
    have := List.length_pos_iff.mpr b
    omega
  · have : (goodG t g).length = 0 := by rw [z]; rfl
    omega
theorem ok_LR {d : Nat} {f fBD : Addr} {fd fdBD : FuncData} (F : Fun K "_law_plan_right" "_law_plan_right" sLR f fd)
    (GBD : FnOk P w K mg base CX0 1 fBD fdBD ["part", "cause"] spBD) (bBD : Binds K fdBD ["part", "cause"] []) (gBD : mg "_law_bad" = some (.ref fBD)) (kBD : PySem.W.keepIn K (.ref fBD) = true)
    (GLR : FnOk P w K mg base CX0 (d + 1) f fd ["tests", "group", "tree"] (spLR d)) (bLR : Binds K fd ["tests", "group", "tree"] []) (gLR : mg "_law_plan_right" = some (.ref f)) (kLR : PySem.W.keepIn K (.ref f) = true)
    (m_len : mg "len" = none) : FnOk P w K mg base CX0 (d + 2) f fd ["tests", "group", "tree"] (spLR (d + 1)) := by
  refine F.ok scLR (fun vs H Q E h => ?_) (fun cdv A outer s H vs Q E hr h => ?_)
  · obtain ⟨tv, gv, rv, N, tss, g, t, rfl, _⟩ := h
    rfl
  · obtain ⟨tv, gv, rv, N, tss, g, t, rfl, hts, hgs, ht, lts, ltl, lg, lgs, hd, q⟩ := h
    have hu := hr.units
    have hu1 := hu_of hr
    have hr1 : Room 1 _ := hr.mono (by omega)
    have hrR : Room (d + 1) _ := hr
    have zl := zl
    refine ⟨_, (pss_cons (ps_if (pt_cmpR op_eq (pe_ix ix_tup (pv 2) (pe_int) (fun _ _ => rfl)) (pe_str) (nomark _))
      (pss_cons (ps_for PassesOwn.never rfl (pi_list (pv 0)) (pg_name (i := 3) scLR.nd rfl (.inr rfl))
      (pss_one (ps_if (pt_cmpR op_notIn_seq (pe_callB call_len_seq (by rfl) m_len PySem.boot_len (pa_cons (pe_lc (own := [("cause", 6)]) (g := gName 6) (tt := tB (tCall spBD [] E0 (tCons (tVar 3) (tCons (tVar 6) tNil)))) (te := tVar 6) rfl scLR.nd (pi_list (pv 1)) (blkOk_by (N := nLR) (sc := defScope sLR) (by decide +kernel)) (fun _ _ _ _ _ => by exact pg_name (i := 6) scLR.nd rfl (.inl rfl)) (fun _ _ _ _ _ => by exact pts_one (pt_val (pe_call GBD hr1 (by rfl) gBD kBD bBD .nil pass0 (pa_cons (pv 3) (pa_cons (pv 6) pa_nil))))) (fun _ _ _ _ _ => by exact pv 6)) pa_nil)) (pe_tup (pa_cons (pe_int) (pa_cons (pe_callB call_len_seq (by rfl) m_len PySem.boot_len (pa_cons (pv 1) pa_nil)) pa_nil))) (by rfl))
      (pss_one (ps_ret (pe_bl))) pss_nil)))
      (pss_one (ps_ret (pe_cmpR (op_eqP hu) (pe_ix ix_tup (pv 2) (pe_int) (fun _ _ => rfl)) (pv 1) (nomark _))))) pss_nil)
      (pss_cons (ps_if (PW.pt (pw_or (pt_cmpR op_lt (pe_ix ix_tup (pv 2) (pe_int) (fun _ _ => rfl)) (pe_int) (nomark _)) (pw_or1 (pt_cmpR op_ge (pe_ix ix_tup (pv 2) (pe_int) (fun _ _ => rfl)) (pe_callB call_len_seq (by rfl) m_len PySem.boot_len (pa_cons (pv 0) pa_nil)) (nomark _)))))
      (pss_one (ps_ret (pe_bl))) pss_nil)
      (pss_cons (ps_setLc (i := 4) (own := [("cause", 6)]) (g := gName 6) (tt := tB (tCall spBD [] E0 (tCons (tOp (rIxL K) (tVar 0) (tOp (rIxT K) (tVar 2) (tC (.int 1)))) (tCons (tVar 6) tNil)))) (te := tVar 6) rfl scLR.nd rfl rfl (sw_true rfl rfl rfl (by decide +kernel)) (pi_list (pv 1)) (blkOk_by (N := nLR) (sc := defScope sLR) (by decide +kernel)) (fun _ _ _ _ _ => by exact pg_name (i := 6) scLR.nd rfl (.inl rfl)) (fun _ _ _ _ _ => by exact pts_one (pt_val (pe_call GBD hr1 (by rfl) gBD kBD bBD .nil pass0 (pa_cons (pe_ix ix_list (pv 0) (pe_ix ix_tup (pv 2) (pe_int) (fun _ _ => rfl)) (fun _ _ => rfl)) (pa_cons (pv 6) pa_nil))))) (fun _ _ _ _ _ => by exact pv 6))
      (pss_cons (ps_setLc (i := 5) (own := [("cause", 6)]) (g := gName 6) (tt := tNot (tB (tCall spBD [] E0 (tCons (tOp (rIxL K) (tVar 0) (tOp (rIxT K) (tVar 2) (tC (.int 1)))) (tCons (tVar 6) tNil))))) (te := tVar 6) rfl scLR.nd rfl rfl (sw_true rfl rfl rfl (by decide +kernel)) (pi_list (pv 1)) (blkOk_by (N := nLR) (sc := defScope sLR) (by decide +kernel)) (fun _ _ _ _ _ => by exact pg_name (i := 6) scLR.nd rfl (.inl rfl)) (fun _ _ _ _ _ => by exact pts_one (pt_not (pt_val (pe_call GBD hr1 (by rfl) gBD kBD bBD .nil pass0 (pa_cons (pe_ix ix_list (pv 0) (pe_ix ix_tup (pv 2) (pe_int) (fun _ _ => rfl)) (fun _ _ => rfl)) (pa_cons (pv 6) pa_nil)))))) (fun _ _ _ _ _ => by exact pv 6))
      (pss_one (ps_ret (pe_and (pe_call GLR hrR (by rfl) gLR kLR bLR .nil pass0 (pa_cons (pv 0) (pa_cons (pv 4) (pa_cons (pe_ix ix_tup (pv 2) (pe_int) (fun _ _ => rfl)) pa_nil)))) (pe_one (pe_call GLR hrR (by rfl) gLR kLR bLR .nil pass0 (pa_cons (pv 0) (pa_cons (pv 5) (pa_cons (pe_ix ix_tup (pv 2) (pe_int) (fun _ _ => rfl)) pa_nil)))))))))))), ?_⟩
    dsimp only [cxOf, Cx.nox]
    have hgs0 := hgs
    obtain ⟨ta, tw, rfl, nta, hta, htw⟩ := hts
    obtain ⟨ga, gw, rfl, nga, hga, hgw⟩ := hgs
    have ltw := htw.length
    have lgw := hgw.length
    cases t with
    | found l =>
      obtain ⟨a, lv, rfl, h1, h2⟩ := ht
      refine ifS (p := ("found" : Str) = "found") (Sure.eqS (Ev.ixT (i := 0) (.var rfl) .con h1 rfl) .con) (fun _ => ?_) fun no => absurd rfl no
      refine ⟨_, rfl, ta, rfl, ⟨_, SqL.of hta⟩, ?_⟩
      refine for_list (K := K) (xs := tw) (fun i σ H' => ∃ (y3 y4 y5 y6 : Option V), σ = [some (.ref ta), some (.ref ga), some (.ref a), y3, y4, y5, y6] ∧ Same H H' ∧ ∀ t ∈ tss.take i, splitB t g = false) ⟨none, none, none, none, rfl, same_refl, fun t h => by rw [List.take_zero] at h; cases h⟩ ?_ ?_ ?_
      · rintro i σ H' _ ⟨y3, y4, y5, y6, rfl, s, _⟩
        exact SqL.of (s _ _ hta)
      · rintro i v σ H1 hv ⟨y3, y4, y5, y6, rfl, s1, hno⟩
        obtain ⟨part, hp, pa, pw, rfl, npa, hpa, hpw⟩ := each_at htw hv
        have lpart := ltl part (List.mem_of_getElem? hp)
        refine name_to ?_
        dsimp only
        refine len_front ?_
        refine lc_bad (.var rfl) (s1 _ _ hga) (hgw.mono fun _ _ z => z.lf (Same.lf s1)) lg lgs (s1 _ _ hpa) (each_nm (Same.ts s1) hpw) lpart (fun _ => rfl) (fun v H' s => .var rfl) fun B bw H2 s2 nB eB hbw => ?_
        have lbw := hbw.length
        refine ⟨B, bw, rfl, .inl (SqL.of eB), ?_⟩
        have s12 := same_trans s1 s2
        refine ⟨_, rfl, ga, gw, rfl, .inl (SqL.of (s12 _ _ hga)), by show 2 ≤ sizeLine; omega, fun p np => ?_⟩
        have sp := same_new (o := .tup [.int 0, .int (gw.length : Int)]) np
        refine ⟨p, _, rfl, .inr (SqT.of upd_same), rfl, rfl, _, rfl, ?_⟩
        have e : (!inV (.int (bw.length : Int)) [.int 0, .int (gw.length : Int)]) = splitB part g := by
          rw [split_cnt, ← lbw, ← lgw]
          unfold inV
          simp only [List.any_cons, List.any_nil, Bool.or_false, eqV]
          rw [Bool.eq_iff_iff, decide_eq_true_iff, Bool.not_eq_true', Bool.or_eq_false_iff, beq_eq_false_iff_ne, beq_eq_false_iff_ne]
          omega
        have s1p := same_trans s12 sp
        cases hs : splitB part g with
        | true =>
          refine yes_if (e.trans hs) ?_
          have er : rightP tss g (.found l) = false := decide_eq_false fun z => by
            rw [z.1 part (List.mem_of_getElem? hp)] at hs
            cases hs
          have := q _ s1p
          rw [er] at this
          exact this
        | false =>
          refine no_if (e.trans hs) ⟨_, _, _, _, rfl, s1p, fun t ht => ?_⟩
          rw [List.take_add_one, hp] at ht
          rcases List.mem_append.mp ht with ht | ht
          · exact hno t ht
          · rw [List.mem_singleton.mp ht]
            exact hs
      · rintro σ H1 ⟨y3, y4, y5, y6, rfl, s1, hno⟩
        rw [ltw, List.take_length] at hno
        have er : PyData.eqv (grD l) (grD g) = rightP tss g (.found l) := by
          rw [Bool.eq_iff_iff]
          refine (eqv_iff (solid_grD l) (solid_grD g)).trans ⟨fun z => decide_eq_true ⟨hno, grD_inj z⟩, fun z => by rw [(of_decide_eq_true z).2]⟩
        refine Ev.ixT (i := 1) (.var rfl) .con (s1 _ _ h1) rfl _ ⟨_, rfl, grD l, grD g, (h2.lf (Same.lf s1)).dp, (hgs0.lf (Same.lf s1)).dp, solid_plain _ (solid_grD _), solid_plain _ (solid_grD _), Nat.le_trans (depth_grD _) (by decide), ?_⟩
        rw [er]
        exact q H1 s1
    | test i b g2 =>
      obtain ⟨a, bv, gv, rfl, h1, h2, h3⟩ := ht
      have hd : 1 + max (depthP b) (depthP g2) < d + 1 := hd
      refine ifS (p := ("test" : Str) = "found") (Sure.eqS (Ev.ixT (i := 0) (.var rfl) .con h1 rfl) .con) (fun yes => absurd yes.symm found_ne) fun _ => ?_
      dsimp only [tNext]
      refine ifS (p := i < 0 ∨ ((tw.length : Nat) : Int) ≤ i) (Sure.or (Sure.ltI (Ev.ixT (i := 1) (.var rfl) .con h1 rfl) .con) fun _ => Sure.geI (Ev.ixT (i := 1) (.var rfl) .con h1 rfl) (Ev.len (.var rfl) hta)) (fun yes => ?_) fun no => ?_
      · have er : rightP tss g (.test i b g2) = false := by
          show (decide (0 ≤ i ∧ i < tss.length) && _ && _) = false
          rw [decide_eq_false (by rw [← ltw]; omega), Bool.false_and, Bool.false_and]
        have := q H same_refl
        rw [er] at this
        exact this
      · dsimp only [tNext]
        obtain ⟨n, rfl⟩ : ∃ n : Nat, i = (n : Int) := ⟨i.toNat, by omega⟩
        have ln : n < tss.length := by omega
        have hn : tss[n]? = some tss[n] := List.getElem?_eq_getElem ln
        generalize tss[n] = part at hn
        obtain ⟨pv, hpv, pa, pw, rfl, npa, hpa, hpw⟩ := each_get htw hn
        have lpart := ltl part (List.mem_of_getElem? hn)
        have er : rightP tss g (.test (n : Int) b g2) = (rightP tss (badG part g) b && rightP tss (goodG part g) g2) := by
          show (decide (0 ≤ (n : Int) ∧ (n : Int) < tss.length) && _ && _) = _
          rw [decide_eq_true (by omega), Bool.true_and, Int.toNat_natCast, getD_of hn]
        refine asg_seq ?_
        refine lc_bad (.var rfl) hga hgw lg lgs hpa hpw lpart (fun _ => rfl) (fun v H' s => Ev.ixL (i := n) (.var rfl) (Ev.ixT (i := 1) (.var rfl) .con (s _ _ h1) rfl) (s _ _ hta) hpv) fun B bw H2 s2 nB eB hbw => ?_
        refine asg_seq ?_
        refine lc_good (.var rfl) (s2 _ _ hga) (hgw.mono fun _ _ z => z.lf (Same.lf s2)) lg lgs (s2 _ _ hpa) (each_nm (Same.ts s2) hpw) lpart (fun _ => rfl) (fun v H' s => Ev.ixL (i := n) (.var rfl) (Ev.ixT (i := 1) (.var rfl) .con (s _ _ (s2 _ _ h1)) rfl) (s _ _ (s2 _ _ hta)) hpv) fun G gw2 H3 s3 nG eG hgw2 => ?_
        have s13 := same_trans s2 s3
        have hB3 : LsAt (fun _ => True) H3 (.ref B) (badG part g) := ⟨B, bw, rfl, trivial, s3 _ _ eB, hbw.mono fun _ _ z => (NsAt.lf (Same.lf s3) z).imp fun _ _ => trivial⟩
        have hG3 : LsAt (fun _ => True) H3 (.ref G) (goodG part g) := ⟨G, gw2, rfl, trivial, eG, hgw2.mono fun _ _ z => z.imp fun _ _ => trivial⟩
        have hT3 : LsAt (fun _ => True) H3 (.ref ta) tss := ⟨ta, tw, rfl, trivial, s13 _ _ hta, htw.mono fun _ _ z => (z.lf (Same.lf s13)).imp fun _ _ => trivial⟩
        have lb := List.length_filter_le (badB part) g
        have lg2 := List.length_filter_le (fun c => !badB part c) g
        have sb : ∀ c ∈ badG part g, c.length ≤ 1000 := fun c hc => lgs c (List.mem_filter.mp hc).1
        have sg : ∀ c ∈ goodG part g, c.length ≤ 1000 := fun c hc => lgs c (List.mem_filter.mp hc).1
        refine ⟨_, rfl, _, rfl, Ev.ixT (i := 2) (.var rfl) .con (s13 _ _ h1) rfl _ ⟨.ref ta, .ref B, bv, fun _ => True, tss, badG part g, b, rfl, hT3, hB3, (h2.lf (Same.lf s13)).imp fun _ _ => trivial, lts, ltl, by unfold badG; omega, sb, by omega, fun H4 s4 => ⟨_, rfl, ?_⟩⟩⟩
        have s14 := same_trans s13 s4
        cases e1 : rightP tss (badG part g) b with
        | false =>
          refine no_if rfl ?_
          have := q H4 s14
          rw [er, e1, Bool.false_and] at this
          exact this
        | true =>
          refine yes_if rfl ?_
          refine ⟨_, rfl, _, rfl, Ev.ixT (i := 3) (.var rfl) .con (s14 _ _ h1) rfl _ ⟨.ref ta, .ref G, gv, fun _ => True, tss, goodG part g, g2, rfl, hT3.lf (Same.lf s4), hG3.lf (Same.lf s4), (h3.lf (Same.lf s14)).imp fun _ _ => trivial, lts, ltl, by unfold goodG; omega, sg, by omega, fun H5 s5 => ?_⟩⟩
          have := q H5 (same_trans s14 s5)
          rw [er, e1, Bool.true_and] at this
          exact this
theorem ok_LRs {f fBD : Addr} {fd fdBD : FuncData} (F : Fun K "_law_plan_right" "_law_plan_right" sLR f fd)
    (GBD : FnOk P w K mg base CX0 1 fBD fdBD ["part", "cause"] spBD) (bBD : Binds K fdBD ["part", "cause"] []) (gBD : mg "_law_bad" = some (.ref fBD)) (kBD : PySem.W.keepIn K (.ref fBD) = true)
    (bLR : Binds K fd ["tests", "group", "tree"] []) (gLR : mg "_law_plan_right" = some (.ref f)) (kLR : PySem.W.keepIn K (.ref f) = true)
    (m_len : mg "len" = none) : ∀ d, FnOk P w K mg base CX0 (d + 1) f fd ["tests", "group", "tree"] (spLR d)
  | 0 => fuel0 fun vs H Q E ⟨_, _, _, _, _, _, _, _, _, _, _, _, _, _, _, h, _⟩ => absurd h (Nat.not_lt_zero _)
  | d + 1 => ok_LR F GBD bBD gBD kBD (ok_LRs F GBD bBD gBD kBD bLR gLR kLR m_len d) bLR gLR kLR m_len
end
end K20
namespace K20
open PySem PySem.Spec PyProof.Rows L2 TL TR QR
open GxR (TabB TabG Tabbed)
open PySem.W (EachIs)
theorem cut_each {α : Type} {R : V → α → Prop} {xs : List V} {g : List α} (h : EachIs R xs g) (lo hi : Option Int) : ∃ g', EachIs R (cutV xs lo hi) g' := by
  unfold cutV
  exact ⟨_, each_take (each_drop h _) _⟩
theorem each_rev {α : Type} {R : V → α → Prop} {xs : List V} {g : List α} (h : EachIs R xs g) : EachIs R xs.reverse g.reverse := by
  induction h with
  | nil => exact .nil
  | cons h _ ih =>
    rw [List.reverse_cons, List.reverse_cons]
    exact each_snoc ih h
theorem tr_test {N : Addr → Prop} {H : Hp} {p : Addr} {i : Int} {bv gv : V} {b g : Pl} (np : H p = none) (hb : TrAt N H bv b) (hg : TrAt N H gv g) : TrAt N (upd H p (.tup [.str "test", .int i, bv, gv])) (.ref p) (.test i b g) :=
  ⟨p, bv, gv, rfl, upd_same, hb.lf (Same.lf (same_new np)), hg.lf (Same.lf (same_new np))⟩
theorem tr_found {N : Addr → Prop} {H : Hp} {p : Addr} {lv : V} {g : Grp} (np : H p = none) (hg : LsAt N H lv g) : TrAt N (upd H p (.tup [.str "found", lv])) (.ref p) (.found g) :=
  ⟨p, lv, rfl, upd_same, hg.lf (Same.lf (same_new np))⟩
section
variable {P : Program} {w : World} {K : PySem.W.Frag} {mg : Str → Option Value} {base : Heap}
def spLT (d : Nat) : Sp := fun vs H Q _ => ∃ (p c : Addr) (tv rv : V) (N : Addr → Prop) (tss : Grp) (t : Pl), vs = [.ref p, tv, rv] ∧ StateAt H p c ∧ LsAt N H tv tss ∧ TrAt N H rv t ∧ (∀ a, N a → a ≠ p ∧ a ≠ c) ∧ tss.length ≤ 30 ∧ depthP t < d ∧
  ∀ H' v t', Dr p c H H' → TrAt (fun a => N a ∨ H a = none) H' v t' → depthP t' ≤ depthP t + 1 → szP t' ≤ szP t + 2 → Q v H'
abbrev sLT : Stmt := topS 28
abbrev nLT : List Str := ["state", "tests", "tree", "kind"]
theorem scLT : FnScope nLT ["state", "tests", "tree"] (defScope sLT) := ⟨rfl, rfl, rfl, by decide +kernel, rfl, by decide +kernel, by decide +kernel⟩
theorem ok_LT {d : Nat} {f fD : Addr} {fd fdD : FuncData} (F : Fun K "_law_turned" "_law_turned" sLT f fd)
    (GD : FnOk P w K mg base CX0 1 fD fdD ["state", "many"] spDraw) (bD : Binds K fdD ["state", "many"] []) (gD : mg "_law_draw" = some (.ref fD)) (kD : PySem.W.keepIn K (.ref fD) = true)
    (GLT : FnOk P w K mg base CX0 (d + 1) f fd ["state", "tests", "tree"] (spLT d)) (bLT : Binds K fd ["state", "tests", "tree"] []) (gLT : mg "_law_turned" = some (.ref f)) (kLT : PySem.W.keepIn K (.ref f) = true)
    (m_len : mg "len" = none) : FnOk P w K mg base CX0 (d + 2) f fd ["state", "tests", "tree"] (spLT (d + 1)) := by
  refine F.ok scLT (fun vs H Q E h => ?_) (fun cdv A outer s H vs Q E hr h => ?_)
  · obtain ⟨p, c, tv, rv, N, tss, t, rfl, _⟩ := h
    rfl
  · obtain ⟨p, c, tv, rv, N, tss, t, rfl, st, hts, ht, hN, lts, hd, q⟩ := h
    have hu := hr.units
    have hu1 := hu_of hr
    have hr1 : Room 1 _ := hr.mono (by omega)
    have hrT : Room (d + 1) _ := hr
    have zl := zl
    refine ⟨_, (pss_cons (ps_set (i := 3) scLT.nd rfl (.inl rfl) (pe_call GD hr1 (by rfl) gD kD bD .nil pass0 (pa_cons (pv 0) (pa_cons (pe_int) pa_nil))))
      (pss_cons (ps_if (pt_cmpR op_eq (pe_ix ix_tup (pv 2) (pe_int) (fun _ _ => rfl)) (pe_str) (nomark _))
      (pss_cons (ps_if (pt_cmpR op_lt (pv 3) (pe_int) (nomark _))
      (pss_one (ps_ret (pe_tup (pa_cons (pe_str) (pa_cons (pe_slice sl_list (pe_ix ix_tup (pv 2) (pe_int) (fun _ _ => rfl)) (po_some (pe_int)) (po_none)) pa_nil))))) pss_nil)
      (pss_cons (ps_if (pt_cmpR op_eq (pv 3) (pe_int) (nomark _))
      (pss_one (ps_ret (pe_tup (pa_cons (pe_str) (pa_cons (pe_op op_sub (pe_call GD hr1 (by rfl) gD kD bD .nil pass0 (pa_cons (pv 0) (pa_cons (pe_op op_add (pe_callB call_len_seq (by rfl) m_len PySem.boot_len (pa_cons (pv 1) pa_nil)) (pe_int)) pa_nil))) (pe_int)) (pa_cons (pv 2) (pa_cons (pe_tup (pa_cons (pe_str) (pa_cons (pe_lst (pa_nil)) pa_nil))) pa_nil))))))) pss_nil)
      (pss_one (ps_ret (pe_ifExp (pt_cmpR op_eq (pv 3) (pe_int) (nomark _)) (pe_tup (pa_cons (pe_str) (pa_cons (pe_rev (pe_ix ix_tup (pv 2) (pe_int) (fun _ _ => rfl)) (pe_un un_neg pe_int)) pa_nil))) (pv 2)))))) pss_nil)
      (pss_cons (ps_if (pt_cmpR op_eq (pv 3) (pe_int) (nomark _))
      (pss_one (ps_ret (pe_tup (pa_cons (pe_str) (pa_cons (pe_ix ix_tup (pv 2) (pe_int) (fun _ _ => rfl)) (pa_cons (pe_ix ix_tup (pv 2) (pe_int) (fun _ _ => rfl)) (pa_cons (pe_ix ix_tup (pv 2) (pe_int) (fun _ _ => rfl)) pa_nil))))))) pss_nil)
      (pss_cons (ps_if (pt_cmpR op_eq (pv 3) (pe_int) (nomark _))
      (pss_one (ps_ret (pe_tup (pa_cons (pe_str) (pa_cons (pe_op op_sub (pe_call GD hr1 (by rfl) gD kD bD .nil pass0 (pa_cons (pv 0) (pa_cons (pe_op op_add (pe_callB call_len_seq (by rfl) m_len PySem.boot_len (pa_cons (pv 1) pa_nil)) (pe_int)) pa_nil))) (pe_int)) (pa_cons (pe_ix ix_tup (pv 2) (pe_int) (fun _ _ => rfl)) (pa_cons (pe_ix ix_tup (pv 2) (pe_int) (fun _ _ => rfl)) pa_nil))))))) pss_nil)
      (pss_cons (ps_if (pt_cmpR op_lt (pv 3) (pe_int) (nomark _))
      (pss_one (ps_ret (pe_tup (pa_cons (pe_str) (pa_cons (pe_ix ix_tup (pv 2) (pe_int) (fun _ _ => rfl)) (pa_cons (pe_call GLT hrT (by rfl) gLT kLT bLT .nil pass0 (pa_cons (pv 0) (pa_cons (pv 1) (pa_cons (pe_ix ix_tup (pv 2) (pe_int) (fun _ _ => rfl)) pa_nil)))) (pa_cons (pe_ix ix_tup (pv 2) (pe_int) (fun _ _ => rfl)) pa_nil))))))) pss_nil)
      (pss_one (ps_ret (pe_tup (pa_cons (pe_str) (pa_cons (pe_ix ix_tup (pv 2) (pe_int) (fun _ _ => rfl)) (pa_cons (pe_ix ix_tup (pv 2) (pe_int) (fun _ _ => rfl)) (pa_cons (pe_call GLT hrT (by rfl) gLT kLT bLT .nil pass0 (pa_cons (pv 0) (pa_cons (pv 1) (pa_cons (pe_ix ix_tup (pv 2) (pe_int) (fun _ _ => rfl)) pa_nil)))) pa_nil)))))))))))), ?_⟩
    dsimp only [cxOf, Cx.nox]
    refine asg_seq ?_
    refine ⟨_, rfl, p, c, 7, rfl, by decide, st, fun H1 k _ _ st1 dd => ?_⟩
    dsimp only
    have d1 := (Dr.refl st).drawn st1 dd
    have lf1 : LF N H H1 := Dr.lf st d1 hN
    have hts1 := hts.lf lf1
    have ht1 := ht.lf lf1
    clear hts ht
    have hN' : ∀ a, (N a ∨ H a = none) → a ≠ p ∧ a ≠ c := fun a h => h.elim (hN a) fun n => st.new n
    have hts1' := hts1.imp (N' := fun a => N a ∨ H a = none) fun _ h => .inl h
    obtain ⟨ta, tw, rfl, nta, hta, htw⟩ := hts1
    have ltw := htw.length
    cases t with
    | found l =>
      have hti := ht1.imp (N' := fun a => N a ∨ H a = none) fun _ h => .inl h
      obtain ⟨a, lv, rfl, h1, h2⟩ := ht1
      obtain ⟨la, lw, rfl, nla, hla, hlw⟩ := h2
      refine ifS (p := ("found" : Str) = "found") (Sure.eqS (Ev.ixT (i := 0) (.var rfl) .con h1 rfl) .con) (fun _ => ?_) fun no => absurd rfl no
      refine ifS (p := k < 2) (Sure.lt (j := 2) (.var rfl) .con) (fun _ => ?_) fun _ => ?_
      · refine Ev.ixT (i := 1) (.var rfl) .con h1 rfl _ ⟨1, rfl, la, lw, rfl, SqL.of hla, fun s ns => ⟨by show 2 ≤ sizeLine; omega, fun z nz => ?_⟩⟩
        have ss := same_new (o := .lst (cutV lw (some 1) none)) ns
        obtain ⟨g', hg'⟩ := cut_each hlw (some 1) none
        refine q _ _ (.found g') ((d1.same ss).same (same_new nz)) (tr_found nz ⟨s, _, rfl, .inr (d1.none ns), upd_same, (hg'.mono fun _ _ z => z.lf (Same.lf ss)).mono fun _ _ z => z.imp fun _ h => .inl h⟩) (Nat.zero_le _) (by show 1 ≤ 1 + 2; decide)
      · dsimp only [tNext]
        refine ifS (p := k = 2) (Sure.eqN (j := 2) (.var rfl) .con) (fun _ => ?_) fun _ => ?_
        · refine ⟨_, rfl, Ev.add (j := 2) (Ev.len (.var rfl) hta) .con _ ⟨p, c, tw.length + 2, rfl, by omega, st1, fun H2 r _ _ st2 dd2 => ⟨_, _, rfl, rfl, _, rfl, by show 0 ≤ sizeLine; omega, fun s ns => ⟨by show 2 ≤ sizeLine; omega, fun y ny => ⟨by show 4 ≤ sizeLine; omega, fun z nz => ?_⟩⟩⟩⟩⟩
          have d2 := d1.drawn st2 dd2
          have ss := same_new (o := .lst []) ns
          have sy := same_new (o := .tup [.str "found", .ref s]) ny
          have lf12 : LF (fun a => N a ∨ H a = none) H1 H2 := Dr.lf st1 ((Dr.refl st1).drawn st2 dd2) hN'
          refine q _ _ (.test ((r : Int) - 1) (.found l) (.found [])) (((d2.same ss).same sy).same (same_new nz)) (tr_test nz (((hti.lf lf12).lf (Same.lf ss)).lf (Same.lf sy)) (tr_found ny ⟨s, [], rfl, .inr (d2.none ns), upd_same, .nil⟩)) (Nat.le_refl _) (Nat.le_refl _)
        · dsimp only [tNext]
          refine Sure.eqN (j := 3) (.var rfl) .con _ ?_
          by_cases h3 : k = 3
          · refine yes_if (decide_eq_true h3) ?_
            refine Ev.ixT (i := 1) (.var rfl) .con h1 rfl _ ⟨1, rfl, rfl, la, lw, rfl, SqL.of hla, fun s ns => ⟨by show 2 ≤ sizeLine; omega, fun z nz => ?_⟩⟩
            have ss := same_new (o := .lst lw.reverse) ns
            refine q _ _ (.found l.reverse) ((d1.same ss).same (same_new nz)) (tr_found nz ⟨s, _, rfl, .inr (d1.none ns), upd_same, (each_rev (hlw.mono fun _ _ z => z.lf (Same.lf ss))).mono fun _ _ z => z.imp fun _ h => .inl h⟩) (Nat.zero_le _) (by show 1 ≤ 1 + 2; decide)
          · refine no_if (decide_eq_false h3) ⟨_, rfl, q _ _ _ d1 hti (Nat.le_succ _) (by omega)⟩
    | test i b g =>
      obtain ⟨a, bv, gv, rfl, h1, h2, h3⟩ := ht1
      have h2' := h2.imp (N' := fun a => N a ∨ H a = none) fun _ h => .inl h
      have h3' := h3.imp (N' := fun a => N a ∨ H a = none) fun _ h => .inl h
      have hd : 1 + max (depthP b) (depthP g) < d + 1 := hd
      have eD : depthP (.test i b g) = 1 + max (depthP b) (depthP g) := rfl
      have eZ : szP (.test i b g) = 1 + szP b + szP g := rfl
      refine ifS (p := ("test" : Str) = "found") (Sure.eqS (Ev.ixT (i := 0) (.var rfl) .con h1 rfl) .con) (fun yes => absurd yes.symm found_ne) fun _ => ?_
      dsimp only [tNext]
      refine ifS (p := k = 0) (Sure.eqN (j := 0) (.var rfl) .con) (fun _ => ?_) fun _ => ?_
      · refine Ev.ixT (i := 1) (.var rfl) .con h1 rfl _ (Ev.ixT (i := 3) (.var rfl) .con h1 rfl _ (Ev.ixT (i := 2) (.var rfl) .con h1 rfl _ ⟨by show 4 ≤ sizeLine; omega, fun z nz => ?_⟩))
        exact q _ _ (.test i g b) (d1.same (same_new nz)) (tr_test nz h3' h2') (by show 1 + max _ _ ≤ _; omega) (by show 1 + szP g + szP b ≤ _; omega)
      · dsimp only [tNext]
        refine ifS (p := k = 1) (Sure.eqN (j := 1) (.var rfl) .con) (fun _ => ?_) fun _ => ?_
        · refine ⟨_, rfl, Ev.add (j := 2) (Ev.len (.var rfl) hta) .con _ ⟨p, c, tw.length + 2, rfl, by omega, st1, fun H2 r _ _ st2 dd2 => ⟨_, _, rfl, rfl, ?_⟩⟩⟩
          have d2 := d1.drawn st2 dd2
          have lf12 : LF (fun a => N a ∨ H a = none) H1 H2 := Dr.lf st1 ((Dr.refl st1).drawn st2 dd2) hN'
          have h1' := lf12.ts _ _ h1
          refine Ev.ixT (i := 2) (.var rfl) .con h1' rfl _ (Ev.ixT (i := 3) (.var rfl) .con h1' rfl _ ⟨by show 4 ≤ sizeLine; omega, fun z nz => ?_⟩)
          exact q _ _ (.test ((r : Int) - 1) b g) (d2.same (same_new nz)) (tr_test nz (h2'.lf lf12) (h3'.lf lf12)) (by show 1 + max _ _ ≤ _; omega) (by show 1 + szP b + szP g ≤ _; omega)
        · dsimp only [tNext]
          have h2n := h2
          have h3n := h3
          have htn : LsAt N H1 (.ref ta) tss := ⟨ta, tw, rfl, nta, hta, htw⟩
          refine ifS (p := k < 5) (Sure.lt (j := 5) (.var rfl) .con) (fun _ => ?_) fun _ => ?_
          · refine Ev.ixT (i := 1) (.var rfl) .con h1 rfl _ ⟨_, rfl, _, rfl, Ev.ixT (i := 2) (.var rfl) .con h1 rfl _ ⟨p, c, .ref ta, bv, N, tss, b, rfl, st1, htn, h2n, hN, lts, by omega, fun H2 v t' d2 hv e1 e2 => ?_⟩⟩
            have lf12 : LF (fun a => N a ∨ H a = none) H1 H2 := Dr.lf st1 d2 hN'
            refine Ev.ixT (i := 3) (.var rfl) .con (lf12.ts _ _ h1) rfl _ ⟨by show 4 ≤ sizeLine; omega, fun z nz => ?_⟩
            exact q _ _ (.test i t' g) ((d1.trans d2).same (same_new nz)) (tr_test nz (hv.imp fun a h => h.elim .inl fun n => .inr (d1.none n)) (h3'.lf lf12)) (by show 1 + max _ _ ≤ _; omega) (by show 1 + szP t' + szP g ≤ _; omega)
          · dsimp only [tNext]
            refine Ev.ixT (i := 1) (.var rfl) .con h1 rfl _ (Ev.ixT (i := 2) (.var rfl) .con h1 rfl _ ⟨_, rfl, _, rfl, Ev.ixT (i := 3) (.var rfl) .con h1 rfl _ ⟨p, c, .ref ta, gv, N, tss, g, rfl, st1, htn, h3n, hN, lts, by omega, fun H2 v t' d2 hv e1 e2 => ?_⟩⟩)
            have lf12 : LF (fun a => N a ∨ H a = none) H1 H2 := Dr.lf st1 d2 hN'
            refine ⟨by show 4 ≤ sizeLine; omega, fun z nz => ?_⟩
            exact q _ _ (.test i b t') ((d1.trans d2).same (same_new nz)) (tr_test nz (h2'.lf lf12) (hv.imp fun a h => h.elim .inl fun n => .inr (d1.none n))) (by show 1 + max _ _ ≤ _; omega) (by show 1 + szP b + szP t' ≤ _; omega)
theorem ok_LTs {f fD : Addr} {fd fdD : FuncData} (F : Fun K "_law_turned" "_law_turned" sLT f fd)
    (GD : FnOk P w K mg base CX0 1 fD fdD ["state", "many"] spDraw) (bD : Binds K fdD ["state", "many"] []) (gD : mg "_law_draw" = some (.ref fD)) (kD : PySem.W.keepIn K (.ref fD) = true)
    (bLT : Binds K fd ["state", "tests", "tree"] []) (gLT : mg "_law_turned" = some (.ref f)) (kLT : PySem.W.keepIn K (.ref f) = true)
    (m_len : mg "len" = none) : ∀ d, FnOk P w K mg base CX0 (d + 1) f fd ["state", "tests", "tree"] (spLT d)
  | 0 => fuel0 fun vs H Q E ⟨_, _, _, _, _, _, _, _, _, _, _, _, _, h, _⟩ => absurd h (Nat.not_lt_zero _)
  | d + 1 => ok_LT F GD bD gD kD (ok_LTs F GD bD gD kD bLT gLT kLT m_len d) bLT gLT kLT m_len
end
end K20
namespace K20
open PySem PySem.Spec PyProof.Rows L2 TL TR QR
open GxR (TabB TabG Tabbed)
open PySem.W (EachIs)
section
variable {P : Program} {w : World} {K : PySem.W.Frag} {mg : Str → Option Value} {base : Heap} {CE T1 : Addr}
theorem make_se {i j : Nat} {σ : L2.St} {H : Hp} {Q : VK} {cv tv : V} {N : Addr → Prop} {css tss : Grp} (h1 : σ[i]? = some (some cv)) (h2 : σ[j]? = some (some tv)) (hc : LsAt N H cv css) (ht : LsAt N H tv tss) (tg : TabG H T1) (lc : css.length ≤ 10) (lt : tss.length ≤ 30) (cs : ∀ c ∈ css, c.length ≤ 1000) (ts : ∀ c ∈ tss, c.length ≤ 1000)
    (q : ∀ x H1, Tbs [T1] H H1 → H x = none → SeAt CE (fun a => H a = none) H1 x tss (bp tss css) 0 → Q (.ref x) H1) : tMake CE (spSI CE T1) [] E0 (tCons (tVar i) (tCons (tVar j) tNil)) σ H Q := by
  refine ⟨_, h1, _, h2, fun x dx nx ndx ne => ?_⟩
  have s1 := same_new (o := .own x) ndx
  have nx1 : upd H dx (.own x) x = none := (upd_ne (Ne.symm ne)).trans nx
  have s2 := same_trans s1 (same_new (o := .ins CE dx []) nx1)
  have hx : upd (upd H dx (.own x)) x (.ins CE dx []) x = some (.ins CE dx []) := upd_same
  have tg2 := tab_same tg s2
  generalize upd (upd H dx (.own x)) x (.ins CE dx []) = H0 at s2 hx tg2
  refine ⟨x, dx, cv, tv, N, css, tss, rfl, hx, hc.lf (Same.lf s2), ht.lf (Same.lf s2), tg2, lc, lt, cs, ts, fun H1 fx se => ⟨rfl, q x H1 ⟨fun b o n e => ?_, tg_one fx.tg⟩ nx ?_⟩⟩
  · exact fx.sm b o (fun z => by rw [z, nx] at e; cases e) (by simpa using n) (s2 _ _ e)
  · obtain ⟨d, tv', rv, a1, a2, a3⟩ := se.ex
    exact ⟨d, tv', rv, a1, a2.imp fun a n => same_none s2 n, a3.imp fun a n => same_none s2 n⟩
theorem bp_empty_or (tss : Grp) (g : Grp) : (firstT tss g = none ∧ bp tss g = .found g) ∨ ∃ (i : Nat) (part : List Nm), firstT tss g = some i ∧ tss[i]? = some part ∧ splitB part g = true ∧ bp tss g = .test (i : Int) (bp tss (badG part g)) (bp tss (goodG part g)) := by
  cases e : firstT tss g with
  | none => exact .inl ⟨rfl, bp_none e⟩
  | some i =>
    obtain ⟨part, h1, h2, _⟩ := first_some e
    exact .inr ⟨i, part, rfl, h1, h2, bp_some e h1⟩
theorem eqv_refl_gr (g : Grp) : PyData.eqv (grD g) (grD g) = true := PySem.SeqAt.eqv_refl_plain _ (solid_plain _ (solid_grD g))
def spLS (T1 : Addr) : Sp := fun vs H Q _ => ∃ (cv tv kv rv : V) (N : Addr → Prop) (css tss : Grp) (cause : List Nm), vs = [cv, tv, kv, rv] ∧ LsAt N H cv css ∧ LsAt N H tv tss ∧ NsAt N H kv cause ∧ cause ∈ css ∧ TrAt N H rv (bp tss css) ∧ TabG H T1 ∧ css.length ≤ 10 ∧ tss.length ≤ 30 ∧ (∀ c ∈ css, c.length ≤ 1000) ∧ (∀ c ∈ tss, c.length ≤ 1000) ∧
  ∀ H', Tbs [T1] H H' → Q (.bl true) H'
abbrev sLS : Stmt := topS 29
abbrev nLS : List Str := ["causes", "tests", "cause", "tree", "search", "made", "turn", "bad"]
theorem scLS : FnScope nLS ["causes", "tests", "cause", "tree"] (defScope sLS) := ⟨rfl, rfl, rfl, by decide +kernel, rfl, by decide +kernel, by decide +kernel⟩
theorem ok_LS {f fBD fSI fNP fFO fAN : Addr} {fd fdBD fdSI fdNP fdFO fdAN : FuncData} (F : Fun K "_law_searched" "_law_searched" sLS f fd) (TE : TxtE K mg CE)
    (GBD : FnOk P w K mg base CX0 1 fBD fdBD ["part", "cause"] spBD) (bBD : Binds K fdBD ["part", "cause"] []) (gBD : mg "_law_bad" = some (.ref fBD)) (kBD : PySem.W.keepIn K (.ref fBD) = true)
    (MkS : Mk K CE fSI) (GSI : FnOk P w K mg base CX0 27 fSI fdSI ["self", "causes", "tests"] (spSI CE T1)) (bSI : Binds K fdSI ["self", "causes", "tests"] [])
    (MNP : Meth K CE "next_part" fNP) (GNP : FnOk P w K mg base CX0 1 fNP fdNP ["self"] (spNP CE)) (bNP : Binds K fdNP ["self"] [])
    (MFO : Meth K CE "found" fFO) (GFO : FnOk P w K mg base CX0 1 fFO fdFO ["self"] (spFO CE)) (bFO : Binds K fdFO ["self"] [])
    (MAN : Meth K CE "answer" fAN) (GAN : FnOk P w K mg base CX0 1 fAN fdAN ["self", "bad"] (spAN CE)) (bAN : Binds K fdAN ["self", "bad"] [])
    (m_len : mg "len" = none) (m_range : mg "range" = none) : FnOk P w K mg base CX0 29 f fd ["causes", "tests", "cause", "tree"] (spLS T1) := by
  refine F.ok scLS (fun vs H Q E h => ?_) (fun cdv A outer s H vs Q E hr h => ?_)
  · obtain ⟨cv, tv, kv, rv, N, css, tss, cause, rfl, _⟩ := h
    rfl
  · obtain ⟨cv, tv, kv, rv, N, css, tss, cause, rfl, hcs, hts, hk, hin, ht, tg, lc, lt, lcs, lts, q⟩ := h
    have hu := hr.units
    have hu1 := hu_of hr
    have hr1 : Room 1 _ := hr.mono (by decide)
    have hrI : Room (27 + 1) _ := hr
    have zl := zl
    refine ⟨_, (pss_cons (ps_set (i := 4) scLS.nd rfl (.inl rfl) (pe_make MkS GSI hrI rfl TE.mg bSI .nil pass0 (pa_cons (pv 0) (pa_cons (pv 1) pa_nil))))
      (pss_cons (ps_set (i := 5) scLS.nd rfl (.inl rfl) (pe_int))
      (pss_cons (ps_for PassesOwn.never rfl (pi_range1 (by rfl) m_range (pa_cons (pe_op op_add (pe_callB call_len_seq (by rfl) m_len PySem.boot_len (pa_cons (pv 1) pa_nil)) (pe_int)) pa_nil)) (pg_name (i := 6) scLS.nd rfl (.inl rfl))
      (pss_cons (ps_if (pt_cmpR op_eq (pe_ix ix_tup (pv 3) (pe_int) (fun _ _ => rfl)) (pe_str) (nomark _))
      (pss_one (ps_ret (pe_and (pe_cmpR op_isN (pe_meth0 (pv 4) TE.cl MNP GNP hr1 bNP .nil pass0) (pe_non) (nomark _)) (pe_and (pe_cmpR (op_eqP hu) (pe_meth0 (pv 4) TE.cl MFO GFO hr1 bFO .nil pass0) (pe_ix ix_tup (pv 3) (pe_int) (fun _ _ => rfl)) (nomark _)) (pe_and (pe_cmpR (GX.op_inP hu) (pv 2) (pe_ix ix_tup (pv 3) (pe_int) (fun _ _ => rfl)) (by rfl)) (pe_one (pe_cmpR op_eq (pe_fld (pv 4) rfl) (pv 5) (nomark _)))))))) pss_nil)
      (pss_cons (ps_if (PW.pt (pw_or (pt_cmpR (op_neP hu) (pe_meth0 (pv 4) TE.cl MNP GNP hr1 bNP .nil pass0) (pe_ix ix_list (pv 1) (pe_ix ix_tup (pv 3) (pe_int) (fun _ _ => rfl)) (fun _ _ => rfl)) (nomark _)) (pw_or1 (pt_cmpR op_notN (pe_meth0 (pv 4) TE.cl MFO GFO hr1 bFO .nil pass0) (pe_non) (nomark _)))))
      (pss_one (ps_ret (pe_bl))) pss_nil)
      (pss_cons (ps_set (i := 7) scLS.nd rfl (.inl rfl) (pe_call GBD hr1 (by rfl) gBD kBD bBD .nil pass0 (pa_cons (pe_ix ix_list (pv 1) (pe_ix ix_tup (pv 3) (pe_int) (fun _ _ => rfl)) (fun _ _ => rfl)) (pa_cons (pv 2) pa_nil))))
      (pss_cons (ps_expr (pe_meth (pv 4) TE.cl MAN GAN hr1 bAN .nil pass0 (pa_cons (pv 7) pa_nil)))
      (pss_cons (ps_set (i := 5) scLS.nd rfl (.inl rfl) (pe_op op_add (pv 5) (pe_int)))
      (pss_one (ps_set (i := 3) scLS.nd rfl (.inl rfl) (pe_ifExp (pt_val (pv 7)) (pe_ix ix_tup (pv 3) (pe_int) (fun _ _ => rfl)) (pe_ix ix_tup (pv 3) (pe_int) (fun _ _ => rfl)))))))))))
      (pss_one (ps_ret (pe_bl)))))), ?_⟩
    dsimp only [cxOf, Cx.nox]
    refine asg_seq ?_
    refine make_se (css := css) (tss := tss) rfl rfl hcs hts tg lc lt lcs lts fun x H1 t1 nx se => ?_
    refine asg_seq ?_
    have lf1 : ∀ {N : Addr → Prop}, LF N H H1 := fun {N} => t1.lf (tg_one tg)
    obtain ⟨ta, tw, rfl, nta, hta, htw⟩ := hts
    obtain ⟨ka, kw, rfl, nka, hka, hkw⟩ := hk
    have ltw := htw.length
    have hta1 := (lf1 (N := N)).ls _ _ nta hta
    have hka1 := (lf1 (N := N)).ls _ _ nka hka
    have htw1 : EachIs (NsAt N H1) tw tss := htw.mono fun _ _ z => z.lf lf1
    have hkw1 := each_nm (lf1 (N := N)).ts hkw
    have ht1 := ht.lf (lf1 (N := N))
    have hx1 : ∃ dx fs, H1 x = some (.ins CE dx fs) := by
      obtain ⟨dx, tv, rv, h, _⟩ := se.ex
      exact ⟨_, _, h⟩
    have exl : ∀ {H' : Hp} {N : Addr → Prop}, EX x H1 H' → LF N H1 H' := fun {H' N} e => by
      obtain ⟨dx, fs, h⟩ := hx1
      exact ⟨fun b xs z => e b _ (fun w => by rw [w, h] at z; cases z) z, fun b xs _ z => e b _ (fun w => by rw [w, h] at z; cases z) z⟩
    have ext : ∀ {H' : Hp}, EX x H1 H' → Tbs [T1] H H' := fun {H'} e => by
      refine ⟨fun b o n h => e b o (fun z => by rw [z, nx] at h; cases h) (t1.sm b o n h), fun T hT => ?_⟩
      obtain ⟨ps, e1, e2⟩ := t1.tg T hT
      obtain ⟨dx, fs, h⟩ := hx1
      exact ⟨ps, e _ _ (fun z => by rw [z, h] at e1; cases e1) e1, e2⟩
    clear ht
    refine for_rng (Ev.add (j := 2) (Ev.len (.var rfl) hta1) .con) ?_
    refine ⟨_, rfl, by omega, by omega, ?_⟩
    refine for_it (walk_range (lo := 0) (n := ((tw.length + 2 : Nat) : Int).toNat)) (fun k σ H' => ∃ (rv : V) (y6 y7 : Option V) (g : Grp), σ = [some cv, some (.ref ta), some (.ref ka), some rv, some (.ref x), some (.int (k : Int)), y6, y7] ∧ EX x H1 H' ∧ SeAt CE (fun a => H a = none) H' x tss (bp tss g) (k : Int) ∧ TrAt N H' rv (bp tss g) ∧ cause ∈ g ∧ nsT tss g + k ≤ tss.length ∧ g.length ≤ 10 ∧ (∀ c ∈ g, c.length ≤ 1000))
      ⟨rv, none, none, css, rfl, EX.refl, se, ht1, hin, ns_le _ _, lc, lcs⟩ ?_ ?_ ?_
    · exact fun _ _ _ _ _ => trivial
    · rintro k v σ H2 H2' hk ⟨rv, y6, y7, g, rfl, ex2, se2, ht2, hin2, hns, lg, lgs⟩ ⟨rfl, rfl⟩
      have lf2 : ∀ {N : Addr → Prop}, LF N H1 H2' := fun {N} => exl ex2
      refine name_to ?_
      dsimp only
      obtain ⟨dx, tv2, rv2, hx2, se3, se4⟩ := id se2.ex
      rcases bp_empty_or tss g with ⟨ef, eb⟩ | ⟨i, part, ef, hti, hs, eb⟩
      · rw [eb] at ht2 se2
        obtain ⟨a, lv, rfl, h1, h2⟩ := ht2
        refine ifS (p := ("found" : Str) = "found") (Sure.eqS (Ev.ixT (i := 0) (.var rfl) .con h1 rfl) .con) (fun _ => ?_) fun no => absurd rfl no
        refine ⟨_, rfl, x, dx, _, rfl, hx2, se_no no_np, x, _, tss, .found g, (k : Int), rfl, se2, .inl ⟨g, rfl, rfl, _, rfl, yes_if (decide_eq_true rfl) ?_⟩⟩
        refine ⟨_, rfl, x, dx, _, rfl, hx2, se_no no_fo, x, _, tss, .found g, (k : Int), rfl, se2, .inr ⟨g, rfl, by omega, lgs, fun H3 v3 s3 hv3 => ?_⟩⟩
        refine Ev.ixT (i := 1) (.var rfl) .con (s3 _ _ h1) rfl _ ⟨grD g, grD g, hv3.dp, (h2.lf (Same.lf s3)).dp, solid_plain _ (solid_grD _), solid_plain _ (solid_grD _), Nat.le_trans (depth_grD _) (by decide), _, rfl, yes_if (eqv_refl_gr g) ?_⟩
        have hk3 : NsAt N H3 (.ref ka) cause := ⟨ka, kw, rfl, nka, s3 _ _ ((lf2 (N := N)).ls _ _ nka hka1), each_nm (Same.ts s3) (each_nm (lf2 (N := N)).ts hkw1)⟩
        refine ⟨_, rfl, Ev.ixT (i := 1) (.var rfl) .con (s3 _ _ h1) rfl _ ⟨g.map nsD, nsD cause, (h2.lf (Same.lf s3)).dp, hk3.dp, solidAll_plain _ (solid_map solid_nsD g), solid_plain _ (solid_nsD _), Nat.le_trans (depth_nsD _) (by decide), _, rfl, yes_if ?_ ?_⟩⟩
        · rw [List.any_map, List.any_eq_true]
          exact ⟨cause, hin2, PySem.SeqAt.eqv_refl_plain _ (solid_plain _ (solid_nsD _))⟩
        · refine ⟨_, rfl, x, CE, dx, _, _, rfl, s3 _ _ hx2, TE.cl, TE.n3, se_made, _, rfl, rfl, ?_⟩
          rw [decide_eq_true rfl]
          exact q H3 (ext (ex2.trans (EX.same s3)))
      · rw [eb] at ht2 se2
        obtain ⟨a, bv, gv, rfl, h1, h2, h3⟩ := ht2
        obtain ⟨pv, hpv, pa, pw, rfl, npa, hpa, hpw⟩ := each_get htw1 hti
        have hta2 := (lf2 (N := N)).ls _ _ nta hta1
        have hpa2 := (lf2 (N := N)).ls _ _ npa hpa
        have hpw2 := each_nm (lf2 (N := N)).ts hpw
        have lpart := lts part (List.mem_of_getElem? hti)
        have lcause := lcs cause hin
        refine ifS (p := ("test" : Str) = "found") (Sure.eqS (Ev.ixT (i := 0) (.var rfl) .con h1 rfl) .con) (fun yes => absurd yes.symm found_ne) fun _ => ?_
        dsimp only [tNext]
        refine ⟨_, rfl, x, dx, _, rfl, hx2, se_no no_np, x, _, tss, _, (k : Int), rfl, se2, .inr ⟨i, _, _, part, rfl, hti, fun H3 v3 s3 hv3 => ?_⟩⟩
        refine Ev.ixL (i := i) (.var rfl) (Ev.ixT (i := 1) (.var rfl) .con (s3 _ _ h1) rfl) (s3 _ _ hta2) hpv _ ?_
        have hp3 : NsAt N H3 (.ref pa) part := ⟨pa, pw, rfl, npa, s3 _ _ hpa2, each_nm (Same.ts s3) hpw2⟩
        refine ⟨nsD part, nsD part, hv3.dp, hp3.dp, solid_plain _ (solid_nsD _), solid_plain _ (solid_nsD _), Nat.le_trans (depth_nsD _) (by decide), _, rfl, no_if (by rw [PySem.SeqAt.eqv_refl_plain _ (solid_plain _ (solid_nsD part))]; rfl) ?_⟩
        have se3' := se2.same s3
        refine ⟨_, rfl, x, dx, _, rfl, s3 _ _ hx2, se_no no_fo, x, _, tss, _, (k : Int), rfl, se3', .inl ⟨_, _, _, rfl, rfl, _, rfl, no_if rfl ?_⟩⟩
        dsimp only [tNext]
        refine asg_seq ?_
        refine ⟨_, rfl, Ev.ixT (i := 1) (.var rfl) .con (s3 _ _ h1) rfl _ ⟨ta, tw, _, _, rfl, rfl, SqL.of (s3 _ _ hta2), atI_nat (j := i) hpv, _, rfl, pa, ka, pw, kw, part, cause, rfl, s3 _ _ hpa2, each_nm (Same.ts s3) hpw2, s3 _ _ ((lf2 (N := N)).ls _ _ nka hka1), each_nm (Same.ts s3) (each_nm (lf2 (N := N)).ts hkw1), lpart, lcause, fun H4 s4 => ?_⟩⟩
        have s34 := same_trans s3 s4
        refine ⟨_, rfl, x, dx, _, rfl, s34 _ _ hx2, se_no no_an, _, rfl, x, _, _, tss, (i : Int), _, _, (k : Int), rfl, se2.same s34, fun H5 ex5 se5 => ?_⟩
        have ex25 := (ex2.trans (EX.same s34)).trans ex5
        have h1' := ex5 _ _ (fun z => by rw [z, hx2] at h1; cases h1) (s34 _ _ h1)
        have lf25 : LF N H2' H5 := (Same.lf s34).trans ⟨fun b xs z => ex5 b _ (fun w => by rw [w, s34 _ _ hx2] at z; cases z) z, fun b xs _ z => ex5 b _ (fun w => by rw [w, s34 _ _ hx2] at z; cases z) z⟩
        dsimp only
        refine asg_seq ?_
        refine ⟨_, rfl, _, _, rfl, rfl, ?_⟩
        have nb := ns_bad (List.mem_of_getElem? hti) hs
        have ng := ns_good (List.mem_of_getElem? hti) hs
        have lb := List.length_filter_le (badB part) g
        have lg2 := List.length_filter_le (fun c => !badB part c) g
        cases eB : badB part cause with
        | true =>
          rw [eB, if_pos rfl] at se5
          refine ⟨_, rfl, _, rfl, yes_if rfl (Ev.ixT (i := 2) (.var rfl) .con h1' rfl _ ?_)⟩
          refine ⟨_, _, _, badG part g, rfl, ex25, se5, h2.lf lf25, List.mem_filter.mpr ⟨hin2, eB⟩, by omega, by unfold badG; omega, fun c hc => lgs c (List.mem_filter.mp hc).1⟩
        | false =>
          rw [eB, if_neg (by decide)] at se5
          refine ⟨_, rfl, _, rfl, no_if rfl (Ev.ixT (i := 3) (.var rfl) .con h1' rfl _ ?_)⟩
          refine ⟨_, _, _, goodG part g, rfl, ex25, se5, h3.lf lf25, List.mem_filter.mpr ⟨hin2, by rw [eB]; rfl⟩, by omega, by unfold goodG; omega, fun c hc => lgs c (List.mem_filter.mp hc).1⟩
    · rintro σ H2 ⟨rv, y6, y7, g, rfl, _, _, _, _, hns, _⟩
      exfalso
      omega
end
end K20
/-! what the law's heap holds -/
namespace K20
open PySem PySem.Spec PyProof.Rows L2 TL TR QR
open GxR (TabB TabG Tabbed)
open PySem.W (EachIs)
theorem bp_ns (tss : Grp) (g : Grp) : depthP (bp tss g) ≤ nsT tss g := by
  refine grp_ind (C := fun g => depthP (bp tss g) ≤ nsT tss g) (fun g ih => ?_) g
  rcases bp_empty_or tss g with ⟨_, e⟩ | ⟨i, part, _, hti, hs, e⟩
  · rw [e]
    exact Nat.zero_le _
  · obtain ⟨a, b, _⟩ := split_len hs
    have h1 := ih _ a
    have h2 := ih _ b
    have n1 := ns_bad (List.mem_of_getElem? hti) hs
    have n2 := ns_good (List.mem_of_getElem? hti) hs
    rw [e]
    show 1 + max _ _ ≤ _
    omega
theorem bp_sz (tss : Grp) (g : Grp) : szP (bp tss g) + 1 ≤ 2 * max 1 g.length := by
  refine grp_ind (C := fun g => szP (bp tss g) + 1 ≤ 2 * max 1 g.length) (fun g ih => ?_) g
  rcases bp_empty_or tss g with ⟨_, e⟩ | ⟨i, part, _, hti, hs, e⟩
  · rw [e]
    show 1 + 1 ≤ _
    omega
  · obtain ⟨a, b, c, d⟩ := split_len hs
    have := sides_len part g
    have h1 := ih _ a
    have h2 := ih _ b
    rw [e]
    show 1 + szP _ + szP _ + 1 ≤ _
    omega
def trD : Pl → PyData
  | .found g => .tuple [.str "found", grD g]
  | .test i b g => .tuple [.str "test", .int i, trD b, trD g]
theorem TrAt.dp {K : PySem.W.Frag} {N : Addr → Prop} {H : Hp} : ∀ {t : Pl} {v : V}, TrAt N H v t → Dp K H v (trD t)
  | .found g, v, ⟨a, lv, e, h1, h2⟩ => by
    rw [e]
    exact .tup (SqT.of h1) (.cons (.str _) (.cons h2.dp .nil))
  | .test i b g, v, ⟨a, bv, gv, e, h1, h2, h3⟩ => by
    rw [e]
    exact .tup (SqT.of h1) (.cons (.str _) (.cons (.int _) (.cons h2.dp (.cons h3.dp .nil))))
theorem solid_tr : ∀ t : Pl, solid (trD t) = true
  | .found g => by simp [trD, solid, solidAll, solid_grD]
  | .test i b g => by simp [trD, solid, solidAll, solid_tr b, solid_tr g]
theorem depth_tr : ∀ t : Pl, (trD t).depth ≤ depthP t + 6
  | .found g => by
    have := depth_grD g
    simp only [trD, PyData.depth, PyData.depthAll, depthP]
    omega
  | .test i b g => by
    have := depth_tr b
    have := depth_tr g
    simp only [trD, PyData.depth, PyData.depthAll, depthP]
    omega
/-- the law's lists: causes, tests, plans -/
structure LawH (T1 p c : Addr) (cv tv dv lv : V) (css tss : Grp) (H : Hp) : Prop where
  st : StateAt H p c
  tg : TabG H T1
  cs : LsAt (fun a => a ≠ p ∧ a ≠ c) H cv css
  ts : LsAt (fun a => a ≠ p ∧ a ≠ c) H tv tss
  du : TrAt (fun a => a ≠ p ∧ a ≠ c) H dv (bp tss css)
  tl : TrAt (fun a => a ≠ p ∧ a ≠ c) H lv (bp tss css)
section
variable {T1 p c : Addr} {cv tv dv lv : V} {css tss : Grp} {H H' : Hp}
theorem tabg_dr (st : StateAt H p c) (d : Dr p c H H') (g : TabG H T1) : TabG H' T1 := by
  obtain ⟨ps, e1, e2⟩ := g
  obtain ⟨⟨_, x1⟩, ⟨_, x2⟩⟩ := st.some
  exact ⟨ps, d.ou _ _ (fun z => by rw [z, x1] at e1; cases e1) (fun z => by rw [z, x2] at e1; cases e1) e1, e2⟩
theorem st_tbs (g : TabG H T1) (t : Tbs [T1] H H') (st : StateAt H p c) : StateAt H' p c := by
  obtain ⟨⟨_, x1⟩, ⟨_, x2⟩⟩ := st.some
  exact st.mono (fun o e => t.at_ (tg_one g) e fun _ z => by rw [x1] at e; rw [← Option.some.inj e] at z; cases z) (fun o e => t.at_ (tg_one g) e fun _ z => by rw [x2] at e; rw [← Option.some.inj e] at z; cases z)
theorem LawH.tbs (h : LawH T1 p c cv tv dv lv css tss H) (t : Tbs [T1] H H') : LawH T1 p c cv tv dv lv css tss H' :=
  have lf : LF (fun a => a ≠ p ∧ a ≠ c) H H' := t.lf (tg_one h.tg)
  ⟨st_tbs h.tg t h.st, t.tg T1 (by simp), h.cs.lf lf, h.ts.lf lf, h.du.lf lf, h.tl.lf lf⟩
theorem LawH.same (h : LawH T1 p c cv tv dv lv css tss H) (s : Same H H') : LawH T1 p c cv tv dv lv css tss H' :=
  ⟨h.st.same s, tab_same h.tg s, h.cs.lf (Same.lf s), h.ts.lf (Same.lf s), h.du.lf (Same.lf s), h.tl.lf (Same.lf s)⟩
theorem LawH.dr (h : LawH T1 p c cv tv dv lv css tss H) (d : Dr p c H H') : LawH T1 p c cv tv dv lv css tss H' :=
  have lf : LF (fun a => a ≠ p ∧ a ≠ c) H H' := Dr.lf h.st d fun _ n => n
  ⟨d.st, tabg_dr h.st d h.tg, h.cs.lf lf, h.ts.lf lf, h.du.lf lf, h.tl.lf lf⟩
theorem LawH.ex {kd : Addr} {kvs : List (L2.Key × V)} (h : LawH T1 p c cv tv dv lv css tss H) (hK : H kd = some (.dK kvs)) (e : EX kd H H') : LawH T1 p c cv tv dv lv css tss H' := by
  have lf : LF (fun a => a ≠ p ∧ a ≠ c) H H' := e.lf hK
  obtain ⟨⟨_, x1⟩, ⟨_, x2⟩⟩ := h.st.some
  refine ⟨h.st.mono (fun o q => e _ _ (fun z => by rw [← z, x1] at hK; cases hK) q) (fun o q => e _ _ (fun z => by rw [← z, x2] at hK; cases hK) q), ?_, h.cs.lf lf, h.ts.lf lf, h.du.lf lf, h.tl.lf lf⟩
  obtain ⟨ps, e1, e2⟩ := h.tg
  exact ⟨ps, e _ _ (fun z => by rw [z, hK] at e1; cases e1) e1, e2⟩
end
/-! ### what the draws give -/
theorem part_len (fs : List Nm) (cnt : Nat) : (partOf fs cnt).length ≤ fs.length := by
  unfold partOf
  rw [List.length_map]
  exact Nat.le_trans (List.length_filter_le _ _) (by rw [List.length_range]; exact Nat.le_refl _)
theorem parts_mem {g : Nm → List Nm} {gs fs : List Nm} {part : List Nm} (h : part ∈ partsOf g gs fs) : (∀ n ∈ part, n ∈ fs) ∧ part.length ≤ fs.length := by
  unfold partsOf srtP at h
  have h := (List.mem_filter.mp (List.mem_mergeSort.mp h)).1
  obtain ⟨cnt, _, rfl⟩ := List.mem_map.mp h
  exact ⟨fun n hn => part_mem hn, part_len _ _⟩
theorem pairs_mem {g : Nm → List Nm} : ∀ {fs : List Nm} {c : List Nm}, c ∈ pairsOf g fs → (∀ n ∈ c, n ∈ fs) ∧ c.length ≤ 2
  | n :: r, c, h => by
    have h : c ∈ pairsAt g n r ++ pairsOf g r := h
    rcases List.mem_append.mp h with h | h
    · unfold pairsAt at h
      obtain ⟨o, ho, rfl⟩ := List.mem_map.mp h
      refine ⟨fun m hm => ?_, Nat.le_refl _⟩
      rcases List.mem_cons.mp hm with e | hm
      · rw [e]; exact List.mem_cons_self ..
      · rw [List.mem_singleton.mp hm]
        exact List.mem_cons_of_mem _ (List.mem_filter.mp ho).1
    · obtain ⟨a, b⟩ := pairs_mem h
      exact ⟨fun m hm => List.mem_cons_of_mem _ (a m hm), b⟩
theorem causes_mem {g : Nm → List Nm} {fs : List Nm} {c : List Nm} (h : c ∈ causesOf g fs) : (∀ n ∈ c, n ∈ fs) ∧ c.length ≤ 2 := by
  unfold causesOf at h
  rcases List.mem_append.mp h with h | h
  · obtain ⟨n, hn, rfl⟩ := List.mem_map.mp h
    exact ⟨fun m hm => by rw [List.mem_singleton.mp hm]; exact hn, by show 1 ≤ 2; decide⟩
  · exact pairs_mem h
theorem names_ok {l : Lab} {Ps : List Pat} (ok : PsOk l Ps) (l8 : Ps.length ≤ 8) {gs : List Nm} {n : Nm} (h : n ∈ srtN ((Ps.map (·.nm)).filter fun n => decide (¬ n ∈ gs))) : NmG l n := by
  unfold srtN at h
  obtain ⟨R, hR, rfl⟩ := List.mem_map.mp (List.mem_filter.mp (List.mem_mergeSort.mp h)).1
  obtain ⟨i, hi⟩ := List.mem_iff_getElem?.mp hR
  obtain ⟨a, ha, e⟩ := ok.nm i R hi
  have li := (List.getElem?_eq_some_iff.mp hi).1
  have : nOf (Ps.take i) a ≤ i := by
    unfold nOf
    exact Nat.le_trans (List.length_filter_le _ _) (by rw [List.length_take]; omega)
  exact ⟨by rw [e], by rw [e]; exact ha, by rw [e]; show 1 + nOf (Ps.take i) a < 10; omega⟩
theorem gr_ok {l : Lab} {Ps : List Pat} {gs : List Nm} {k : Nat} {g : Grp} (l8 : l.1 < 8) (lm : l.2 ∈ marks3) (ok : PsOk l Ps) (lp : Ps.length ≤ 8) (h : ∀ c ∈ g, (∀ n ∈ c, n ∈ srtN ((Ps.map (·.nm)).filter fun n => decide (¬ n ∈ gs))) ∧ c.length ≤ 10) (lg : g.length ≤ k) : GrOk l k g :=
  ⟨l8, lm, fun c hc n hn => names_ok ok lp ((h c hc).1 n hn), fun c hc => (h c hc).2, lg⟩
/-- causes and tests, told together -/
theorem two_facts {l : Lab} {css tss : Grp} (h1 : GrOk l 10 css) (h2 : GrOk l 30 tss) : (PyData.tuple [grD css, grD tss]).showable = true ∧ (PyData.tuple [grD css, grD tss]).hasDict = false ∧ (PyData.tuple [grD css, grD tss]).depth ≤ 60 ∧ (PyData.tuple [grD css, grD tss]).shown.length ≤ sizeLine := by
  have b := (RpAll.cons (rp_gr h1) (RpAll.cons (rp_gr h2) (RpAll.nil (b := 0)))).tup
  exact ⟨b.s, b.h, Nat.le_trans b.k (by decide), PyData.shown_fits_bulk (B := 8) (by decide) (by decide) b.l (Nat.le_trans b.b (by decide))⟩
end K20
namespace K20
open PySem PySem.Spec PyProof.Rows L2 TL TR QR
open GxR (TabB TabG Tabbed)
open PySem.W (EachIs)
abbrev sLAW : Stmt := topS 30
abbrev nLAW : List Str := ["script", "state", "causes", "tests", "kept", "known", "due", "told", "cause", "turn", "tree", "again", "right"]
theorem scLAW : FnScope nLAW ["script"] (defScope sLAW) := ⟨rfl, rfl, rfl, by decide +kernel, rfl, by decide +kernel, by decide +kernel⟩
section
variable {P : Program} {w : World} {K : PySem.W.Frag} {mg : Str → Option Value} {base : Heap} {T1 : Addr}
def spLaw (K : PySem.W.Frag) (T1 : Addr) : Sp := fun vs H Q _ => ∃ (a : Addr) (ns : List Int), vs = [.ref a] ∧ SqL K H a (ns.map V.int) ∧ ns.length ≤ 63 ∧ TabG H T1 ∧ ∀ H', Q (.bl true) H'
theorem ok_LAW {f fST fCS fLF fLP fPL fDE fPG fLS fD fLT fLR fLD : Addr} {fdST fdCS fdLF fdLP fdPL fdDE fdPG fdLS fdD fdLT fdLR fdLD : FuncData} {oc kV doc pm cdv ct : Value} {od an : Option Addr} {osl : Array (Option Value)}
    (lk : K.lookup f = some ⟨oc, od, .func (PySem.W.fnOf "law" "law" (defArgs sLAW) (defBody sLAW) (defScope sLAW) .none kV doc pm an cdv ct), osl⟩) (hcd : PySem.W.codeIn K cdv "law" = true)
    (GST : FnOk P w K mg base CX0 1 fST fdST ["script"] (spState K)) (bST : Binds K fdST ["script"] []) (gST : mg "_law_state" = some (.ref fST)) (kST : PySem.W.keepIn K (.ref fST) = true)
    (GCS : FnOk P w K mg base CX0 6 fCS fdCS ["state"] spCS) (bCS : Binds K fdCS ["state"] []) (gCS : mg "_law_case" = some (.ref fCS)) (kCS : PySem.W.keepIn K (.ref fCS) = true)
    (GLF : FnG P w K mg base 13 fLF fdLF ["tests", "group", "known"] (spLF 11)) (bLF : Binds K fdLF ["tests", "group", "known"] []) (gLF : mg "_law_fewest" = some (.ref fLF)) (kLF : PySem.W.keepIn K (.ref fLF) = true)
    (GLP : FnG P w K mg base 24 fLP fdLP ["tests", "group", "known"] (spLP 11)) (bLP : Binds K fdLP ["tests", "group", "known"] []) (gLP : mg "_law_plan" = some (.ref fLP)) (kLP : PySem.W.keepIn K (.ref fLP) = true)
    (GPL : FnOk P w K mg base CX0 26 fPL fdPL ["causes", "tests"] (spPL T1)) (bPL : Binds K fdPL ["causes", "tests"] []) (gPL : mg "plan" = some (.ref fPL)) (kPL : PySem.W.keepIn K (.ref fPL) = true)
    (GDE : FnOk P w K mg base CX0 1 fDE fdDE ["tree"] spDE) (bDE : Binds K fdDE ["tree"] []) (gDE : mg "depth" = some (.ref fDE)) (kDE : PySem.W.keepIn K (.ref fDE) = true)
    (GPG : FnOk P w K mg base CX0 5 fPG fdPG ["causes", "tests", "tree"] (spPG T1)) (bPG : Binds K fdPG ["causes", "tests", "tree"] []) (gPG : mg "plan_right" = some (.ref fPG)) (kPG : PySem.W.keepIn K (.ref fPG) = true)
    (GLS : FnOk P w K mg base CX0 29 fLS fdLS ["causes", "tests", "cause", "tree"] (spLS T1)) (bLS : Binds K fdLS ["causes", "tests", "cause", "tree"] []) (gLS : mg "_law_searched" = some (.ref fLS)) (kLS : PySem.W.keepIn K (.ref fLS) = true)
    (GD : FnOk P w K mg base CX0 1 fD fdD ["state", "many"] spDraw) (bD : Binds K fdD ["state", "many"] []) (gD : mg "_law_draw" = some (.ref fD)) (kD : PySem.W.keepIn K (.ref fD) = true)
    (GLT : FnOk P w K mg base CX0 21 fLT fdLT ["state", "tests", "tree"] (spLT 20)) (bLT : Binds K fdLT ["state", "tests", "tree"] []) (gLT : mg "_law_turned" = some (.ref fLT)) (kLT : PySem.W.keepIn K (.ref fLT) = true)
    (GLR : FnOk P w K mg base CX0 21 fLR fdLR ["tests", "group", "tree"] (spLR 20)) (bLR : Binds K fdLR ["tests", "group", "tree"] []) (gLR : mg "_law_plan_right" = some (.ref fLR)) (kLR : PySem.W.keepIn K (.ref fLR) = true)
    (GLD : FnOk P w K mg base CX0 21 fLD fdLD ["tree"] (spLD 20)) (bLD : Binds K fdLD ["tree"] []) (gLD : mg "_law_depth" = some (.ref fLD)) (kLD : PySem.W.keepIn K (.ref fLD) = true)
    (m_range : mg "range" = none) (m_repr : mg "repr" = none) (m_isinstance : mg "isinstance" = none) (m_bool : mg "bool" = none) :
    GX.FnC P w K mg base f (PySem.W.fnOf "law" "law" (defArgs sLAW) (defBody sLAW) (defScope sLAW) .none kV doc pm an cdv ct) ["script"] (spLaw K T1) := by
  refine GX.fn_C (k := 29) ⟨rfl, by decide +kernel, by decide +kernel⟩ lk hcd scLAW (fun vs H Q E h => ?_) fun A outer s H vs Q E hgd hr h => ?_
  · obtain ⟨a, ns, rfl, _⟩ := h
    rfl
  · obtain ⟨sa, ns, rfl, hS, hl, hT, q⟩ := h
    have hu := hr.units
    have hu1 := hu_of hr
    have hr1 : Room 1 _ := hr.mono (by decide)
    have hr5 : Room 5 _ := hr.mono (by decide)
    have hr6 : Room 6 _ := hr.mono (by decide)
    have hrL : Room 13 _ := hr.mono (by decide)
    have hrA : Room 24 _ := hr.mono (by decide)
    have hrP : Room 26 _ := hr.mono (by decide)
    have hrS : Room 29 _ := hr
    have hrT : Room 21 _ := hr.mono (by decide)
    have hrR : Room 21 _ := hr.mono (by decide)
    have hrD : Room 21 _ := hr.mono (by decide)
    have zl := zl
    refine ⟨_, (pss_cons (ps_set (i := 1) scLAW.nd rfl (.inl rfl) (pe_call GST hr1 (by rfl) gST kST bST .nil pass0 (pa_cons (pv 0) pa_nil)))
      (pss_cons (ps_asg (pe_call GCS hr6 (by rfl) gCS kCS bCS .nil pass0 (pa_cons (pv 1) pa_nil)) (pg_tup (by rfl) (pgs_cons (pg_name (i := 2) scLAW.nd rfl (.inl rfl)) (pgs_cons (pg_name (i := 3) scLAW.nd rfl (.inl rfl)) pgs_nil))))
      (pss_cons (ps_set (i := 4) scLAW.nd rfl (.inl rfl) (pe_callB (GX.cr_repr hgd hu) (by rfl) m_repr (by decide +kernel) (pa_cons (pe_tup (pa_cons (pv 2) (pa_cons (pv 3) pa_nil))) pa_nil)))
      (pss_cons (ps_set (i := 5) scLAW.nd rfl (.inl rfl) (pe_dnewK))
      (pss_cons (ps_set (i := 6) scLAW.nd rfl (.inl rfl) (pe_callG GLP hgd hrA (by rfl) gLP kLP bLP .nil pass0 (pa_cons (pv 3) (pa_cons (pv 2) (pa_cons (pv 5) pa_nil)))))
      (pss_cons (ps_set (i := 7) scLAW.nd rfl (.inl rfl) (pe_call GPL hrP (by rfl) gPL kPL bPL .nil pass0 (pa_cons (pv 2) (pa_cons (pv 3) pa_nil))))
      (pss_cons (ps_if (PW.pt (pw_or (pt_cmpR (op_neP hu) (pv 7) (pv 6) (nomark _)) (pw_or (pt_cmpR op_ne (pe_call GDE hr1 (by rfl) gDE kDE bDE .nil pass0 (pa_cons (pv 7) pa_nil)) (pe_ix ix_tup (pe_callG GLF hgd hrL (by rfl) gLF kLF bLF .nil pass0 (pa_cons (pv 3) (pa_cons (pv 2) (pa_cons (pv 5) pa_nil)))) (pe_int) (fun _ _ => rfl)) (nomark _)) (pw_or1 (pt_cmpR op_isnot_bl (pe_call GPG hr5 (by rfl) gPG kPG bPG .nil pass0 (pa_cons (pv 2) (pa_cons (pv 3) (pa_cons (pv 7) pa_nil)))) (pe_bl) (nomark _))))))
      (pss_one (ps_ret (pe_bl))) pss_nil)
      (pss_cons (ps_for PassesOwn.never rfl (pi_list (pv 2)) (pg_name (i := 8) scLAW.nd rfl (.inl rfl))
      (pss_one (ps_if (pt_not (pt_val (pe_call GLS hrS (by rfl) gLS kLS bLS .nil pass0 (pa_cons (pv 2) (pa_cons (pv 3) (pa_cons (pv 8) (pa_cons (pv 6) pa_nil)))))))
      (pss_one (ps_ret (pe_bl))) pss_nil)))
      (pss_cons (ps_for PassesOwn.never rfl (pi_range1 (by rfl) m_range (pa_cons (pe_int) pa_nil)) (pg_name (i := 9) scLAW.nd rfl (.inl rfl))
      (pss_cons (ps_set (i := 10) scLAW.nd rfl (.inl rfl) (pv 6))
      (pss_cons (ps_for PassesOwn.never rfl (pi_range1 (by rfl) m_range (pa_cons (pe_op op_add (pe_int) (pe_call GD hr1 (by rfl) gD kD bD .nil pass0 (pa_cons (pv 1) (pa_cons (pe_int) pa_nil)))) pa_nil)) (pg_name (i := 11) scLAW.nd rfl (.inl rfl))
      (pss_one (ps_set (i := 10) scLAW.nd rfl (.inl rfl) (pe_call GLT hrT (by rfl) gLT kLT bLT .nil pass0 (pa_cons (pv 1) (pa_cons (pv 3) (pa_cons (pv 10) pa_nil)))))))
      (pss_cons (ps_set (i := 12) scLAW.nd rfl (.inl rfl) (pe_call GPG hr5 (by rfl) gPG kPG bPG .nil pass0 (pa_cons (pv 2) (pa_cons (pv 3) (pa_cons (pv 10) pa_nil)))))
      (pss_cons (ps_if (PW.pt (pw_or (pt_not (pt_val (pe_callB call_isi (by rfl) m_isinstance (by decide +kernel) (pa_cons (pv 12) (pa_cons (pe_bltn (v := V.ty "bool") (u := .type "bool") (by rfl) m_bool (by decide +kernel) rfl) pa_nil))))) (pw_or1 (pt_cmpR op_ne (pv 12) (pe_call GLR hrR (by rfl) gLR kLR bLR .nil pass0 (pa_cons (pv 3) (pa_cons (pv 2) (pa_cons (pv 10) pa_nil)))) (nomark _)))))
      (pss_one (ps_ret (pe_bl))) pss_nil)
      (pss_one (ps_if (PW.pt (pw_or (pt_cmpR op_ne (pe_call GDE hr1 (by rfl) gDE kDE bDE .nil pass0 (pa_cons (pv 10) pa_nil)) (pe_call GLD hrD (by rfl) gLD kLD bLD .nil pass0 (pa_cons (pv 10) pa_nil)) (nomark _)) (pw_or1 (PW.pt (pw_and (pt_val (pv 12)) (pw_and1 (pt_cmpR op_lt (pe_call GDE hr1 (by rfl) gDE kDE bDE .nil pass0 (pa_cons (pv 10) pa_nil)) (pe_call GDE hr1 (by rfl) gDE kDE bDE .nil pass0 (pa_cons (pv 7) pa_nil)) (nomark _))))))))
      (pss_one (ps_ret (pe_bl))) pss_nil)))))))
      (pss_one (ps_ret (pe_cmpR op_eq (pe_callB (GX.cr_repr hgd hu) (by rfl) m_repr (by decide +kernel) (pa_cons (pe_tup (pa_cons (pv 2) (pa_cons (pv 3) pa_nil))) pa_nil)) (pv 4) (nomark _))))))))))))), ?_⟩
    dsimp only [cxOf, Cx.nox]
    refine asg_seq ?_
    refine ⟨_, rfl, sa, ns, rfl, hS, hl, fun H1 p c s1 np nc st1 => ?_⟩
    dsimp only
    refine ⟨_, rfl, p, c, rfl, st1, fun H2 t cv tv l Ps g2 g3 gs css tss d2 ht hcs hts l8 lm ok lP _ _ subc lc subt lt _ lfs => ?_⟩
    refine ⟨t, _, rfl, SqT.of ht, rfl, _, _, rfl, _, _, rfl, rfl, ?_⟩
    dsimp only
    have hN1 : ∀ a, H1 a = none → a ≠ p ∧ a ≠ c := fun a n => st1.new n
    have okc : GrOk l 10 css := gr_ok l8 lm ok lP (gs := gs) (fun c hc => by
      obtain ⟨a, b⟩ := causes_mem (subc.subset hc)
      exact ⟨a, by omega⟩) (by omega)
    have okt : GrOk l 30 tss := gr_ok l8 lm ok lP (gs := gs) (fun c hc => by
      obtain ⟨a, b⟩ := parts_mem (subt.subset hc)
      refine ⟨a, Nat.le_trans b ?_⟩
      unfold srtN
      rw [List.length_mergeSort]
      omega) (by omega)
    have tg2 := tabg_dr st1 d2 (tab_same hT s1)
    have hcs2 := hcs.imp (N' := fun a => a ≠ p ∧ a ≠ c) hN1
    have hts2 := hts.imp (N' := fun a => a ≠ p ∧ a ≠ c) hN1
    have st2 := d2.st
    clear hcs hts ht subc subt d2 hN1 hS hT s1 np nc st1 ok
    have lcs : ∀ c ∈ css, c.length ≤ 1000 := fun c hc => by have := okc.ln c hc; omega
    have lts : ∀ c ∈ tss, c.length ≤ 1000 := fun c hc => by have := okt.ln c hc; omega
    obtain ⟨f1, f2, f3, f4⟩ := two_facts okc okt
    refine asg_seq ?_
    refine ⟨_, rfl, _, rfl, by show 2 ≤ sizeLine; omega, fun r nr => ?_⟩
    have sr := same_new (o := .tup [cv, tv]) nr
    refine ⟨r, _, rfl, .tup (SqT.of upd_same) (.cons (hcs2.lf (Same.lf sr)).dp (.cons (hts2.lf (Same.lf sr)).dp .nil)), f1, f2, f3, f4, ?_⟩
    dsimp only
    refine asg_seq fun kd nkd => ?_
    have sk := same_new (o := .dK []) nkd
    have ek : upd (upd H2 r (.tup [cv, tv])) kd (.dK []) kd = some (.dK []) := upd_same
    have s3 := same_trans sr sk
    generalize upd (upd H2 r (.tup [cv, tv])) kd (.dK []) = H3 at s3 ek
    dsimp only
    have hcs3 := hcs2.lf (Same.lf s3)
    have hts3 := hts2.lf (Same.lf s3)
    have st3 := st2.same s3
    have tg3 := tab_same tg2 s3
    clear hcs2 hts2 st2 tg2 sr sk s3 nkd nr
    have hK3 : KnG H3 kd css tss [] := ⟨ek, List.nodup_nil, fun k v e => by rw [valV_nil] at e; cases e⟩
    have nall := named_all css
    refine asg_seq ?_
    refine ⟨_, rfl, _, rfl, _, rfl, tv, cv, kd, _, l, css, tss, [], 2 ^ css.length - 1, rfl, hts3, by rw [nall]; exact hcs3, hK3, okc, by omega, lts, pow_pred _, by rw [nall]; omega, fun H4 es4 dv ex4 hK4 hdv => ?_⟩
    rw [nall] at hdv
    have hdv4 := hdv.imp (N' := fun a => a ≠ p ∧ a ≠ c) fun a h => h.elim id fun n => st3.new n
    have kdp : kd ≠ p ∧ kd ≠ c := by
      obtain ⟨⟨_, x1⟩, ⟨_, x2⟩⟩ := st3.some
      exact ⟨(fun z => by rw [z, x1] at ek; cases ek), (fun z => by rw [z, x2] at ek; cases ek)⟩
    have st4 : StateAt H4 p c := st3.mono (fun o e => ex4 _ _ (Ne.symm kdp.1) e) (fun o e => ex4 _ _ (Ne.symm kdp.2) e)
    have tg4 : TabG H4 T1 := by
      obtain ⟨ps, e1, e2⟩ := tg3
      exact ⟨ps, ex4 _ _ (fun z => by rw [z, ek] at e1; cases e1) e1, e2⟩
    have hcs4 := hcs3.lf (ex4.lf hK3.ex)
    have hts4 := hts3.lf (ex4.lf hK3.ex)
    clear hcs3 hts3 st3 tg3 hdv ek hK3 ex4
    refine asg_seq ?_
    refine ⟨_, rfl, _, rfl, cv, tv, _, css, tss, rfl, hcs4, hts4, tg4, by omega, by omega, lcs, fun H5 lv t5 hlv => ?_⟩
    dsimp only
    have L5 : LawH T1 p c cv tv dv lv css tss H5 :=
      have lf : LF (fun a => a ≠ p ∧ a ≠ c) H4 H5 := t5.lf (tg_one tg4)
      ⟨st_tbs tg4 t5 st4, t5.tg T1 (by simp), hcs4.lf lf, hts4.lf lf, hdv4.lf lf, hlv.imp fun a n => st4.new n⟩
    have hK5 : KnG H5 kd css tss es4 := ⟨t5.at_ (tg_one tg4) hK4.ex (fun _ z => nomatch z), hK4.nd, fun k v e => let ⟨b, h1, h2, h3⟩ := hK4.vl k v e; ⟨b, h1, h2, h3.ts (t5.ts (tg_one tg4))⟩⟩
    clear hcs4 hts4 st4 tg4 hdv4 hlv hK4 t5
    have dp1 := bp_ns tss css
    have dp2 := ns_le tss css
    have dpt : depthP (bp tss css) ≤ 12 := by omega
    have szt : szP (bp tss css) ≤ 15 := by
      have := bp_sz tss css
      omega
    -- the plan, its depth, whether it is right
    refine ⟨_, rfl, _, rfl, trD (bp tss css), trD (bp tss css), L5.tl.dp, L5.du.dp, solid_plain _ (solid_tr _), solid_plain _ (solid_tr _), by have := depth_tr (bp tss css); omega, _, rfl, no_if (by rw [PySem.SeqAt.eqv_refl_plain _ (solid_plain _ (solid_tr (bp tss css)))]; rfl) ?_⟩
    refine ⟨_, rfl, lv, _, bp tss css, rfl, L5.tl, by omega, fun H6 s6 => ?_⟩
    have L6 := L5.same s6
    have hK6 := hK5.same s6
    refine ⟨_, rfl, _, rfl, _, rfl, tv, cv, kd, _, l, css, tss, es4, 2 ^ css.length - 1, rfl, L6.ts, by rw [nall]; exact L6.cs, hK6, okc, by omega, lts, pow_pred _, by rw [nall]; omega, fun H7 es7 v7 ex7 hK7 ⟨t7, e7, ht7⟩ => ?_⟩
    subst e7
    rw [nall] at ht7
    refine ⟨t7, _, 0, _, rfl, rfl, SqT.of ht7, atI_nat (j := 0) rfl, rfl, _, rfl, no_if (by rw [bp_depth, decide_eq_true rfl]; rfl) ?_⟩
    have L7 := L6.ex hK6.ex ex7
    clear L6 L5 hK5 hK6 hK7 ht7 ex7 s6
    refine ⟨_, rfl, _, rfl, _, rfl, cv, tv, lv, _, css, tss, bp tss css, rfl, L7.cs, L7.ts, L7.tl, by omega, L7.tg, by omega, by omega, lcs, fun H8 t8 => ?_⟩
    have L8 := L7.tbs t8
    rw [bp_right]
    refine ⟨true, true, rfl, rfl, _, rfl, no_if rfl ?_⟩
    clear L7 t8
    dsimp only [tNext]
    -- the searches
    refine tseq_intro (fun σ' H' => ∃ (y8 y9 y10 y11 y12 : Option V), σ' = [some (.ref sa), some (.ref p), some cv, some tv, some (.str (PyData.tuple [grD css, grD tss]).shown), some (.ref kd), some dv, some lv, y8, y9, y10, y11, y12] ∧ LawH T1 p c cv tv dv lv css tss H') ?_ fun NN hN => ?_
    · rintro σ' H9 ⟨y8, y9, y10, y11, y12, rfl, L9⟩
      refine tseq_intro (fun σ' H' => ∃ (y8 y9 y10 y11 y12 : Option V), σ' = [some (.ref sa), some (.ref p), some cv, some tv, some (.str (PyData.tuple [grD css, grD tss]).shown), some (.ref kd), some dv, some lv, y8, y9, y10, y11, y12] ∧ LawH T1 p c cv tv dv lv css tss H') ?_ fun NN hN => ?_
      · rintro σ' H10 ⟨y8, y9, y10, y11, y12, rfl, L10⟩
        refine ⟨_, rfl, _, rfl, by show 2 ≤ sizeLine; omega, fun r nr => ?_⟩
        have sr := same_new (o := .tup [cv, tv]) nr
        refine ⟨r, _, rfl, .tup (SqT.of upd_same) (.cons (L10.cs.lf (Same.lf sr)).dp (.cons (L10.ts.lf (Same.lf sr)).dp .nil)), f1, f2, f3, f4, ?_⟩
        refine ⟨_, rfl, rfl, ?_⟩
        rw [decide_eq_true rfl]
        exact q _
      · refine ⟨_, rfl, by omega, by omega, ?_⟩
        refine for_it (walk_range (lo := 0) (n := (5 : Int).toNat)) (fun _ σ' H' => ∃ (y8 y9 y10 y11 y12 : Option V), σ' = [some (.ref sa), some (.ref p), some cv, some tv, some (.str (PyData.tuple [grD css, grD tss]).shown), some (.ref kd), some dv, some lv, y8, y9, y10, y11, y12] ∧ LawH T1 p c cv tv dv lv css tss H') ⟨y8, y9, y10, y11, y12, rfl, L9⟩ (fun _ _ _ _ _ => trivial) ?_ fun σ' H' z => hN _ _ z
        rintro turn x σ' H10 H10' ht ⟨y8, y9, y10, y11, y12, rfl, L10⟩ ⟨rfl, rfl⟩
        refine name_to ?_
        refine asg_seq ?_
        refine ⟨_, rfl, ?_⟩
        refine tseq_intro (fun σ' H' => ∃ (y8 y9 y11 y12 : Option V) (rv : V) (t : Pl), σ' = [some (.ref sa), some (.ref p), some cv, some tv, some (.str (PyData.tuple [grD css, grD tss]).shown), some (.ref kd), some dv, some lv, y8, y9, some rv, y11, y12] ∧ LawH T1 p c cv tv dv lv css tss H' ∧ TrAt (fun a => a ≠ p ∧ a ≠ c) H' rv t ∧ depthP t ≤ 14 ∧ szP t ≤ 19) ?_ fun N2 hN2 => ?_
        · rintro σ' H11 ⟨y8, y9, y11, y12, rv, t, rfl, L11, htr, hd, hz⟩
          refine asg_seq ?_
          refine ⟨_, rfl, _, rfl, _, rfl, cv, tv, rv, _, css, tss, t, rfl, L11.cs, L11.ts, htr, by omega, L11.tg, by omega, by omega, lcs, fun H12 t12 => ?_⟩
          have L12 := L11.tbs t12
          have htr12 : TrAt (fun a => a ≠ p ∧ a ≠ c) H12 rv t := htr.lf (t12.lf (tg_one L11.tg))
          dsimp only
          refine ⟨_, rfl, .bl _, .ty "bool", .type "bool", .type "bool", true, rfl, .ty _, .base (.bl _), kit_ty rfl, true, rfl, no_if rfl ?_⟩
          refine ⟨_, rfl, _, rfl, _, rfl, _, rfl, tv, cv, rv, _, tss, css, t, rfl, L12.ts, L12.cs, htr12, by omega, lts, by omega, lcs, by omega, fun H13 s13 => ⟨rfl, _, rfl, no_if (by rw [decide_eq_true rfl]; rfl) ?_⟩⟩
          have L13 := L12.same s13
          have htr13 := htr12.lf (Same.lf s13)
          dsimp only [tNext]
          refine ⟨_, rfl, rv, _, t, rfl, htr13, by omega, fun H14 s14 => ?_⟩
          have L14 := L13.same s14
          have htr14 := htr13.lf (Same.lf s14)
          refine ⟨_, rfl, rv, _, t, rfl, htr14, by omega, fun H15 s15 => ⟨rfl, _, rfl, no_if (by rw [decide_eq_true rfl]; rfl) ?_⟩⟩
          have L15 := L14.same s15
          have htr15 := htr14.lf (Same.lf s15)
          refine ⟨_, rfl, _, rfl, ?_⟩
          cases er : rightP tss css t with
          | false => exact no_if rfl (no_if rfl ⟨_, _, _, _, _, rfl, L15⟩)
          | true =>
            refine yes_if rfl ?_
            refine ⟨_, rfl, rv, _, t, rfl, htr15, by omega, fun H16 s16 => ⟨_, rfl, lv, _, bp tss css, rfl, (L15.same s16).tl, by omega, fun H17 s17 => ⟨_, _, rfl, rfl, _, rfl, no_if (decide_eq_false ?_) ⟨_, _, _, _, _, rfl, (L15.same s16).same s17⟩⟩⟩⟩
            have := right_least tss t css er
            rw [bp_depth]
            omega
        · refine ⟨_, rfl, p, c, 2, rfl, by decide, L10.st, fun H11 r _ hr2 st11 dd => ⟨_, _, rfl, rfl, _, rfl, by omega, by omega, ?_⟩⟩
          have r2 := hr2 (by decide)
          have L11 := L10.dr ((Dr.refl L10.st).drawn st11 dd)
          refine for_it (walk_range (lo := 0) (n := (1 + (r : Int)).toNat)) (fun k σ' H' => ∃ (y8 y9 y11 y12 : Option V) (rv : V) (t : Pl), σ' = [some (.ref sa), some (.ref p), some cv, some tv, some (.str (PyData.tuple [grD css, grD tss]).shown), some (.ref kd), some dv, some lv, y8, y9, some rv, y11, y12] ∧ LawH T1 p c cv tv dv lv css tss H' ∧ TrAt (fun a => a ≠ p ∧ a ≠ c) H' rv t ∧ depthP t ≤ 12 + k ∧ szP t ≤ 15 + 2 * k) ⟨_, _, _, _, dv, bp tss css, rfl, L11, L11.du, by omega, by omega⟩ (fun _ _ _ _ _ => trivial) ?_ ?_
          · rintro k x σ' H12 H12' hk ⟨y8, y9, y11, y12, rv, t, rfl, L12, htr, hd, hz⟩ ⟨rfl, rfl⟩
            refine name_to ?_
            refine (?_ : tAsg _ _ _ _ _)
            refine ⟨_, rfl, _, rfl, _, rfl, p, c, tv, rv, _, tss, t, rfl, L12.st, L12.ts, htr, (fun _ n => n), by omega, by omega, fun H13 v t' d13 hv e1 e2 => ?_⟩
            have L13 := L12.dr d13
            exact ⟨_, _, _, _, v, t', rfl, L13, hv.imp fun a h => h.elim id fun n => L12.st.new n, by omega, by omega⟩
          · rintro σ' H12 ⟨y8, y9, y11, y12, rv, t, rfl, L12, htr, hd, hz⟩
            exact hN2 _ _ ⟨_, _, _, _, rv, t, rfl, L12, htr, by omega, by omega⟩
    · obtain ⟨ca, cw, rfl, nca, hca, hcw⟩ := id L8.cs
      refine ⟨_, rfl, ca, rfl, ⟨_, SqL.of hca⟩, ?_⟩
      refine for_list (K := K) (xs := cw) (fun i σ' H' => ∃ (y8 y9 y10 y11 y12 : Option V), σ' = [some (.ref sa), some (.ref p), some (.ref ca), some tv, some (.str (PyData.tuple [grD css, grD tss]).shown), some (.ref kd), some dv, some lv, y8, y9, y10, y11, y12] ∧ LawH T1 p c (.ref ca) tv dv lv css tss H' ∧ LF (fun a => a ≠ p ∧ a ≠ c) H8 H') ⟨none, none, none, none, none, rfl, L8, LF.refl⟩ ?_ ?_ ?_
      · rintro i σ' H' _ ⟨y8, y9, y10, y11, y12, rfl, _, lf⟩
        exact SqL.of (lf.ls _ _ nca hca)
      · rintro i v σ' H9 hv ⟨y8, y9, y10, y11, y12, rfl, L9, lf⟩
        obtain ⟨cause, hc, hcv⟩ := each_at hcw hv
        refine name_to ?_
        dsimp only
        refine ⟨_, rfl, _, rfl, _, rfl, _, rfl, .ref ca, tv, v, dv, _, css, tss, cause, rfl, L9.cs, L9.ts, hcv.lf lf, List.mem_of_getElem? hc, L9.du, L9.tg, by omega, by omega, lcs, lts, fun H10 t10 => ⟨_, rfl, no_if rfl ?_⟩⟩
        exact ⟨_, _, _, _, _, rfl, L9.tbs t10, lf.trans (t10.lf (tg_one L9.tg))⟩
      · rintro σ' H9 ⟨y8, y9, y10, y11, y12, rfl, L9, lf⟩
        exact hN _ _ ⟨_, _, _, _, _, rfl, L9⟩
end
end K20
namespace K20
open PySem PySem.Spec PyProof.Rows L2 TL TR QR
theorem all_mk {l : PySem.W.OpenLaw} {q : Program} {w : World} {K : PySem.W.Frag} {h : Heap} {mg : Str → Option Value} {fa : Addr} (X : K.In h) (G : h.Ns mainGlobals mg) (hfa : mg "law" = some (.ref fa)) (tabs : GX.AllTabs q K mg h) (hrecT1 : ((recsOf q).any fun e => e.name == ("is_bad" : Str)) = true)
    {fIB fST fD fP fSM fPA fCH fPW fNE fAB fBT fCA fPR fCS fBD fLF fLP fPL fPG fDE fLS fLT fLR fLD fLAW : Addr} {odIB anIB odST anST odD anD odP anP odSM anSM odPA anPA odCH anCH odPW anPW odNE anNE odAB anAB odBT anBT odCA anCA odPR anPR odCS anCS odBD anBD odLF anLF odLP anLP odPL anPL odPG anPG odDE anDE odLS anLS odLT anLT odLR anLR odLD anLD odLAW anLAW : Option Addr} {slIB slST slD slP slSM slPA slCH slPW slNE slAB slBT slCA slPR slCS slBD slLF slLP slPL slPG slDE slLS slLT slLR slLD slLAW : Array (Option Value)}
    {ocIB kVIB dcIB pmIB ctIB ocST kVST dcST pmST ctST cdST ocD kVD dcD pmD ctD cdD ocP kVP dcP pmP ctP cdP ocSM kVSM dcSM pmSM ctSM cdSM ocPA kVPA dcPA pmPA ctPA cdPA ocCH kVCH dcCH pmCH ctCH cdCH ocPW kVPW dcPW pmPW ctPW cdPW ocNE kVNE dcNE pmNE ctNE cdNE ocAB kVAB dcAB pmAB ctAB cdAB ocBT kVBT dcBT pmBT ctBT cdBT ocCA kVCA dcCA pmCA ctCA cdCA ocPR kVPR dcPR pmPR ctPR cdPR ocCS kVCS dcCS pmCS ctCS cdCS ocBD kVBD dcBD pmBD ctBD cdBD ocLF kVLF dcLF pmLF ctLF cdLF ocLP kVLP dcLP pmLP ctLP cdLP ocPL kVPL dcPL pmPL ctPL cdPL ocPG kVPG dcPG pmPG ctPG cdPG ocDE kVDE dcDE pmDE ctDE cdDE ocLS kVLS dcLS pmLS ctLS cdLS ocLT kVLT dcLT pmLT ctLT cdLT ocLR kVLR dcLR pmLR ctLR cdLR ocLD kVLD dcLD pmLD ctLD cdLD ocLAW kVLAW dcLAW pmLAW ctLAW cdLAW : Value}
    {cIB T1 : Addr} {eIB : Value} {ddIB : Option Addr} {vsIB : Array Value} {ssIB : Array (Option Value)}
    {CF fFI fBO fNMD fSD fFE fFT fBE : Addr} {odFI anFI odBO anBO odNMD anNMD odSD anSD odFE anFE odFT anFT odBE anBE : Option Addr} {slFI slBO slNMD slSD slFE slFT slBE : Array (Option Value)} {ocFI kVFI dcFI pmFI ctFI cdFI ocBO kVBO dcBO pmBO ctBO cdBO ocNMD kVNMD dcNMD pmNMD ctNMD cdNMD ocSD kVSD dcSD pmSD ctSD cdSD ocFE kVFE dcFE pmFE ctFE cdFE ocFT kVFT dcFT pmFT ctFT cdFT ocBE kVBE dcBE pmBE ctBE cdBE : Value}
    (nCF : PySem.W.nsIn K mainGlobals "Finder" = some (some (.ref CF))) (pgCF : PySem.W.plainGet K CF Str.empty = true) (hdCF : PySem.W.hasDictIn K CF = true) (poCF : PySem.W.plainOver K CF = true) (saCF : PySem.W.findIn K (.ref CF) "__setattr__" = some (some (.builtin "object.__setattr__"))) (mkCF : PySem.W.makesIn K CF = true) (kpCF : PySem.W.keepIn K (.ref CF) = true)
    (no_causes : PySem.W.findIn K (.ref CF) "causes" = some none)
    (no_all_bits : PySem.W.findIn K (.ref CF) "all_bits" = some none)
    (no_bad_bits : PySem.W.findIn K (.ref CF) "bad_bits" = some none)
    (no_kinds : PySem.W.findIn K (.ref CF) "kinds" = some none)
    (no_least : PySem.W.findIn K (.ref CF) "least" = some none)
    (aFI : PySem.W.findIn K (.ref CF) "__init__" = some (some (.ref fFI))) (iFI : PySem.W.isFn K (.ref fFI) = true)
    (lFI : K.lookup fFI = some ⟨ocFI, odFI, .func (PySem.W.fnOf "__init__" "Finder.__init__" (defArgs sFI) (defBody sFI) (defScope sFI) .none kVFI dcFI pmFI anFI cdFI ctFI), slFI⟩)
    (cFI1 : PySem.W.codeIn K cdFI "Finder.__init__" = true) (kFI1 : PySem.W.keepIn K (.ref fFI) = true)
    (aBO : PySem.W.findIn K (.ref CF) "bits_of" = some (some (.ref fBO))) (iBO : PySem.W.isFn K (.ref fBO) = true)
    (lBO : K.lookup fBO = some ⟨ocBO, odBO, .func (PySem.W.fnOf "bits_of" "Finder.bits_of" (defArgs sBO) (defBody sBO) (defScope sBO) .none kVBO dcBO pmBO anBO cdBO ctBO), slBO⟩)
    (cBO1 : PySem.W.codeIn K cdBO "Finder.bits_of" = true) (kBO1 : PySem.W.keepIn K (.ref fBO) = true)
    (aNMD : PySem.W.findIn K (.ref CF) "named" = some (some (.ref fNMD))) (iNMD : PySem.W.isFn K (.ref fNMD) = true)
    (lNMD : K.lookup fNMD = some ⟨ocNMD, odNMD, .func (PySem.W.fnOf "named" "Finder.named" (defArgs sNM) (defBody sNM) (defScope sNM) .none kVNMD dcNMD pmNMD anNMD cdNMD ctNMD), slNMD⟩)
    (cNMD1 : PySem.W.codeIn K cdNMD "Finder.named" = true) (kNMD1 : PySem.W.keepIn K (.ref fNMD) = true)
    (aSD : PySem.W.findIn K (.ref CF) "sides" = some (some (.ref fSD))) (iSD : PySem.W.isFn K (.ref fSD) = true)
    (lSD : K.lookup fSD = some ⟨ocSD, odSD, .func (PySem.W.fnOf "sides" "Finder.sides" (defArgs sSD) (defBody sSD) (defScope sSD) .none kVSD dcSD pmSD anSD cdSD ctSD), slSD⟩)
    (cSD1 : PySem.W.codeIn K cdSD "Finder.sides" = true) (kSD1 : PySem.W.keepIn K (.ref fSD) = true)
    (aFE : PySem.W.findIn K (.ref CF) "fewest" = some (some (.ref fFE))) (iFE : PySem.W.isFn K (.ref fFE) = true)
    (lFE : K.lookup fFE = some ⟨ocFE, odFE, .func (PySem.W.fnOf "fewest" "Finder.fewest" (defArgs sFE) (defBody sFE) (defScope sFE) .none kVFE dcFE pmFE anFE cdFE ctFE), slFE⟩)
    (cFE1 : PySem.W.codeIn K cdFE "Finder.fewest" = true) (kFE1 : PySem.W.keepIn K (.ref fFE) = true)
    (aFT : PySem.W.findIn K (.ref CF) "first_test" = some (some (.ref fFT))) (iFT : PySem.W.isFn K (.ref fFT) = true)
    (lFT : K.lookup fFT = some ⟨ocFT, odFT, .func (PySem.W.fnOf "first_test" "Finder.first_test" (defArgs sFT) (defBody sFT) (defScope sFT) .none kVFT dcFT pmFT anFT cdFT ctFT), slFT⟩)
    (cFT1 : PySem.W.codeIn K cdFT "Finder.first_test" = true) (kFT1 : PySem.W.keepIn K (.ref fFT) = true)
    (aBE : PySem.W.findIn K (.ref CF) "best" = some (some (.ref fBE))) (iBE : PySem.W.isFn K (.ref fBE) = true)
    (lBE : K.lookup fBE = some ⟨ocBE, odBE, .func (PySem.W.fnOf "best" "Finder.best" (defArgs sBE) (defBody sBE) (defScope sBE) .none kVBE dcBE pmBE anBE cdBE ctBE), slBE⟩)
    (cBE1 : PySem.W.codeIn K cdBE "Finder.best" = true) (kBE1 : PySem.W.keepIn K (.ref fBE) = true)
    {CE fSI fNP fAN fFO : Addr} {odSI anSI odNP anNP odAN anAN odFO anFO : Option Addr} {slSI slNP slAN slFO : Array (Option Value)} {ocSI kVSI dcSI pmSI ctSI cdSI ocNP kVNP dcNP pmNP ctNP cdNP ocAN kVAN dcAN pmAN ctAN cdAN ocFO kVFO dcFO pmFO ctFO cdFO : Value}
    (nCE : PySem.W.nsIn K mainGlobals "Search" = some (some (.ref CE))) (pgCE : PySem.W.plainGet K CE Str.empty = true) (hdCE : PySem.W.hasDictIn K CE = true) (poCE : PySem.W.plainOver K CE = true) (saCE : PySem.W.findIn K (.ref CE) "__setattr__" = some (some (.builtin "object.__setattr__"))) (mkCE : PySem.W.makesIn K CE = true) (kpCE : PySem.W.keepIn K (.ref CE) = true)
    (no_tests : PySem.W.findIn K (.ref CE) "tests" = some none)
    (no_rest : PySem.W.findIn K (.ref CE) "rest" = some none)
    (no_made : PySem.W.findIn K (.ref CE) "made" = some none)
    (aSI : PySem.W.findIn K (.ref CE) "__init__" = some (some (.ref fSI))) (iSI : PySem.W.isFn K (.ref fSI) = true)
    (lSI : K.lookup fSI = some ⟨ocSI, odSI, .func (PySem.W.fnOf "__init__" "Search.__init__" (defArgs sSI) (defBody sSI) (defScope sSI) .none kVSI dcSI pmSI anSI cdSI ctSI), slSI⟩)
    (cSI1 : PySem.W.codeIn K cdSI "Search.__init__" = true) (kSI1 : PySem.W.keepIn K (.ref fSI) = true)
    (aNP : PySem.W.findIn K (.ref CE) "next_part" = some (some (.ref fNP))) (iNP : PySem.W.isFn K (.ref fNP) = true)
    (lNP : K.lookup fNP = some ⟨ocNP, odNP, .func (PySem.W.fnOf "next_part" "Search.next_part" (defArgs sNP) (defBody sNP) (defScope sNP) .none kVNP dcNP pmNP anNP cdNP ctNP), slNP⟩)
    (cNP1 : PySem.W.codeIn K cdNP "Search.next_part" = true) (kNP1 : PySem.W.keepIn K (.ref fNP) = true)
    (aAN : PySem.W.findIn K (.ref CE) "answer" = some (some (.ref fAN))) (iAN : PySem.W.isFn K (.ref fAN) = true)
    (lAN : K.lookup fAN = some ⟨ocAN, odAN, .func (PySem.W.fnOf "answer" "Search.answer" (defArgs sAN) (defBody sAN) (defScope sAN) .none kVAN dcAN pmAN anAN cdAN ctAN), slAN⟩)
    (cAN1 : PySem.W.codeIn K cdAN "Search.answer" = true) (kAN1 : PySem.W.keepIn K (.ref fAN) = true)
    (aFO : PySem.W.findIn K (.ref CE) "found" = some (some (.ref fFO))) (iFO : PySem.W.isFn K (.ref fFO) = true)
    (lFO : K.lookup fFO = some ⟨ocFO, odFO, .func (PySem.W.fnOf "found" "Search.found" (defArgs sFO) (defBody sFO) (defScope sFO) .none kVFO dcFO pmFO anFO cdFO ctFO), slFO⟩)
    (cFO1 : PySem.W.codeIn K cdFO "Search.found" = true) (kFO1 : PySem.W.keepIn K (.ref fFO) = true)
    (aIB : PySem.W.nsIn K mainGlobals "is_bad" = some (some (.ref fIB)))
    (lIB : K.lookup fIB = some ⟨ocIB, odIB, .func (PySem.W.fnOf "is_bad" "is_bad" (defArgs sIB) (defBody sIB) (defScope sIB) .none kVIB dcIB pmIB anIB (.ref cIB) ctIB), slIB⟩)
    (cIB1 : PySem.W.codeIn K (.ref cIB) "is_bad" = true) (kIB1 : PySem.W.keepIn K (.ref fIB) = true)
    (aST : PySem.W.nsIn K mainGlobals "_law_state" = some (some (.ref fST)))
    (lST : K.lookup fST = some ⟨ocST, odST, .func (PySem.W.fnOf "_law_state" "_law_state" (defArgs sState) (defBody sState) (defScope sState) .none kVST dcST pmST anST cdST ctST), slST⟩)
    (cST1 : PySem.W.codeIn K cdST "_law_state" = true) (kST1 : PySem.W.keepIn K (.ref fST) = true)
    (aD : PySem.W.nsIn K mainGlobals "_law_draw" = some (some (.ref fD)))
    (lD : K.lookup fD = some ⟨ocD, odD, .func (PySem.W.fnOf "_law_draw" "_law_draw" (defArgs sDraw) (defBody sDraw) (defScope sDraw) .none kVD dcD pmD anD cdD ctD), slD⟩)
    (cD1 : PySem.W.codeIn K cdD "_law_draw" = true) (kD1 : PySem.W.keepIn K (.ref fD) = true)
    (aP : PySem.W.nsIn K mainGlobals "_law_pick" = some (some (.ref fP)))
    (lP : K.lookup fP = some ⟨ocP, odP, .func (PySem.W.fnOf "_law_pick" "_law_pick" (defArgs sPick) (defBody sPick) (defScope sPick) .none kVP dcP pmP anP cdP ctP), slP⟩)
    (cP1 : PySem.W.codeIn K cdP "_law_pick" = true) (kP1 : PySem.W.keepIn K (.ref fP) = true)
    (aSM : PySem.W.nsIn K mainGlobals "_law_some" = some (some (.ref fSM)))
    (lSM : K.lookup fSM = some ⟨ocSM, odSM, .func (PySem.W.fnOf "_law_some" "_law_some" (defArgs sSM) (defBody sSM) (defScope sSM) .none kVSM dcSM pmSM anSM cdSM ctSM), slSM⟩)
    (cSM1 : PySem.W.codeIn K cdSM "_law_some" = true) (kSM1 : PySem.W.keepIn K (.ref fSM) = true)
    (aPA : PySem.W.nsIn K mainGlobals "_law_path" = some (some (.ref fPA)))
    (lPA : K.lookup fPA = some ⟨ocPA, odPA, .func (PySem.W.fnOf "_law_path" "_law_path" (defArgs sPA) (defBody sPA) (defScope sPA) .none kVPA dcPA pmPA anPA cdPA ctPA), slPA⟩)
    (cPA1 : PySem.W.codeIn K cdPA "_law_path" = true) (kPA1 : PySem.W.keepIn K (.ref fPA) = true)
    (aCH : PySem.W.nsIn K mainGlobals "_law_change" = some (some (.ref fCH)))
    (lCH : K.lookup fCH = some ⟨ocCH, odCH, .func (PySem.W.fnOf "_law_change" "_law_change" (defArgs sCH) (defBody sCH) (defScope sCH) .none kVCH dcCH pmCH anCH cdCH ctCH), slCH⟩)
    (cCH1 : PySem.W.codeIn K cdCH "_law_change" = true) (kCH1 : PySem.W.keepIn K (.ref fCH) = true)
    (aPW : PySem.W.nsIn K mainGlobals "_law_patchwork" = some (some (.ref fPW)))
    (lPW : K.lookup fPW = some ⟨ocPW, odPW, .func (PySem.W.fnOf "_law_patchwork" "_law_patchwork" (defArgs sPW) (defBody sPW) (defScope sPW) .none kVPW dcPW pmPW anPW cdPW ctPW), slPW⟩)
    (cPW1 : PySem.W.codeIn K cdPW "_law_patchwork" = true) (kPW1 : PySem.W.keepIn K (.ref fPW) = true)
    (aNE : PySem.W.nsIn K mainGlobals "_law_needs" = some (some (.ref fNE)))
    (lNE : K.lookup fNE = some ⟨ocNE, odNE, .func (PySem.W.fnOf "_law_needs" "_law_needs" (defArgs sNE) (defBody sNE) (defScope sNE) .none kVNE dcNE pmNE anNE cdNE ctNE), slNE⟩)
    (cNE1 : PySem.W.codeIn K cdNE "_law_needs" = true) (kNE1 : PySem.W.keepIn K (.ref fNE) = true)
    (aAB : PySem.W.nsIn K mainGlobals "_law_all_below" = some (some (.ref fAB)))
    (lAB : K.lookup fAB = some ⟨ocAB, odAB, .func (PySem.W.fnOf "_law_all_below" "_law_all_below" (defArgs sAB) (defBody sAB) (defScope sAB) .none kVAB dcAB pmAB anAB cdAB ctAB), slAB⟩)
    (cAB1 : PySem.W.codeIn K cdAB "_law_all_below" = true) (kAB1 : PySem.W.keepIn K (.ref fAB) = true)
    (aBT : PySem.W.nsIn K mainGlobals "_law_between" = some (some (.ref fBT)))
    (lBT : K.lookup fBT = some ⟨ocBT, odBT, .func (PySem.W.fnOf "_law_between" "_law_between" (defArgs sBT) (defBody sBT) (defScope sBT) .none kVBT dcBT pmBT anBT cdBT ctBT), slBT⟩)
    (cBT1 : PySem.W.codeIn K cdBT "_law_between" = true) (kBT1 : PySem.W.keepIn K (.ref fBT) = true)
    (aCA : PySem.W.nsIn K mainGlobals "_law_causes" = some (some (.ref fCA)))
    (lCA : K.lookup fCA = some ⟨ocCA, odCA, .func (PySem.W.fnOf "_law_causes" "_law_causes" (defArgs sCA) (defBody sCA) (defScope sCA) .none kVCA dcCA pmCA anCA cdCA ctCA), slCA⟩)
    (cCA1 : PySem.W.codeIn K cdCA "_law_causes" = true) (kCA1 : PySem.W.keepIn K (.ref fCA) = true)
    (aPR : PySem.W.nsIn K mainGlobals "_law_parts" = some (some (.ref fPR)))
    (lPR : K.lookup fPR = some ⟨ocPR, odPR, .func (PySem.W.fnOf "_law_parts" "_law_parts" (defArgs sPR) (defBody sPR) (defScope sPR) .none kVPR dcPR pmPR anPR cdPR ctPR), slPR⟩)
    (cPR1 : PySem.W.codeIn K cdPR "_law_parts" = true) (kPR1 : PySem.W.keepIn K (.ref fPR) = true)
    (aCS : PySem.W.nsIn K mainGlobals "_law_case" = some (some (.ref fCS)))
    (lCS : K.lookup fCS = some ⟨ocCS, odCS, .func (PySem.W.fnOf "_law_case" "_law_case" (defArgs sCS) (defBody sCS) (defScope sCS) .none kVCS dcCS pmCS anCS cdCS ctCS), slCS⟩)
    (cCS1 : PySem.W.codeIn K cdCS "_law_case" = true) (kCS1 : PySem.W.keepIn K (.ref fCS) = true)
    (aBD : PySem.W.nsIn K mainGlobals "_law_bad" = some (some (.ref fBD)))
    (lBD : K.lookup fBD = some ⟨ocBD, odBD, .func (PySem.W.fnOf "_law_bad" "_law_bad" (defArgs sBD) (defBody sBD) (defScope sBD) .none kVBD dcBD pmBD anBD cdBD ctBD), slBD⟩)
    (cBD1 : PySem.W.codeIn K cdBD "_law_bad" = true) (kBD1 : PySem.W.keepIn K (.ref fBD) = true)
    (aLF : PySem.W.nsIn K mainGlobals "_law_fewest" = some (some (.ref fLF)))
    (lLF : K.lookup fLF = some ⟨ocLF, odLF, .func (PySem.W.fnOf "_law_fewest" "_law_fewest" (defArgs sLF) (defBody sLF) (defScope sLF) .none kVLF dcLF pmLF anLF cdLF ctLF), slLF⟩)
    (cLF1 : PySem.W.codeIn K cdLF "_law_fewest" = true) (kLF1 : PySem.W.keepIn K (.ref fLF) = true)
    (aLP : PySem.W.nsIn K mainGlobals "_law_plan" = some (some (.ref fLP)))
    (lLP : K.lookup fLP = some ⟨ocLP, odLP, .func (PySem.W.fnOf "_law_plan" "_law_plan" (defArgs sLP) (defBody sLP) (defScope sLP) .none kVLP dcLP pmLP anLP cdLP ctLP), slLP⟩)
    (cLP1 : PySem.W.codeIn K cdLP "_law_plan" = true) (kLP1 : PySem.W.keepIn K (.ref fLP) = true)
    (aPL : PySem.W.nsIn K mainGlobals "plan" = some (some (.ref fPL)))
    (lPL : K.lookup fPL = some ⟨ocPL, odPL, .func (PySem.W.fnOf "plan" "plan" (defArgs sPL) (defBody sPL) (defScope sPL) .none kVPL dcPL pmPL anPL cdPL ctPL), slPL⟩)
    (cPL1 : PySem.W.codeIn K cdPL "plan" = true) (kPL1 : PySem.W.keepIn K (.ref fPL) = true)
    (aPG : PySem.W.nsIn K mainGlobals "plan_right" = some (some (.ref fPG)))
    (lPG : K.lookup fPG = some ⟨ocPG, odPG, .func (PySem.W.fnOf "plan_right" "plan_right" (defArgs sPG) (defBody sPG) (defScope sPG) .none kVPG dcPG pmPG anPG cdPG ctPG), slPG⟩)
    (cPG1 : PySem.W.codeIn K cdPG "plan_right" = true) (kPG1 : PySem.W.keepIn K (.ref fPG) = true)
    (aDE : PySem.W.nsIn K mainGlobals "depth" = some (some (.ref fDE)))
    (lDE : K.lookup fDE = some ⟨ocDE, odDE, .func (PySem.W.fnOf "depth" "depth" (defArgs sDE) (defBody sDE) (defScope sDE) .none kVDE dcDE pmDE anDE cdDE ctDE), slDE⟩)
    (cDE1 : PySem.W.codeIn K cdDE "depth" = true) (kDE1 : PySem.W.keepIn K (.ref fDE) = true)
    (aLS : PySem.W.nsIn K mainGlobals "_law_searched" = some (some (.ref fLS)))
    (lLS : K.lookup fLS = some ⟨ocLS, odLS, .func (PySem.W.fnOf "_law_searched" "_law_searched" (defArgs sLS) (defBody sLS) (defScope sLS) .none kVLS dcLS pmLS anLS cdLS ctLS), slLS⟩)
    (cLS1 : PySem.W.codeIn K cdLS "_law_searched" = true) (kLS1 : PySem.W.keepIn K (.ref fLS) = true)
    (aLT : PySem.W.nsIn K mainGlobals "_law_turned" = some (some (.ref fLT)))
    (lLT : K.lookup fLT = some ⟨ocLT, odLT, .func (PySem.W.fnOf "_law_turned" "_law_turned" (defArgs sLT) (defBody sLT) (defScope sLT) .none kVLT dcLT pmLT anLT cdLT ctLT), slLT⟩)
    (cLT1 : PySem.W.codeIn K cdLT "_law_turned" = true) (kLT1 : PySem.W.keepIn K (.ref fLT) = true)
    (aLR : PySem.W.nsIn K mainGlobals "_law_plan_right" = some (some (.ref fLR)))
    (lLR : K.lookup fLR = some ⟨ocLR, odLR, .func (PySem.W.fnOf "_law_plan_right" "_law_plan_right" (defArgs sLR) (defBody sLR) (defScope sLR) .none kVLR dcLR pmLR anLR cdLR ctLR), slLR⟩)
    (cLR1 : PySem.W.codeIn K cdLR "_law_plan_right" = true) (kLR1 : PySem.W.keepIn K (.ref fLR) = true)
    (aLD : PySem.W.nsIn K mainGlobals "_law_depth" = some (some (.ref fLD)))
    (lLD : K.lookup fLD = some ⟨ocLD, odLD, .func (PySem.W.fnOf "_law_depth" "_law_depth" (defArgs sLD) (defBody sLD) (defScope sLD) .none kVLD dcLD pmLD anLD cdLD ctLD), slLD⟩)
    (cLD1 : PySem.W.codeIn K cdLD "_law_depth" = true) (kLD1 : PySem.W.keepIn K (.ref fLD) = true)
    (aLAW : PySem.W.nsIn K mainGlobals "law" = some (some (.ref fLAW)))
    (lLAW : K.lookup fLAW = some ⟨ocLAW, odLAW, .func (PySem.W.fnOf "law" "law" (defArgs sLAW) (defBody sLAW) (defScope sLAW) .none kVLAW dcLAW pmLAW anLAW cdLAW ctLAW), slLAW⟩)
    (cLAW1 : PySem.W.codeIn K cdLAW "law" = true) (kLAW1 : PySem.W.keepIn K (.ref fLAW) = true)
    (tIBc : K.lookup cIB = some ⟨eIB, ddIB, .fields vsIB, ssIB⟩) (tIBv : vsIB[11]? = some (.ref T1)) (tIBh : PySem.W.codeHdIn K cIB T1 = true) (tIBn : K.lookup T1 = none)
    (z_len : PySem.W.nsIn K mainGlobals "len" = some none)
    (z_range : PySem.W.nsIn K mainGlobals "range" = some none)
    (z_max : PySem.W.nsIn K mainGlobals "max" = some none)
    (z_int : PySem.W.nsIn K mainGlobals "int" = some none)
    (z_abs : PySem.W.nsIn K mainGlobals "abs" = some none)
    (z_list : PySem.W.nsIn K mainGlobals "list" = some none)
    (z_isinstance : PySem.W.nsIn K mainGlobals "isinstance" = some none)
    (z_bool : PySem.W.nsIn K mainGlobals "bool" = some none)
    (z_sorted : PySem.W.nsIn K mainGlobals "sorted" = some none)
    (z_all : PySem.W.nsIn K mainGlobals "all" = some none)
    (z_repr : PySem.W.nsIn K mainGlobals "repr" = some none)
    (z_sum : PySem.W.nsIn K mainGlobals "sum" = some none)
    (z_enumerate : PySem.W.nsIn K mainGlobals "enumerate" = some none)
    (z_min : PySem.W.nsIn K mainGlobals "min" = some none)
    (z_set : PySem.W.nsIn K mainGlobals "set" = some none)
    : GX.LawC l w K 63 "script" mg fa h := by
  have e := hfa.symm.trans (PySem.W.mg_of X G aLAW)
  cases e
  have bIB : Binds K (PySem.W.fnOf "is_bad" "is_bad" (defArgs sIB) (defBody sIB) (defScope sIB) .none kVIB dcIB pmIB anIB (.ref cIB) ctIB) ["part", "cause"] [] := .all fun us hl => match us, hl with | [_, _], _ => rfl
  have gIB := PySem.W.mg_of X G aIB
  have FST := fun_mk (st := sState) lST cST1 kST1
  have bST := FST.binds (ps := ["script"]) fun _ _ _ _ _ _ us hl => match us, hl with | [_], _ => rfl
  have gST := PySem.W.mg_of X G aST
  have FD := fun_mk (st := sDraw) lD cD1 kD1
  have bD := FD.binds (ps := ["state", "many"]) fun _ _ _ _ _ _ us hl => match us, hl with | [_, _], _ => rfl
  have gD := PySem.W.mg_of X G aD
  have FP := fun_mk (st := sPick) lP cP1 kP1
  have bP := FP.binds (ps := ["state", "row"]) fun _ _ _ _ _ _ us hl => match us, hl with | [_, _], _ => rfl
  have gP := PySem.W.mg_of X G aP
  have FSM := fun_mk (st := sSM) lSM cSM1 kSM1
  have bSM := FSM.binds (ps := ["state", "row", "most"]) fun _ _ _ _ _ _ us hl => match us, hl with | [_, _, _], _ => rfl
  have gSM := PySem.W.mg_of X G aSM
  have FPA := fun_mk (st := sPA) lPA cPA1 kPA1
  have bPA := FPA.binds (ps := ["state"]) fun _ _ _ _ _ _ us hl => match us, hl with | [_], _ => rfl
  have gPA := PySem.W.mg_of X G aPA
  have FCH := fun_mk (st := sCH) lCH cCH1 kCH1
  have bCH := FCH.binds (ps := ["state", "known", "ids"]) fun _ _ _ _ _ _ us hl => match us, hl with | [_, _, _], _ => rfl
  have gCH := PySem.W.mg_of X G aCH
  have FPW := fun_mk (st := sPW) lPW cPW1 kPW1
  have bPW := FPW.binds (ps := ["state", "most"]) fun _ _ _ _ _ _ us hl => match us, hl with | [_, _], _ => rfl
  have gPW := PySem.W.mg_of X G aPW
  have FNE := fun_mk (st := sNE) lNE cNE1 kNE1
  have bNE := FNE.binds (ps := ["patch"]) fun _ _ _ _ _ _ us hl => match us, hl with | [_], _ => rfl
  have gNE := PySem.W.mg_of X G aNE
  have FAB := fun_mk (st := sAB) lAB cAB1 kAB1
  have bAB := FAB.binds (ps := ["row"]) fun _ _ _ _ _ _ us hl => match us, hl with | [_], _ => rfl
  have gAB := PySem.W.mg_of X G aAB
  have FBT := fun_mk (st := sBT) lBT cBT1 kBT1
  have bBT := FBT.binds (ps := ["state", "row", "most"]) fun _ _ _ _ _ _ us hl => match us, hl with | [_, _, _], _ => rfl
  have gBT := PySem.W.mg_of X G aBT
  have FCA := fun_mk (st := sCA) lCA cCA1 kCA1
  have bCA := FCA.binds (ps := ["row", "fresh"]) fun _ _ _ _ _ _ us hl => match us, hl with | [_, _], _ => rfl
  have gCA := PySem.W.mg_of X G aCA
  have FPR := fun_mk (st := sPR) lPR cPR1 kPR1
  have bPR := FPR.binds (ps := ["row", "good", "fresh"]) fun _ _ _ _ _ _ us hl => match us, hl with | [_, _, _], _ => rfl
  have gPR := PySem.W.mg_of X G aPR
  have FCS := fun_mk (st := sCS) lCS cCS1 kCS1
  have bCS := FCS.binds (ps := ["state"]) fun _ _ _ _ _ _ us hl => match us, hl with | [_], _ => rfl
  have gCS := PySem.W.mg_of X G aCS
  have FBD := fun_mk (st := sBD) lBD cBD1 kBD1
  have bBD := FBD.binds (ps := ["part", "cause"]) fun _ _ _ _ _ _ us hl => match us, hl with | [_, _], _ => rfl
  have gBD := PySem.W.mg_of X G aBD
  have FLF := fun_mk (st := sLF) lLF cLF1 kLF1
  have bLF := FLF.binds (ps := ["tests", "group", "known"]) fun _ _ _ _ _ _ us hl => match us, hl with | [_, _, _], _ => rfl
  have gLF := PySem.W.mg_of X G aLF
  have FLP := fun_mk (st := sLP) lLP cLP1 kLP1
  have bLP := FLP.binds (ps := ["tests", "group", "known"]) fun _ _ _ _ _ _ us hl => match us, hl with | [_, _, _], _ => rfl
  have gLP := PySem.W.mg_of X G aLP
  have FPL := fun_mk (st := sPL) lPL cPL1 kPL1
  have bPL := FPL.binds (ps := ["causes", "tests"]) fun _ _ _ _ _ _ us hl => match us, hl with | [_, _], _ => rfl
  have gPL := PySem.W.mg_of X G aPL
  have FPG := fun_mk (st := sPG) lPG cPG1 kPG1
  have bPG := FPG.binds (ps := ["causes", "tests", "tree"]) fun _ _ _ _ _ _ us hl => match us, hl with | [_, _, _], _ => rfl
  have gPG := PySem.W.mg_of X G aPG
  have FDE := fun_mk (st := sDE) lDE cDE1 kDE1
  have bDE := FDE.binds (ps := ["tree"]) fun _ _ _ _ _ _ us hl => match us, hl with | [_], _ => rfl
  have gDE := PySem.W.mg_of X G aDE
  have FLS := fun_mk (st := sLS) lLS cLS1 kLS1
  have bLS := FLS.binds (ps := ["causes", "tests", "cause", "tree"]) fun _ _ _ _ _ _ us hl => match us, hl with | [_, _, _, _], _ => rfl
  have gLS := PySem.W.mg_of X G aLS
  have FLT := fun_mk (st := sLT) lLT cLT1 kLT1
  have bLT := FLT.binds (ps := ["state", "tests", "tree"]) fun _ _ _ _ _ _ us hl => match us, hl with | [_, _, _], _ => rfl
  have gLT := PySem.W.mg_of X G aLT
  have FLR := fun_mk (st := sLR) lLR cLR1 kLR1
  have bLR := FLR.binds (ps := ["tests", "group", "tree"]) fun _ _ _ _ _ _ us hl => match us, hl with | [_, _, _], _ => rfl
  have gLR := PySem.W.mg_of X G aLR
  have FLD := fun_mk (st := sLD) lLD cLD1 kLD1
  have bLD := FLD.binds (ps := ["tree"]) fun _ _ _ _ _ _ us hl => match us, hl with | [_], _ => rfl
  have gLD := PySem.W.mg_of X G aLD
  have gLAW := PySem.W.mg_of X G aLAW
  have m_len := PySem.W.mg_none_of X G z_len
  have m_range := PySem.W.mg_none_of X G z_range
  have m_max := PySem.W.mg_none_of X G z_max
  have m_int := PySem.W.mg_none_of X G z_int
  have m_abs := PySem.W.mg_none_of X G z_abs
  have m_list := PySem.W.mg_none_of X G z_list
  have m_isinstance := PySem.W.mg_none_of X G z_isinstance
  have m_bool := PySem.W.mg_none_of X G z_bool
  have m_sorted := PySem.W.mg_none_of X G z_sorted
  have m_all := PySem.W.mg_none_of X G z_all
  have m_repr := PySem.W.mg_none_of X G z_repr
  have m_sum := PySem.W.mg_none_of X G z_sum
  have m_enumerate := PySem.W.mg_none_of X G z_enumerate
  have m_min := PySem.W.mg_none_of X G z_min
  have m_set := PySem.W.mg_none_of X G z_set
  have FFI := fun_mk (st := sFI) lFI cFI1 kFI1
  have bFI := FFI.binds (ps := ["self", "causes", "tests"]) fun _ _ _ _ _ _ us hl => match us, hl with | [_, _, _], _ => rfl
  have MFI : Meth K CF "__init__" fFI := ⟨aFI, iFI, kFI1⟩
  have FBO := fun_mk (st := sBO) lBO cBO1 kBO1
  have bBO := FBO.binds (ps := ["self", "words"]) fun _ _ _ _ _ _ us hl => match us, hl with | [_, _], _ => rfl
  have MBO : Meth K CF "bits_of" fBO := ⟨aBO, iBO, kBO1⟩
  have FNMD := fun_mk (st := sNM) lNMD cNMD1 kNMD1
  have bNMD := FNMD.binds (ps := ["self", "bits"]) fun _ _ _ _ _ _ us hl => match us, hl with | [_, _], _ => rfl
  have MNMD : Meth K CF "named" fNMD := ⟨aNMD, iNMD, kNMD1⟩
  have FSD := fun_mk (st := sSD) lSD cSD1 kSD1
  have bSD := FSD.binds (ps := ["self", "bits"]) fun _ _ _ _ _ _ us hl => match us, hl with | [_, _], _ => rfl
  have MSD : Meth K CF "sides" fSD := ⟨aSD, iSD, kSD1⟩
  have FFE := fun_mk (st := sFE) lFE cFE1 kFE1
  have bFE := FFE.binds (ps := ["self", "bits"]) fun _ _ _ _ _ _ us hl => match us, hl with | [_, _], _ => rfl
  have MFE : Meth K CF "fewest" fFE := ⟨aFE, iFE, kFE1⟩
  have FFT := fun_mk (st := sFT) lFT cFT1 kFT1
  have bFT := FFT.binds (ps := ["self", "bits"]) fun _ _ _ _ _ _ us hl => match us, hl with | [_, _], _ => rfl
  have MFT : Meth K CF "first_test" fFT := ⟨aFT, iFT, kFT1⟩
  have FBE := fun_mk (st := sBE) lBE cBE1 kBE1
  have bBE := FBE.binds (ps := ["self", "bits"]) fun _ _ _ _ _ _ us hl => match us, hl with | [_, _], _ => rfl
  have MBE : Meth K CF "best" fBE := ⟨aBE, iBE, kBE1⟩
  have TF : TxtF K mg CF := ⟨⟨pgCF, hdCF, poCF, saCF⟩, no_causes, no_all_bits, no_bad_bits, no_kinds, no_least, PySem.W.mg_of X G nCF⟩
  have MkF : Mk K CF fFI := ⟨mkCF, aFI, iFI, kpCF⟩
  have FSI := fun_mk (st := sSI) lSI cSI1 kSI1
  have bSI := FSI.binds (ps := ["self", "causes", "tests"]) fun _ _ _ _ _ _ us hl => match us, hl with | [_, _, _], _ => rfl
  have MSI : Meth K CE "__init__" fSI := ⟨aSI, iSI, kSI1⟩
  have FNP := fun_mk (st := sNP) lNP cNP1 kNP1
  have bNP := FNP.binds (ps := ["self"]) fun _ _ _ _ _ _ us hl => match us, hl with | [_], _ => rfl
  have MNP : Meth K CE "next_part" fNP := ⟨aNP, iNP, kNP1⟩
  have FAN := fun_mk (st := sAN) lAN cAN1 kAN1
  have bAN := FAN.binds (ps := ["self", "bad"]) fun _ _ _ _ _ _ us hl => match us, hl with | [_, _], _ => rfl
  have MAN : Meth K CE "answer" fAN := ⟨aAN, iAN, kAN1⟩
  have FFO := fun_mk (st := sFO) lFO cFO1 kFO1
  have bFO := FFO.binds (ps := ["self"]) fun _ _ _ _ _ _ us hl => match us, hl with | [_], _ => rfl
  have MFO : Meth K CE "found" fFO := ⟨aFO, iFO, kFO1⟩
  have TE : TxtE K mg CE := ⟨⟨pgCE, hdCE, poCE, saCE⟩, no_tests, no_rest, no_made, PySem.W.mg_of X G nCE⟩
  have MkS : Mk K CE fSI := ⟨mkCE, aSI, iSI, kpCE⟩
  have emIB : h.get? T1 = some { cls := .none, data := .fields #[] } := tabs "is_bad" fIB hrecT1 gIB cIB T1 _ _ _ _ _ _ lIB rfl rfl tIBc tIBv
  have all_ : ∀ {P : Addr × Addr → Prop}, P (cIB, T1) →  (∀ p ∈ ([(cIB, T1)] : List (Addr × Addr)), P p) := fun xIB p hp => by
    simp only [List.mem_cons, List.not_mem_nil, or_false] at hp
    rcases hp with rfl
    · exact xIB
  refine ⟨PySem.W.fnOf "law" "law" (defArgs sLAW) (defBody sLAW) (defScope sLAW) .none kVLAW dcLAW pmLAW anLAW cdLAW ctLAW, [(cIB, T1)], spLaw K T1, all_ emIB, all_ tIBn, all_ (PySem.W.codeHd_of_K X tIBh), fun s v => .of_eq rfl, ?_, ?_⟩
  · intro H a ns hl hbits hH hS
    have qIB := hH (cIB, T1) (by simp)
    exact ⟨a, ns, rfl, hS, hl, ⟨#[], qIB, trivial⟩, fun _ => rfl⟩
  · intro base _ _ hT
    have TBIB := hT (cIB, T1) (by simp)
    have GIB := ok_IB (P := l.prog) (w := w) (mg := mg) (base := base) lIB cIB1 TBIB m_all
    have GST := ok_state (P := l.prog) (w := w) (mg := mg) (base := base) FST m_abs m_int
    have GD := ok_draw (P := l.prog) (w := w) (mg := mg) (base := base) FD m_len m_int
    have GP := ok_pick (P := l.prog) (w := w) (mg := mg) (base := base) FP GD bD gD kD1 m_len
    have GSM := ok_SM (P := l.prog) (w := w) (mg := mg) (base := base) FSM GD bD gD kD1 GP bP gP kP1 m_len m_range m_sorted
    have GPA := ok_PA (P := l.prog) (w := w) (mg := mg) (base := base) FPA GP bP gP kP1
    have GCH := ok_CH (P := l.prog) (w := w) (mg := mg) (base := base) FCH GD bD gD kD1 GP bP gP kP1 GSM bSM gSM kSM1 GPA bPA gPA kPA1 m_len m_range m_sorted
    have GPW := ok_PW (P := l.prog) (w := w) (mg := mg) (base := base) FPW GD bD gD kD1 GP bP gP kP1 GCH bCH gCH kCH1 m_len m_range m_sorted
    have GNE := ok_NE (P := l.prog) (w := w) (mg := mg) (base := base) FNE m_list m_isinstance m_sorted
    have GAB := ok_AB (P := l.prog) (w := w) (mg := mg) (base := base) FAB GNE bNE gNE kNE1
    have GBT := ok_BT (P := l.prog) (w := w) (mg := mg) (base := base) FBT GAB bAB gAB kAB1 GD bD gD kD1 m_len m_sorted
    have GCA := ok_CA (P := l.prog) (w := w) (mg := mg) (base := base) FCA GAB bAB gAB kAB1 m_len m_range
    have GPR := ok_PR (P := l.prog) (w := w) (mg := mg) (base := base) FPR GAB bAB gAB kAB1 m_len m_range m_sorted
    have GCS := ok_CS (P := l.prog) (w := w) (mg := mg) (base := base) FCS GPW bPW gPW kPW1 GBT bBT gBT kBT1 GCA bCA gCA kCA1 GPR bPR gPR kPR1 GD bD gD kD1
    have GBD := ok_BD (P := l.prog) (w := w) (mg := mg) (base := base) FBD
    have GLF := ok_LFs (P := l.prog) (w := w) (mg := mg) (base := base) FLF GBD bBD gBD kBD1 bLF gLF kLF1 m_repr m_len m_range m_max 11
    have GLP := ok_LPs (P := l.prog) (w := w) (mg := mg) (base := base) FLP GBD bBD gBD kBD1 GLF bLF gLF kLF1 bLP gLP kLP1 11
    have GBO := ok_BO (P := l.prog) (w := w) (mg := mg) (base := base) FBO m_sum m_enumerate
    have GNMD := ok_NM (P := l.prog) (w := w) (mg := mg) (base := base) FNMD TF m_list m_enumerate
    have GSD := ok_SD (P := l.prog) (w := w) (mg := mg) (base := base) FSD TF m_list
    have GFE := ok_FEs (P := l.prog) (w := w) (mg := mg) (base := base) FFE TF MSD GSD bSD MFE bFE m_min m_max 11
    have GFT := ok_FT (P := l.prog) (w := w) (mg := mg) (base := base) FFT TF MFE GFE bFE m_enumerate m_max
    have GBE := ok_BEs (P := l.prog) (w := w) (mg := mg) (base := base) FBE TF MFT GFT bFT MNMD GNMD bNMD MBE bBE 11 (by decide)
    have GFI := ok_FI (P := l.prog) (w := w) (mg := mg) (base := base) FFI TF MBO GBO bBO GIB bIB gIB kIB1 m_list m_len m_sorted m_set
    have GPL := ok_PL (P := l.prog) (w := w) (mg := mg) (base := base) FPL TF MkF GFI bFI MBE GBE bBE
    have GPG := ok_PG (P := l.prog) (w := w) (mg := mg) (base := base) FPG TF MkF GFI bFI MNMD GNMD bNMD MSD GSD bSD m_len
    have GDE := ok_DE (P := l.prog) (w := w) (mg := mg) (base := base) FDE m_max
    have GSI := ok_SI (P := l.prog) (w := w) (mg := mg) (base := base) FSI TE GPL bPL gPL kPL1 m_list
    have GNP := ok_NP (P := l.prog) (w := w) (mg := mg) (base := base) FNP TE m_list
    have GFO := ok_FO (P := l.prog) (w := w) (mg := mg) (base := base) FFO TE m_list
    have GAN := ok_AN (P := l.prog) (w := w) (mg := mg) (base := base) FAN TE
    have GLS := ok_LS (P := l.prog) (w := w) (mg := mg) (base := base) FLS TE GBD bBD gBD kBD1 MkS GSI bSI MNP GNP bNP MFO GFO bFO MAN GAN bAN m_len m_range
    have GLT := ok_LTs (P := l.prog) (w := w) (mg := mg) (base := base) FLT GD bD gD kD1 bLT gLT kLT1 m_len 20
    have GLR := ok_LRs (P := l.prog) (w := w) (mg := mg) (base := base) FLR GBD bBD gBD kBD1 bLR gLR kLR1 m_len 20
    have GLD := ok_LDs (P := l.prog) (w := w) (mg := mg) (base := base) FLD bLD gLD kLD1 m_max 20
    exact ok_LAW lLAW cLAW1 GST bST gST kST1 GCS bCS gCS kCS1 GLF bLF gLF kLF1 GLP bLP gLP kLP1 GPL bPL gPL kPL1 GDE bDE gDE kDE1 GPG bPG gPG kPG1 GLS bLS gLS kLS1 GD bD gD kD1 GLT bLT gLT kLT1 GLR bLR gLR kLR1 GLD bLD gLD kLD1 m_range m_repr m_isinstance m_bool
end K20
open PySem PySem.W PyProof.Rows
set_option maxRecDepth 100000 in
set_option maxHeartbeats 0 in
theorem PySem.Challenge.cw_quiltward_k95_whole_plans_with_the_fewes_holds : PySem.Challenge.rw_quiltward_k95_whole_plans_with_the_fewes.Holds := by
  w_on; o_law; k_head; (case hw => w_witness2)
  k_fill
  refine GX.walk_tabsC (l := PySem.Challenge.rw_quiltward_k95_whole_plans_with_the_fewes) (n := 63) (x := "script") rfl (by decide) rfl (fun w h Y => PySem.W.kIn_of Y) ?F
  case F =>
    intro w mg fa h Y KX G hmg tabs
    refine' K20.all_mk KX G hmg tabs ?hrecT1 ?nCF ?pgCF ?hdCF ?poCF ?saCF ?mkCF ?kpCF ?no_causes ?no_all_bits ?no_bad_bits ?no_kinds ?no_least ?aFI ?iFI ?lFI ?cFI1 ?kFI1 ?aBO ?iBO ?lBO ?cBO1 ?kBO1 ?aNMD ?iNMD ?lNMD ?cNMD1 ?kNMD1 ?aSD ?iSD ?lSD ?cSD1 ?kSD1 ?aFE ?iFE ?lFE ?cFE1 ?kFE1 ?aFT ?iFT ?lFT ?cFT1 ?kFT1 ?aBE ?iBE ?lBE ?cBE1 ?kBE1 ?nCE ?pgCE ?hdCE ?poCE ?saCE ?mkCE ?kpCE ?no_tests ?no_rest ?no_made ?aSI ?iSI ?lSI ?cSI1 ?kSI1 ?aNP ?iNP ?lNP ?cNP1 ?kNP1 ?aAN ?iAN ?lAN ?cAN1 ?kAN1 ?aFO ?iFO ?lFO ?cFO1 ?kFO1 ?aIB ?lIB ?cIB1 ?kIB1 ?aST ?lST ?cST1 ?kST1 ?aD ?lD ?cD1 ?kD1 ?aP ?lP ?cP1 ?kP1 ?aSM ?lSM ?cSM1 ?kSM1 ?aPA ?lPA ?cPA1 ?kPA1 ?aCH ?lCH ?cCH1 ?kCH1 ?aPW ?lPW ?cPW1 ?kPW1 ?aNE ?lNE ?cNE1 ?kNE1 ?aAB ?lAB ?cAB1 ?kAB1 ?aBT ?lBT ?cBT1 ?kBT1 ?aCA ?lCA ?cCA1 ?kCA1 ?aPR ?lPR ?cPR1 ?kPR1 ?aCS ?lCS ?cCS1 ?kCS1 ?aBD ?lBD ?cBD1 ?kBD1 ?aLF ?lLF ?cLF1 ?kLF1 ?aLP ?lLP ?cLP1 ?kLP1 ?aPL ?lPL ?cPL1 ?kPL1 ?aPG ?lPG ?cPG1 ?kPG1 ?aDE ?lDE ?cDE1 ?kDE1 ?aLS ?lLS ?cLS1 ?kLS1 ?aLT ?lLT ?cLT1 ?kLT1 ?aLR ?lLR ?cLR1 ?kLR1 ?aLD ?lLD ?cLD1 ?kLD1 ?aLAW ?lLAW ?cLAW1 ?kLAW1 ?tIBc ?tIBv ?tIBh ?tIBn ?z_len ?z_range ?z_max ?z_int ?z_abs ?z_list ?z_isinstance ?z_bool ?z_sorted ?z_all ?z_repr ?z_sum ?z_enumerate ?z_min ?z_set
    (case hrecT1 => decide +kernel)
    (case nCF => k_is)
    (case pgCF => k_is)
    (case hdCF => k_is)
    (case poCF => k_is)
    (case saCF => k_is)
    (case mkCF => k_is)
    (case kpCF => k_is)
    (case no_causes => k_is)
    (case no_all_bits => k_is)
    (case no_bad_bits => k_is)
    (case no_kinds => k_is)
    (case no_least => k_is)
    (case aFI => k_is)
    (case iFI => k_is)
    (case lFI => k_is)
    (case cFI1 => k_is)
    (case kFI1 => k_is)
    (case aBO => k_is)
    (case iBO => k_is)
    (case lBO => k_is)
    (case cBO1 => k_is)
    (case kBO1 => k_is)
    (case aNMD => k_is)
    (case iNMD => k_is)
    (case lNMD => k_is)
    (case cNMD1 => k_is)
    (case kNMD1 => k_is)
    (case aSD => k_is)
    (case iSD => k_is)
    (case lSD => k_is)
    (case cSD1 => k_is)
    (case kSD1 => k_is)
    (case aFE => k_is)
    (case iFE => k_is)
    (case lFE => k_is)
    (case cFE1 => k_is)
    (case kFE1 => k_is)
    (case aFT => k_is)
    (case iFT => k_is)
    (case lFT => k_is)
    (case cFT1 => k_is)
    (case kFT1 => k_is)
    (case aBE => k_is)
    (case iBE => k_is)
    (case lBE => k_is)
    (case cBE1 => k_is)
    (case kBE1 => k_is)
    (case nCE => k_is)
    (case pgCE => k_is)
    (case hdCE => k_is)
    (case poCE => k_is)
    (case saCE => k_is)
    (case mkCE => k_is)
    (case kpCE => k_is)
    (case no_tests => k_is)
    (case no_rest => k_is)
    (case no_made => k_is)
    (case aSI => k_is)
    (case iSI => k_is)
    (case lSI => k_is)
    (case cSI1 => k_is)
    (case kSI1 => k_is)
    (case aNP => k_is)
    (case iNP => k_is)
    (case lNP => k_is)
    (case cNP1 => k_is)
    (case kNP1 => k_is)
    (case aAN => k_is)
    (case iAN => k_is)
    (case lAN => k_is)
    (case cAN1 => k_is)
    (case kAN1 => k_is)
    (case aFO => k_is)
    (case iFO => k_is)
    (case lFO => k_is)
    (case cFO1 => k_is)
    (case kFO1 => k_is)
    (case aIB => k_is)
    (case lIB => k_is)
    (case cIB1 => k_is)
    (case kIB1 => k_is)
    (case aST => k_is)
    (case lST => k_is)
    (case cST1 => k_is)
    (case kST1 => k_is)
    (case aD => k_is)
    (case lD => k_is)
    (case cD1 => k_is)
    (case kD1 => k_is)
    (case aP => k_is)
    (case lP => k_is)
    (case cP1 => k_is)
    (case kP1 => k_is)
    (case aSM => k_is)
    (case lSM => k_is)
    (case cSM1 => k_is)
    (case kSM1 => k_is)
    (case aPA => k_is)
    (case lPA => k_is)
    (case cPA1 => k_is)
    (case kPA1 => k_is)
    (case aCH => k_is)
    (case lCH => k_is)
    (case cCH1 => k_is)
    (case kCH1 => k_is)
    (case aPW => k_is)
    (case lPW => k_is)
    (case cPW1 => k_is)
    (case kPW1 => k_is)
    (case aNE => k_is)
    (case lNE => k_is)
    (case cNE1 => k_is)
    (case kNE1 => k_is)
    (case aAB => k_is)
    (case lAB => k_is)
    (case cAB1 => k_is)
    (case kAB1 => k_is)
    (case aBT => k_is)
    (case lBT => k_is)
    (case cBT1 => k_is)
    (case kBT1 => k_is)
    (case aCA => k_is)
    (case lCA => k_is)
    (case cCA1 => k_is)
    (case kCA1 => k_is)
    (case aPR => k_is)
    (case lPR => k_is)
    (case cPR1 => k_is)
    (case kPR1 => k_is)
    (case aCS => k_is)
    (case lCS => k_is)
    (case cCS1 => k_is)
    (case kCS1 => k_is)
    (case aBD => k_is)
    (case lBD => k_is)
    (case cBD1 => k_is)
    (case kBD1 => k_is)
    (case aLF => k_is)
    (case lLF => k_is)
    (case cLF1 => k_is)
    (case kLF1 => k_is)
    (case aLP => k_is)
    (case lLP => k_is)
    (case cLP1 => k_is)
    (case kLP1 => k_is)
    (case aPL => k_is)
    (case lPL => k_is)
    (case cPL1 => k_is)
    (case kPL1 => k_is)
    (case aPG => k_is)
    (case lPG => k_is)
    (case cPG1 => k_is)
    (case kPG1 => k_is)
    (case aDE => k_is)
    (case lDE => k_is)
    (case cDE1 => k_is)
    (case kDE1 => k_is)
    (case aLS => k_is)
    (case lLS => k_is)
    (case cLS1 => k_is)
    (case kLS1 => k_is)
    (case aLT => k_is)
    (case lLT => k_is)
    (case cLT1 => k_is)
    (case kLT1 => k_is)
    (case aLR => k_is)
    (case lLR => k_is)
    (case cLR1 => k_is)
    (case kLR1 => k_is)
    (case aLD => k_is)
    (case lLD => k_is)
    (case cLD1 => k_is)
    (case kLD1 => k_is)
    (case aLAW => k_is)
    (case lLAW => k_is)
    (case cLAW1 => k_is)
    (case kLAW1 => k_is)
    (case tIBc => k_is)
    (case tIBv => rfl)
    (case tIBh => first | rfl | kernel_rfl)
    (case tIBn => first | rfl | kernel_rfl)
    (case z_len => k_is)
    (case z_range => k_is)
    (case z_max => k_is)
    (case z_int => k_is)
    (case z_abs => k_is)
    (case z_list => k_is)
    (case z_isinstance => k_is)
    (case z_bool => k_is)
    (case z_sorted => k_is)
    (case z_all => k_is)
    (case z_repr => k_is)
    (case z_sum => k_is)
    (case z_enumerate => k_is)
    (case z_min => k_is)
    (case z_set => k_is)
