import PyProof.Rows.All
import Wide.All
import OpenK.AllK
import Wide.FinOn
import PySem.Challenge.RW_quiltward_k40_records_in_any_order
import HandS.ForSpec
import HandS.ForMost
import HandS.AnyAll
import HandS.EndTab
import HandS.StrMore
import HandS.FStr
import HandS.IsInst
import HandS.Wide
import HandS.RaiseMore
import HandS.Text
import HandS.Codes
import HandS.RevRange
import HandS.Style
import HandS.More
import HandS.TupLe
import HandS.TupMul
import KE.DataEq
import KE.Datum
import KE.GoesEnum
import PyProof.Draws
import PyProof.EnumMake
import PyProof.StrOps2
import PyProof.StrLawsChain
import PyProof.StrLawsTight
import HandS.Walk
import HandS.Comp
import PyProof.GenQ
import PyProof.ToksMono
import HandS.Dict
import HandS.DictTup
import HandS.DictComp
import HandS.TupLen
import PyProof.DictMoreH
import PyProof.DictTruth
import PyProof.ReprRoads
import HandS.EndOwn
import KE.KDictKeyed
import KE.KeyNested
import HandS.Iter
import KE.KDictCopyH
import KE.SortData
import PyProof.Transfer
import KE.KDictPairs
import KE.KDictOf
import HandS.DictEq
import HandS.ListEq
import HandS.Lambda
import HandS.SortKw
import KE.SortKeyHeap
import KE.KLam
import KE.KRevSl
import PyProof.EqAt
import PyProof.EqKinds
import PyProof.TupleCall
import Open.SpecLaws
import KE.OsGo
import HandS.ExcIs
import KE.KExcIs
import HandS.SetKeys
import HandS.Words
import HandS.Deep
set_option Elab.async false
set_option linter.all false
set_option maxRecDepth 100000
set_option maxHeartbeats 16000000
/-! rules of my own over the hand layer -/
namespace QR
open PySem PySem.Spec PyProof.Rows L2 GxR
section
variable {X : Cx} {pins : List (Addr × Obj)} {σ : L2.St} {H : Hp} {s : Shared}

/-! ### all(test for x in source), the test may read captured names -/
/-- what is walked: from the state s1, an iterator of n items, of which item i is one of Pw i; more: what else is looked at -/
def SrcOk (X : Cx) (P : Addr) (u : Value) (s1 : Shared) (n : Nat) (Pw : Nat → Value → Prop) : Prop :=
  ∃ more : List Addr, (∀ b ∈ more, b < s1.heap.objs.size ∧ b ≠ P) ∧
    ∀ Q : Value → Shared → Prop, (∀ (ob : Obj) (St : Nat → Heap → Prop),
        (∀ A' : Around, A'.handled = none → Walks X.prog X.w A' s1.heap.objs.size (s1.heap.objs.size :: more) [s1.heap.objs.size] n Pw St) → St 0 (s1.heap.push ob) →
          Q (.ref s1.heap.objs.size) { s1 with heap := s1.heap.push ob }) → wpAny (model X.prog X.w) X.A (pyIter u) Q X.xe s1
/-- the element is a test: tr i for the item i -/
def EltOk (X : Cx) (P : Addr) (scope : Scope) (x : Str) (elt : Expr) (s1 : Shared) (Pw : Nat → Value → Prop) (tr : Nat → Bool) : Prop :=
  ∀ (ce : Env) (A' : Around) (E' : Value → Shared → Prop) (i : Nat) (v : Value) (s2 : Shared) (m2 : Str → Option Value), A'.handled = none → ce.scope = scope → ce.cells = cloFrom X.env.cells scope.names [] →
    Pw i v → s2.heap.Ns ce.locals m2 → m2 x = some v → (∀ b o, b ≠ P → s1.heap.get? b = some o → s2.heap.get? b = some o) →
      wpAny (model X.prog X.w) A' (eval elt ce) (fun y s3 => y = .bool (tr i) ∧ Keeps s2 s3) E' s2

/-- made: the generator g is ready for its walk -/
def Made (X : Cx) (pins : List (Addr × Obj)) (σ : L2.St) (H1 : Hp) (P : Addr) (n : Nat) (tr : Nat → Bool) (g : Addr) (s5 : Shared) : Prop :=
  ∃ (fp wr : List Addr) (G : Array GenState → Array GenState → Prop) (F : Nat → Value → Prop) (St : Nat → Shared → Prop),
    WalksS X.prog X.w X.A.in1 g fp wr G n F St ∧ St 0 s5 ∧ TruthOf X.prog X.w X.A.in1 F tr ∧
      ∀ s', Moved wr G s5 s' → ∃ H2, Tabbed P H1 H2 ∧ Inv X pins σ H2 s'

theorem gen_make {c P : Addr} {elt iter : Expr} {x : Str} {px gpos : Pos} {scope : Scope} {k : Nat} {Q' : Value → Shared → Prop}
    (hr : Room k X.A) (TB : TabB X.base X.mg c P) (hcode : X.env.code = .ref c) (S : GenS X.env scope x) (hs : ∀ v, genFold iter X.env v = pure v)
    (h : wpAny (model X.prog X.w) X.A (eval iter X.env) (fun u s1 => ∃ (H1 : Hp) (n : Nat) (Pw : Nat → Value → Prop) (tr : Nat → Bool), Inv X pins σ H1 s1 ∧ TabG H1 P ∧ SrcOk X P u s1 n Pw ∧ EltOk X P scope x elt s1 Pw tr ∧
      ∀ g s5, Made X pins σ H1 P n tr g s5 → Q' (.ref g) s5) X.xe s) :
    wpAny (model X.prog X.w) X.A (eval (.GeneratorExp elt [⟨.Name x px, iter, [], 0⟩] scope gpos) X.env) Q' X.xe s := by
  have dp := hr.dp
  refine wpAny_GeneratorExp_walksQ hr.hd S.co (closure_ok S.free) S.cell S.dot S.loc S.kind (by omega) (thn h ?_) hs
  intro u s1 ⟨H1, n, Pw, tr, I1, ⟨ps, hP, hps⟩, ⟨more, hmore, hit⟩, hel, hQ⟩
  refine hit _ fun ob St W st0 => ?_
  -- the table, in the heap before and behind the iterator
  have tb0 : s1.heap.get? P = some { cls := .none, data := .fields ps } := I1.hok P _ hP
  have ltP : P < s1.heap.objs.size := Heap.lt_size tb0
  have tb1 := Heap.get?_push_of_some ob tb0
  have code1 : PySem.W.CodeHd (s1.heap.push ob) c P := TB.code.keeps fun b o e => Heap.get?_push_of_some _ (I1.bk b o e)
  have lim1 := I1.nolimit.push ob
  have lt1 : cStatics < s1.heap.objs.size := let ⟨_, z, _⟩ := I1.nolimit; z.lt
  have neP : cStatics ≠ P := by
    intro e
    obtain ⟨_, ⟨o', es, ep, ho, hd, _⟩, _⟩ := I1.nolimit
    rw [e, tb0] at ho
    cases ho
    cases hd
  have sz1 : (s1.heap.push ob).objs.size = s1.heap.objs.size + 1 := Heap.size_push ..
  have up3 : ∀ h3 : Heap, (s1.heap.push ob).objs.size ≤ h3.objs.size → s1.heap.objs.size < h3.objs.size := fun h3 l => by
    rw [sz1] at l
    exact l
  refine ⟨lim1, ?_⟩
  have rest : ∀ (code : Value) (h3 : Heap) (tk : Nat) (ps3 : Array Value), Heap.ExtBut P (s1.heap.push ob) h3 → (s1.heap.push ob).objs.size ≤ h3.objs.size → h3.get? P = some { cls := .none, data := .fields ps3 } →
      (∃ q, ps3 = ps ++ q) → TriplesOk ps3.toList →
      wpAny (model X.prog X.w) X.A (builtinsFor X.env.globals X.env.builtins) (fun bi s4 =>
        ∃ Ia fp wr n0 Pf St0 pz F, Value.ref s1.heap.objs.size = .ref Ia ∧ (∀ A' : Around, A'.handled = none → Walks X.prog X.w A' Ia fp wr n0 Pf St0) ∧ St0 0 s4.heap ∧ (∀ b ∈ fp, b < s4.heap.objs.size) ∧ s4.heap.NoLimit ∧ cStatics ∉ wr ∧
          (∀ hf : Heap, (∀ b o, s4.heap.get? b = some o → hf.get? b = some o) →
            QuietGen X.prog X.w (genEnv scope (cloFrom X.env.cells scope.names []) s4.heap.objs.size code bi X.env) x [] elt (List.range s4.heap.objs.size) wr Pf pz F hf) ∧
          (∀ a h5 tk gs, gs.bare = true → s4.heap.objs.size < a → h5.objs.size = a + 1 → (∀ b o, s4.heap.get? b = some o → h5.get? b = some o) →
            WalksS X.prog X.w X.A.in4 a (a :: s4.heap.objs.size :: List.range s4.heap.objs.size) (s4.heap.objs.size :: wr) (GenOnlyQ s4.gens.size) (passing pz n0 0).length
              (fun j y => ∃ i, (passing pz n0 0)[j]? = some i ∧ F i y) (GenAt X.prog X.w X.A.in4 a s4.gens.size s4.heap.objs.size (List.range s4.heap.objs.size) wr pz n0 F) →
            GenAt X.prog X.w X.A.in4 a s4.gens.size s4.heap.objs.size (List.range s4.heap.objs.size) wr pz n0 F 0 { s4 with gens := s4.gens.push gs, toks := tk, heap := h5 } →
              Q' (.ref a) { s4 with gens := s4.gens.push gs, toks := tk, heap := h5 })) X.xe { s1 with heap := h3, toks := tk } := by
    intro code h3 tk ps3 ext le3 tb3 hq ok3
    obtain ⟨bm, om, m1, m2, m3, m4, m5, m6, m7, m8⟩ := TB.bm
    have k3 : ∀ b o, b ≠ P → s1.heap.get? b = some o → h3.get? b = some o := fun b o ne e => ext b o ne (Heap.get?_push_of_some _ e)
    refine wpAny_builtinsFor (m := X.mg) ?_ m1 m2 (k3 _ _ m4 (I1.bk _ _ m5)) m6 m7 m8 ?_
    · rw [I1.ok.glob]
      exact ((I1.mod.glob.keeps I1.bk).push ob).extBut ext TB.gP
    refine ⟨s1.heap.objs.size, s1.heap.objs.size :: more, [s1.heap.objs.size], n, Pw, St, fun _ => true, fun i y => y = .bool (tr i), rfl, W, ?_, ?_, lim1.extBut ext neP, ?_, ?_, ?_⟩
    · refine (W X.A hr.hd).frame _ _ _ st0 fun b hb o e => ext b o ?_ e
      intro z
      rcases List.mem_cons.mp hb with q | q
      · rw [z] at q
        rw [q] at ltP
        exact Nat.lt_irrefl _ ltP
      · exact (hmore b q).2 z
    · intro b hb
      show b < h3.objs.size
      rcases List.mem_cons.mp hb with q | q
      · rw [q]
        exact up3 h3 le3
      · exact Nat.lt_trans (hmore b q).1 (up3 h3 le3)
    · intro z
      rcases List.mem_cons.mp z with q | q
      · rw [q] at lt1
        exact Nat.lt_irrefl _ lt1
      · cases q
    · intro hf hk
      constructor
      · intro A' E' i v s2 mm hA hv hn hm hkk
        rw [List.forIn_nil]
        exact wpAny_pure ⟨rfl, keeps_refl _⟩
      · intro A' E' i v s2 mm hA hv _ hn hm hkk
        refine hel _ A' E' i v s2 mm hA rfl rfl hv hn hm fun b o ne e => ?_
        have e3 := k3 b o ne e
        have l1 := Heap.lt_size e
        refine hkk b (List.mem_range.mpr (Heap.lt_size e3)) ?_ o (hk b o e3)
        intro z
        rcases List.mem_cons.mp z with q | q
        · rw [q] at l1
          exact Nat.lt_irrefl _ l1
        · cases q
    · intro g h5 tk5 gs bare5 gt5 sz5 k5 W5 at5
      simp only [GxR.passing_true, List.length_range] at W5
      refine hQ g _ ⟨_, _, _, _, _, W5.in4_1, at5, ?_, fun s' mv => ?_⟩
      · intro j y sj Qj Ej ⟨i, hij, ey⟩ hQj
        obtain ⟨lj, ej⟩ := List.getElem?_eq_some_iff.mp hij
        rw [List.getElem_range] at ej
        rw [ey, ← ej]
        exact wpAny_truthy_bool hQj
      · obtain ⟨q, eq3⟩ := hq
        have out : ∀ b o, s1.heap.get? b = some o → b ∉ h3.objs.size :: [s1.heap.objs.size] := by
          intro b o e hb
          have l1 := Heap.lt_size e
          rcases List.mem_cons.mp hb with z | z
          · rw [z] at l1
            have l2 : h3.objs.size < s1.heap.objs.size := l1
            omega
          · rcases List.mem_cons.mp z with z | z
            · rw [z] at l1
              exact Nat.lt_irrefl _ l1
            · cases z
        have tb' : s'.heap.get? P = some { cls := .none, data := .fields (ps ++ q) } := by
          rw [← eq3]
          exact mv.heap P _ (out P _ tb0) (k5 P _ tb3)
        have J := inv_tab (g' := s'.gens) (d' := s'.drawn) (t' := s'.toks) I1 hP (fun b o ne e => mv.heap b o (out b o e) (k5 b o (k3 b o ne e))) tb' (AllBare.movedS (I1.bare.push bare5) mv)
        rw [sh_eta s1 s' mv.os] at J
        exact ⟨upd H1 P (.tbl (ps ++ q)), ⟨⟨ps ++ q, upd_same, by rw [← eq3]; exact ok3⟩, fun b ne => upd_ne ne⟩, J⟩
  cases hc : codeAmong gpos ps.toList with
  | some cv =>
    exact wpAny_genexprCode_hit hcode (code1.code tb1 hps) hc (rest cv _ s1.toks ps (Heap.ExtBut.refl _ _) (Nat.le_refl _) tb1 ⟨#[], (Array.append_empty).symm⟩ hps)
  | none =>
    refine wpAny_genexprCodeX hcode (code1.code tb1 hps) (code1.tab tb1) hc ?_
    intro c' h' tk ext ge lt isC _ tab' _
    obtain ⟨o1, v1, f1, f2, f3, f4, f5, f6, f7, f8, _, _, _, _, _, _, _, _, _, okT, _⟩ := isC
    exact rest _ h' tk _ ext (Nat.le_trans ge (Nat.le_of_lt lt)) tab'.2 ⟨_, rfl⟩ okT

/-- all of it -/
theorem all_run {c P : Addr} {elt iter : Expr} {x : Str} {px p pos gpos : Pos} {scope : Scope} {k : Nat} {Q : V → Hp → Prop}
    (hr : Room k X.A) (hg : Gl X "all") (hm : X.mg "all" = none) (TB : TabB X.base X.mg c P) (hcode : X.env.code = .ref c) (S : GenS X.env scope x) (hs : ∀ v, genFold iter X.env v = pure v) (I : Inv X pins σ H s)
    (h : wpAny (model X.prog X.w) X.A (eval iter X.env) (fun u s1 => ∃ (H1 : Hp) (n : Nat) (Pw : Nat → Value → Prop) (tr : Nat → Bool), Inv X pins σ H1 s1 ∧ TabG H1 P ∧ SrcOk X P u s1 n Pw ∧ EltOk X P scope x elt s1 Pw tr ∧
      ∀ H2, Tabbed P H1 H2 → Q (.bl ((List.range n).all tr)) H2) X.xe s)
    (he : starEach [.GeneratorExp elt [⟨.Name x px, iter, [], 0⟩] scope gpos] X.env = (false, eval (.GeneratorExp elt [⟨.Name x px, iter, [], 0⟩] scope gpos) X.env) :: starEach [] X.env := by rfl) :
    wpAny (model X.prog X.w) X.A (eval (.Call (.Name "all" p) [.GeneratorExp elt [⟨.Name x px, iter, [], 0⟩] scope gpos] [] pos) X.env) (EP X pins σ Q) X.xe s := by
  refine wpAny_Call_Name_kw (ld_blt I hg hm (show bootBuiltins "all" = some (.builtin "all") by decide +kernel) ?_)
  refine PyProof.Rows.callWith_builtin1 ?_ he (by rfl)
  rw [he]
  refine Calls.spliced_cons (gen_make (pins := pins) (σ := σ) hr TB hcode S hs (thn h ?_))
  intro u s1 ⟨H1, n, Pw, tr, I1, T1, src, el, q⟩
  refine ⟨H1, n, Pw, tr, I1, T1, src, el, fun g s5 mk => ?_⟩
  obtain ⟨fp, wr, G, F, St0, W, st5, tru, back⟩ := mk
  refine Calls.spliced_nil (call_all_walkS (W.self 0 _ _ _ st5 ⟨g, fp, wr, G, n, F, St0, tr, rfl, W, st5, tru, fun s' mv => ?_⟩))
  obtain ⟨H2, t2, I2⟩ := back s' mv
  exact ⟨.bl _, H2, I2, rfl, q H2 t2⟩

/-! ### all(x in y for x in text), y a captured text in the slot i -/
def tAllIn (P : Addr) (i : Nat) (te : TE) : TE := fun σ H Q => te σ H fun v H1 => ∃ a z : Str, v = .str a ∧ σ[i]? = some (some (.str z)) ∧ TabG H1 P ∧
  ∀ H2, Tabbed P H1 H2 → Q (.bl (a.cps.toList.all fun c => decide (c ∈ z.cps.toList))) H2
theorem pe_allIn {c P : Addr} {iter : Expr} {x y : Str} {i : Nat} {px p pos gpos p1 p2 p3 : Pos} {scope : Scope} {te : TE} {k : Nat}
    (hr : Room k X.A) (hg : Gl X "all") (hm : X.mg "all" = none) (TB : TabB X.base X.mg c P) (hcode : X.env.code = .ref c) (S : GenS X.env scope x) (hi : PE X iter te) (hs : ∀ v, genFold iter X.env v = pure v)
    (hN : X.N[i]? = some y) (hv : X.env.kindOf y = some .cell) (hy : scope.names.lookup y = some .free) (hyc : (cloFrom X.env.cells scope.names []).lookup y = X.env.cells.lookup y)
    (he : starEach [.GeneratorExp (.Compare (.Name x p1) [.In] [.Name y p2] p3) [⟨.Name x px, iter, [], 0⟩] scope gpos] X.env = (false, eval (.GeneratorExp (.Compare (.Name x p1) [.In] [.Name y p2] p3) [⟨.Name x px, iter, [], 0⟩] scope gpos) X.env) :: starEach [] X.env := by rfl)
    (hd : (x == ("__debug__" : Str)) = false := by decide) (hd2 : (y == ("__debug__" : Str)) = false := by decide) (hn2 : (y == ("__classdict__" : Str)) = false := by decide) :
    PE X (.Call (.Name "all" p) [.GeneratorExp (.Compare (.Name x p1) [.In] [.Name y p2] p3) [⟨.Name x px, iter, [], 0⟩] scope gpos] [] pos) (tAllIn P i te) := by
  refine ⟨fun pins s σ H Q I h => all_run hr hg hm TB hcode S hs I (thn (hi.run pins s σ H _ I h) ?_) he⟩
  intro u s1 ⟨v, H1, I1, r1, a, z, ev, ez, T1, q⟩
  subst ev
  obtain ⟨t, rfl⟩ := r1
  obtain ⟨m, hm1, hl⟩ := I1.loc
  obtain ⟨uz, rz, lz⟩ := hl i y _ hN ez (.inr (.inl hv))
  obtain ⟨tz, rfl⟩ := rz
  have hcell : ∃ cl, X.env.cells.lookup y = some cl ∧ s1.heap.IsCell cl (some (.str z tz)) := by
    rcases lz with ⟨k1, _⟩ | ⟨_, cl, h1, h2⟩
    · rw [hv] at k1
      cases k1
    · exact ⟨cl, h1, h2⟩
  obtain ⟨cl, hc1, hc2⟩ := hcell
  refine ⟨H1, a.cps.size, SignAt a, trF (fun c => decide (c ∈ z.cps.toList)) a.cps.toList, I1, T1, ⟨[], fun b hb => (nomatch hb), fun Q hQ => wpAny_pyIter_str hQ⟩, ?_, fun H2 t2 => ?_⟩
  · intro ce A' E' j v s2 m2 _ es ec ⟨cc, tc, hcc, ev⟩ hn hmx kp
    subst ev
    refine wpAny_Compare1 ?_ (by with_unfolding_all rfl)
    refine wpAny_Name (wpAny_loadName_local (by rw [es]; exact S.kind) (by show ce.scope.names.lookup x = _; rw [es]; exact S.loc) hn hmx ?_) hd
    refine wpAny_Name (wpAny_loadName_free (c := cl) (v := .str z tz) (by rw [es]; exact S.kind) (by show ce.scope.names.lookup y = _; rw [es]; exact hy) (by rw [ec, hyc]; exact hc1) ?_ ?_ hn2) hd2
    · obtain ⟨oc, ho, hdt⟩ := hc2
      refine ⟨oc, kp cl oc ?_ ho, hdt⟩
      intro e
      obtain ⟨ps, hP, _⟩ := T1
      have tb0 : s1.heap.get? P = some { cls := .none, data := .fields ps } := I1.hok P _ hP
      rw [e, tb0] at ho
      cases ho
      cases hdt
    · refine PyProof.Rows.in_str ⟨?_, keeps_refl _⟩
      have e9 : a.cps.toList[j]? = some cc := by rw [Array.getElem?_toList]; exact hcc
      rw [PySem.StrLaws.found_one z cc, trF_some e9]
  · rw [all_signs a]
    exact q H2 t2

end
end QR
/-! the mathematics of records: no program here -/
namespace TR
open PySem L2 TL
abbrev Sg (l : List Nat) : Str := ⟨l.toArray⟩

/-! ### numbers in digits -/
theorem val_snoc (l : List Nat) (c : Nat) : NumText.digitsVal (l ++ [c]) = NumText.digitsVal l * 10 + (c - 48) := by
  unfold NumText.digitsVal
  rw [List.foldl_append]
  rfl
theorem num_head {n : Nat} (h : 0 < n) : ∃ c r, numL n = c :: r ∧ c ≠ 48 := by
  induction n using Nat.strongRecOn with
  | _ n ih =>
    by_cases h1 : n < 10
    · refine ⟨48 + n, [], numL_lt h1, by omega⟩
    · obtain ⟨c, r, e, ne⟩ := ih (n / 10) (by omega) (by omega)
      exact ⟨c, r ++ [48 + n % 10], by rw [numL_step (by omega), e]; rfl, ne⟩
theorem num_zero : numL 0 = [48] := numL_lt (by decide)
/-- digits without leading zeros are those of their number -/
theorem num_canon : ∀ (k : Nat) (l : List Nat), l.length = k → NumText.AllDigits l → l ≠ [] → (l.head? ≠ some 48 ∨ l = [48]) → numL (NumText.digitsVal l) = l := by
  intro k
  induction k with
  | zero =>
    intro l hl _ ne _
    exact absurd (List.eq_nil_of_length_eq_zero hl) ne
  | succ k ih =>
    intro l hl hd ne hz
    obtain ⟨i, c, rfl⟩ : ∃ i c, l = i ++ [c] := ⟨l.dropLast, l.getLast ne, (List.dropLast_concat_getLast ne).symm⟩
    have hc : 48 ≤ c ∧ c ≤ 57 := hd c (List.mem_append_right _ (List.mem_singleton.mpr rfl))
    have hi : NumText.AllDigits i := fun x hx => hd x (List.mem_append_left _ hx)
    have li : i.length = k := by
      rw [List.length_append, List.length_singleton] at hl
      omega
    by_cases h0 : i = []
    · subst h0
      have e : NumText.digitsVal ([] ++ [c]) = c - 48 := by
        rw [val_snoc]
        show 0 * 10 + (c - 48) = c - 48
        omega
      rw [e, numL_lt (by omega)]
      show [48 + (c - 48)] = [c]
      rw [show 48 + (c - 48) = c by omega]
    · have hh : (i ++ [c]).head? = i.head? := by
        cases i with
        | nil => exact absurd rfl h0
        | cons x r => rfl
      have hz2 : i.head? ≠ some 48 := by
        rcases hz with z | z
        · rw [hh] at z
          exact z
        · have := congrArg List.length z
          rw [List.length_append, List.length_singleton, List.length_singleton] at this
          have : i.length = 0 := by omega
          exact absurd (List.eq_nil_of_length_eq_zero this) h0
      have e1 := ih i li hi h0 (.inl hz2)
      have hp : 0 < NumText.digitsVal i := by
        rcases Nat.eq_zero_or_pos (NumText.digitsVal i) with z | z
        · rw [z, num_zero] at e1
          rw [← e1] at hz2
          exact absurd rfl hz2
        · exact z
      rw [val_snoc, numL_step (by omega)]
      have d1 : (NumText.digitsVal i * 10 + (c - 48)) / 10 = NumText.digitsVal i := by omega
      have d2 : (NumText.digitsVal i * 10 + (c - 48)) % 10 = c - 48 := by omega
      rw [d1, d2, e1, show 48 + (c - 48) = c by omega]
theorem num_len_mono : ∀ (m n : Nat), n ≤ m → (numL n).length ≤ (numL m).length := by
  intro m
  induction m using Nat.strongRecOn with
  | _ m ih =>
    intro n h
    by_cases h1 : n < 10
    · rw [numL_lt h1]
      exact List.length_pos_iff.mpr (numL_ne m)
    · rw [numL_step (n := n) (by omega), numL_step (n := m) (by omega), List.length_append, List.length_append]
      have := ih (m / 10) (by omega) (n / 10) (by omega)
      show _ + 1 ≤ _ + 1
      omega

instance (l : List Nat) : Decidable (NumText.AllDigits l) := inferInstanceAs (Decidable (∀ c ∈ l, 48 ≤ c ∧ c ≤ 57))
def readNum (l : List Nat) (m : Nat) : Option Nat :=
  if l.length = 0 ∨ (numL m).length < l.length ∨ ¬ NumText.AllDigits l then none
  else if l.head? = some 48 ∧ l ≠ [48] then none
  else if NumText.digitsVal l ≤ m then some (NumText.digitsVal l) else none
theorem readNum_some {l : List Nat} {m n : Nat} (h : readNum l m = some n) : l = numL n ∧ n ≤ m := by
  unfold readNum at h
  split at h
  · cases h
  · rename_i h1
    split at h
    · cases h
    · rename_i h2
      split at h
      · rename_i h3
        cases h
        refine ⟨(num_canon _ l rfl (Decidable.byContradiction fun z => h1 (.inr (.inr z))) (fun z => h1 (.inl (by rw [z]; rfl))) ?_).symm, h3⟩
        by_cases z : l.head? = some 48
        · exact .inr (Decidable.byContradiction fun y => h2 ⟨z, y⟩)
        · exact .inl z
      · cases h
theorem readNum_num {m n : Nat} (h : n ≤ m) : readNum (numL n) m = some n := by
  unfold readNum
  have l0 : (numL n).length ≠ 0 := fun z => numL_ne n (List.eq_nil_of_length_eq_zero z)
  have l1 := num_len_mono m n h
  rw [if_neg (by
    rintro (z | z | z)
    · exact l0 z
    · omega
    · exact z (numL_digits n)), if_neg (by
    rintro ⟨z1, z2⟩
    rcases Nat.eq_zero_or_pos n with q | q
    · rw [q, num_zero] at z2
      exact z2 rfl
    · obtain ⟨c, r, e, ne⟩ := num_head q
      rw [e] at z1
      exact ne (Option.some.inj z1)), numL_val, if_pos h]
end TR
/-! rules of my own over the hand layer: text * int, enumerate(text) -/
namespace TR
open PySem PySem.Spec PyProof.Rows L2 TL
theorem sg_tl (s : Str) : Sg (tl s) = s := rfl
/-! ### text * int -/
def repL (l : List Nat) (k : Int) : List Nat := (List.replicate k.toNat l).flatten
def rRepS : R2 := fun x y H Q => ∃ (s : Str) (k : Int), x = .str s ∧ y = .int k ∧ k ≤ 1000 ∧ -1000 ≤ k ∧ s.length ≤ 1000 ∧ Q (.str (Sg (repL (tl s) k))) H
theorem fold_cps (x : Array Nat) : ∀ (m : Nat) (b : Array Nat), ((List.replicate m x).foldl (· ++ ·) b).toList = b.toList ++ (List.replicate m x.toList).flatten
  | 0, b => by simp
  | m + 1, b => by
    rw [List.replicate_succ, List.foldl_cons, fold_cps x m, List.replicate_succ, List.flatten_cons, Array.toList_append, List.append_assoc]
theorem op_repS {X : Cx} : OpR X (binaryOp .Mult) rRepS := by
  intro pins s σ H x y v u Q I rx ry h
  obtain ⟨i, k, rfl, rfl, h1, h2, hz, q⟩ := h
  obtain ⟨t, rfl⟩ := rx
  obtain ⟨t', rfl⟩ := ry
  have hm : (i.length : Int) * k ≤ 1000000 := by
    by_cases kz : 0 ≤ k
    · have a1 : (i.length : Int) * k ≤ 1000 * k := Int.mul_le_mul_of_nonneg_right (by omega) kz
      omega
    · have a1 := Int.mul_nonneg (show (0 : Int) ≤ i.length by omega) (show (0 : Int) ≤ -k by omega)
      rw [Int.mul_neg] at a1
      omega
  refine P.mul_str (by
    rw [decide_eq_false (by omega : ¬ k < -(2 ^ 63 : Int)), decide_eq_false (by omega : ¬ k ≥ 2 ^ 63)]
    rfl) (fun hk _ => ?_) (fun hk _ => ?_) ?_
  · have := (Int.le_ediv_iff_mul_le (show 0 < k by omega)).mpr (show (i.length : Int) * k ≤ 2 ^ 63 - 1 by omega)
    omega
  · have e : i.length * k.toNat ≤ 1000000 := by
      have : ((i.length * k.toNat : Nat) : Int) = (i.length : Int) * k := by
        rw [Int.natCast_mul, Int.toNat_of_nonneg (by omega)]
      omega
    show decide (i.length * k.toNat > sizeLine) = false
    refine decide_eq_false ?_
    rw [sizeLine_eq]
    omega
  · have end_ : ∀ (z : Str), tl z = repL (tl i) k → V.str z = V.str (Sg (repL (tl i) k)) := fun z e => by rw [← e]
    by_cases h1 : k < 1
    · rw [if_pos h1]
      refine ⟨Nat.zero_le _, .str (Sg (repL (tl i) k)), H, I.tok _, ⟨s.toks, ?_⟩, q⟩
      have e : repL (tl i) k = [] := by
        unfold repL
        rw [show k.toNat = 0 by omega]
        rfl
      rw [e]
      rfl
    · rw [if_neg h1]
      cases hc : (k == 1 || i.length == 0)
      · rw [if_neg Bool.false_ne_true]
        have e := fold_cps i.cps k.toNat #[]
        rw [Array.toList_empty, List.nil_append] at e
        have e2 : (⟨(List.replicate k.toNat i.cps).foldl (· ++ ·) #[]⟩ : Str) = Sg (repL (tl i) k) := ext_tl e
        have lz : (repL (tl i) k).length ≤ sizeLine := by
          unfold repL
          rw [PyProof.Rows.lm_len_rep_flat, sizeLine_eq]
          have : ((k.toNat * (tl i).length : Nat) : Int) = (i.length : Int) * k := by
            rw [Int.natCast_mul, Int.toNat_of_nonneg (by omega), Int.mul_comm]
            rfl
          omega
        show (Made.str ⟨(List.replicate k.toNat i.cps).foldl (· ++ ·) #[]⟩).post _ _
        rw [e2]
        exact ⟨lz, .str (Sg (repL (tl i) k)), H, I.tok _, ⟨s.toks, rfl⟩, q⟩
      · rw [if_pos rfl]
        refine ⟨.str (Sg (repL (tl i) k)), H, I, ⟨t, ?_⟩, q⟩
        refine congrArg (Value.str · t) (ext_tl ?_)
        show tl i = repL (tl i) k
        unfold repL
        rcases Bool.or_eq_true_iff.mp hc with z | z
        · rw [beq_iff_eq.mp z]
          show tl i = [tl i].flatten
          simp
        · have z : (tl i) = [] := List.eq_nil_of_length_eq_zero (beq_iff_eq.mp z)
          rw [z]
          simp
/-! ### enumerate(text) -/
def Ites (x : Str) : It := ⟨fun i _ => i < x.cps.size, fun i H v H' => ∃ T c, v = .ref T ∧ H T = none ∧ H' = upd H T (.tup [.int (i : Nat), .str ⟨#[c]⟩]) ∧ x.cps[i]? = some c, fun i _ => i = x.cps.size⟩
theorem turn_enumS {P : Program} {w : World} {K : PySem.W.Frag} {elts : List Expr} {kk : Nat} {tpos : Pos} (x : Str) (t : Tok) (ty : String) (hty : ty = "str_ascii_iterator" ∨ ty = "str_iterator") (e it : Addr) :
    Turn P w K (.Tuple elts kk tpos) (Ites x) [e, it] e (fun i h => (∃ old, IsEnum h e it ((i : Nat) : Int) old) ∧ h.IsStrIter it ty x t i ∧ e ≠ it) where
  mem := by simp
  obj := fun i h st b hb => by
    obtain ⟨⟨old, he⟩, ⟨o, ho, hc, hd⟩, _⟩ := st
    have e' : b = e ∨ b = it := by simpa using hb
    rcases e' with z | z
    · rw [z]; exact ⟨_, he, fun v q => nomatch q⟩
    · rw [z]; exact ⟨o, ho, fun v q => by rw [hd] at q; cases q⟩
  keep := fun i h h' st k => let ⟨⟨old, he⟩, ⟨o, ho, r⟩, hne⟩ := st; ⟨⟨old, k e (by simp) _ he⟩, ⟨o, k it (by simp) o ho, r⟩, hne⟩
  item := by
    intro X hP hw hK hc i pins s σ H E I hf st hg
    subst hP hw hK
    obtain ⟨⟨old, he⟩, hit, hne⟩ := st
    have hel : e < s.heap.objs.size := Heap.lt_size he
    have hil : it < s.heap.objs.size := by obtain ⟨_, q, _⟩ := hit; exact Heap.lt_size q
    have D : Draws X.prog X.w X.A.in1 it [it] x.cps.size (fun i v => ∃ c u, x.cps[i]? = some c ∧ v = .str ⟨#[c]⟩ u) (fun i h => h.IsStrIter it ty x t i) := by
      rcases hty with z | z
      · rw [z]; exact Draws.strAscii (A := X.A.in1) (I.ok.hd hc) it x t
      · rw [z]; exact Draws.strWide (A := X.A.in1) (I.ok.hd hc) it x t
    refine wpAny_pyNext_enum_itemC D he hit hg hne (by simpa using hne) fun y h' tk hy ho hit' hT hsz hk => ?_
    obtain ⟨c, u, hcx, rfl⟩ := hy
    refine ⟨_, rfl, wpAny_letOwnedTupleGo_enum (s := { s with heap := h', toks := tk + 1 }) ho fun h'' he' sb => ?_⟩
    have hT2 : h''.get? s.heap.objs.size = some { cls := .type "tuple", data := .seq #[.int i tk, .str ⟨#[c]⟩ u] } := (sb.2 _ (Nat.ne_of_gt hel)).trans hT
    have new : ObjOk X.prog X.w (upd H s.heap.objs.size (.tup [.int (i : Nat), .str ⟨#[c]⟩])) h'' s.heap.objs.size (.tup [.int (i : Nat), .str ⟨#[c]⟩]) :=
      ⟨by show 2 ≤ sizeLine; decide, [.int i tk, .str ⟨#[c]⟩ u], .cons ⟨_, rfl⟩ (.cons ⟨_, rfl⟩ .nil), ⟨_, hT2, rfl, _, rfl⟩⟩
    have I1 : Inv X pins σ (upd H s.heap.objs.size (.tup [.int (i : Nat), .str ⟨#[c]⟩])) { s with heap := h'', toks := tk + 1 } :=
      I.turnedNew (ch := [e, it]) (fun b ob hb q => (sb.2 b (fun z => hb (by simp [z]))).trans (hk b ob (fun z => hb (by simp [z])) (fun z => hb (by simp [z])) q)) hf (Nat.le_refl _) new
    refine ⟨.ref s.heap.objs.size, _, I1, rfl, ⟨_, c, rfl, I.hok.fresh (Nat.le_refl _), rfl, hcx⟩, ⟨⟨.str ⟨#[c]⟩ u, ?_⟩, ?_, hne⟩, fun b hb => ?_⟩
    · have e1 : ((i + 1 : Nat) : Int) = (i : Int) + 1 := by omega
      rw [e1]; exact he'
    · obtain ⟨o, ho2, r⟩ := hit'
      exact ⟨o, (sb.2 it (Ne.symm hne)).trans ho2, r⟩
    · have hb' : b < s.heap.objs.size := by
        have e' : b = e ∨ b = it := by simpa using hb
        rcases e' with z | z
        · rw [z]; exact hel
        · rw [z]; exact hil
      rw [upd_ne (Nat.ne_of_lt hb')]
      exact (hf b hb).1
  done := by
    intro X hP hw hK hc i pins s σ H E I hf st hg
    subst hP hw hK
    obtain ⟨⟨old, he⟩, hit, hne⟩ := st
    obtain ⟨f0, f1, f2, f3, f4, f5⟩ := hf it (by simp)
    have D : Draws X.prog X.w X.A.in1 it [it] x.cps.size (fun i v => ∃ c u, x.cps[i]? = some c ∧ v = .str ⟨#[c]⟩ u) (fun i h => h.IsStrIter it ty x t i) := by
      rcases hty with z | z
      · rw [z]; exact Draws.strAscii (A := X.A.in1) (I.ok.hd hc) it x t
      · rw [z]; exact Draws.strWide (A := X.A.in1) (I.ok.hd hc) it x t
    have hg' : i = x.cps.size := hg
    subst hg'
    exact wpAny_pyNext_enum_endD D he hit fun h' eb => ⟨rfl, I.turned (t' := s.toks) (fun b o hb q => eb b o hb q) f0 f1 f3 f4 f5⟩
  self := fun A i s Q E st h => let ⟨⟨_, he⟩, _⟩ := st; wpAny_pyIter_enum he h
def iEnumS (ta : TA) : TI := fun σ H R => ta σ H fun vs H1 => ∃ x, vs = [.str x] ∧ R (Ites x) H1
theorem pi_enumS {X : Cx} {e : Expr} {ta : TA} {p pos tpos : Pos} {elts : List Expr} {kk : Nat} (hg : Gl X "enumerate") (hm : X.mg "enumerate" = none) (ha : PA X [e] ta) (hs : starEach [e] X.env = [(false, eval e X.env)] := by rfl) :
    PI X (.Tuple elts kk tpos) (.Call (.Name "enumerate" p) [e] [] pos) (iEnumS ta) := by
  refine ⟨fun pins s σ H R I h => ?_⟩
  refine Call_ (ld_blt I hg hm boot_enumerate (PyProof.Rows.callWith_type1 (thn (ha.run pos pins s σ H _ I h) fun us s1 ⟨vs, H1, I1, r1, q1⟩ => ?_) hs rfl))
  obtain ⟨x, ex, q⟩ := q1
  subst ex
  cases r1 with
  | cons r rr =>
    cases rr
    obtain ⟨t, rfl⟩ := r
    refine call_enumerate_str fun h' he hit hsz hk => wpAny_pyIter_enum he ?_
    have I2 : Inv X pins σ H1 { s1 with heap := h' } := I1.kept (t' := s1.toks) hk
    refine ⟨s1.heap.objs.size + 1, [s1.heap.objs.size + 1, s1.heap.objs.size], _, _, H1, rfl, I2, turn_enumS x t (strIterType x) (by unfold strIterType; split <;> simp) (s1.heap.objs.size + 1) s1.heap.objs.size, ⟨⟨.none, he⟩, hit, Nat.succ_ne_self _⟩, fun b hb => ?_, q⟩
    have e' : b = s1.heap.objs.size + 1 ∨ b = s1.heap.objs.size := by simpa using hb
    have hle : s1.heap.objs.size ≤ b := by
      rcases e' with z | z
      · rw [z]; exact Nat.le_add_right _ _
      · rw [z]; exact Nat.le_refl _
    exact I1.fpOk hle (I1.hok.fresh hle)
theorem walk_enumS (x : Str) : Walk (Ites x) x.cps.size (fun _ => True) (fun i H v H' => ∃ T c, v = .ref T ∧ H T = none ∧ H' = upd H T (.tup [.int (i : Nat), .str ⟨#[c]⟩]) ∧ x.cps[i]? = some c) where
  goes := fun i H h _ => h
  stops := fun H _ => rfl
  yields := fun i H v H' h _ y => y
theorem for_enumS {x : Str} {g : TG} {tb : TS} {D : Ends} {σ : L2.St} {H : Hp} (Pv : Nat → L2.St → Hp → Prop) (h0 : Pv 0 σ H)
    (hs : ∀ i c T σ H, (tl x)[i]? = some c → Pv i σ H → H T = none → g (.ref T) σ (upd H T (.tup [.int (i : Nat), .str ⟨#[c]⟩])) fun σ2 H2 => tb { D with nx := Pv (i + 1), ct := Pv (i + 1), bk := D.nx } σ2 H2) (hd : ∀ σ H, Pv (tl x).length σ H → D.nx σ H) :
    ∃ W : Nat → Nat → L2.St → Hp → Prop, (∃ m, W 0 m σ H) ∧ ∀ i m σ H, W i m σ H →
      ((Ites x).stop i H ∧ D.nx σ H) ∨ ((Ites x).go i H ∧ ∃ N : L2.St → Hp → Prop, (∀ σ' H', N σ' H' → ∃ m', m' < m ∧ W (i + 1) m' σ' H') ∧ ∀ v H', (Ites x).yld i H v H' → g v σ H' fun σ2 H2 => tb { D with nx := N, ct := N, bk := D.nx } σ2 H2) :=
  for_it (walk_enumS x) Pv h0 (fun _ _ _ _ _ => trivial) (fun i v σ H H' hi hp ⟨T, c, e1, e2, e3, e4⟩ => by
    subst e1
    subst e3
    exact hs i c T σ H (by rw [Array.getElem?_toList]; exact e4) hp e2) (fun σ H hp => hd σ H hp)
end TR
namespace QR
open PySem PySem.Spec PyProof.Rows L2
section
variable {X : Cx}
def rEqP (K : PySem.W.Frag) : R2 := fun x y H Q => ∃ d e, Dp K H x d ∧ Dp K H y e ∧ d.plain = true ∧ e.plain = true ∧ d.depth ≤ 60 ∧ Q (.bl (PyData.eqv d e)) H
def rNeP (K : PySem.W.Frag) : R2 := fun x y H Q => ∃ d e, Dp K H x d ∧ Dp K H y e ∧ d.plain = true ∧ e.plain = true ∧ d.depth ≤ 60 ∧ Q (.bl (!PyData.eqv d e)) H
theorem op_eqP (hu : X.A.units + 64 < cLine) : OpR X (compareOp .Eq) (rEqP X.K) := fun pins s σ H x y v u Q I rx ry ⟨d, e, hd, he, pd, pe, dd, q⟩ => by
  obtain ⟨as, r1⟩ := Dp.reads I d x v hd rx
  obtain ⟨bs, r2⟩ := Dp.reads I e y u he ry
  exact PySem.SeqAt.eq_plain r1 r2 pd pe (by omega) ⟨.bl _, H, I, rfl, q⟩
theorem op_neP (hu : X.A.units + 64 < cLine) : OpR X (compareOp .NotEq) (rNeP X.K) := fun pins s σ H x y v u Q I rx ry ⟨d, e, hd, he, pd, pe, dd, q⟩ => by
  obtain ⟨as, r1⟩ := Dp.reads I d x v hd rx
  obtain ⟨bs, r2⟩ := Dp.reads I e y u he ry
  exact PySem.SeqAt.ne_plain r1 r2 pd pe (by omega) ⟨.bl _, H, I, rfl, q⟩
end
/-! ### == and != of values with a Lean type -/
section
variable {α : Type} [DecidableEq α] [PySem.W.Datum α] {K : PySem.W.Frag} {H : Hp} {x y : V} {a b : α} {Q : VK}
theorem eq_dat (hx : Dp K H x (PySem.W.Datum.toD a)) (hy : Dp K H y (PySem.W.Datum.toD b)) (hd : PySem.W.Datum.depth α ≤ 60) (q : Q (.bl (decide (a = b))) H) : rEqP K x y H Q :=
  ⟨_, _, hx, hy, PySem.W.Datum.plain a, PySem.W.Datum.plain b, Nat.le_trans (PySem.W.Datum.depth_le a) hd, by rw [PySem.W.Datum.eqv]; exact q⟩
theorem ne_dat (hx : Dp K H x (PySem.W.Datum.toD a)) (hy : Dp K H y (PySem.W.Datum.toD b)) (hd : PySem.W.Datum.depth α ≤ 60) (q : Q (.bl (!decide (a = b))) H) : rNeP K x y H Q :=
  ⟨_, _, hx, hy, PySem.W.Datum.plain a, PySem.W.Datum.plain b, Nat.le_trans (PySem.W.Datum.depth_le a) hd, by rw [PySem.W.Datum.eqv]; exact q⟩
end
end QR
/-! mathematics of texts and their lines -/
namespace TR
open PySem PySem.Spec PyProof.Rows L2 TL
/-- the parts of l between the c's -/
def cutAt (c : Nat) : List Nat → List (List Nat)
  | [] => [[]]
  | x :: l => if x = c then [] :: cutAt c l else match cutAt c l with
    | [] => [[x]]
    | p :: r => (x :: p) :: r
def joinL (c : Nat) : List (List Nat) → List Nat
  | [] => []
  | [p] => p
  | p :: q :: r => p ++ c :: joinL c (q :: r)
theorem cut_free {c : Nat} : ∀ {p : List Nat}, c ∉ p → cutAt c p = [p]
  | [], _ => rfl
  | x :: p, h => by
    have h1 : x ≠ c := fun e => h (e ▸ List.mem_cons_self)
    have h2 : c ∉ p := fun e => h (List.mem_cons_of_mem _ e)
    unfold cutAt
    rw [if_neg h1, cut_free h2]
theorem cut_app {c : Nat} {l : List Nat} : ∀ {p : List Nat}, c ∉ p → cutAt c (p ++ c :: l) = p :: cutAt c l
  | [], _ => by
    show cutAt c (c :: l) = _
    rw [cutAt, if_pos rfl]
  | x :: p, h => by
    have h1 : x ≠ c := fun e => h (e ▸ List.mem_cons_self)
    have h2 : c ∉ p := fun e => h (List.mem_cons_of_mem _ e)
    show cutAt c (x :: (p ++ c :: l)) = _
    rw [cutAt, if_neg h1, cut_app h2]
theorem cut_join {c : Nat} : ∀ {P : List (List Nat)}, P ≠ [] → (∀ p ∈ P, c ∉ p) → cutAt c (joinL c P) = P
  | [], h, _ => absurd rfl h
  | [p], _, h => cut_free (h p List.mem_cons_self)
  | p :: q :: r, _, h => by
    rw [joinL, cut_app (h p List.mem_cons_self), cut_join (List.cons_ne_nil _ _) fun x hx => h x (List.mem_cons_of_mem _ hx)]
theorem cut_ne (c : Nat) : ∀ l, cutAt c l ≠ []
  | [] => List.cons_ne_nil _ _
  | x :: l => by
    unfold cutAt
    split
    · exact List.cons_ne_nil _ _
    · split <;> exact List.cons_ne_nil _ _
theorem tl_app (a b : Str) : tl (a ++ b) = tl a ++ tl b := by
  show (a.cps ++ b.cps).toList = _
  rw [Array.toList_append]
theorem tl_join (c : Nat) : ∀ P : List Str, tl (Str.join ⟨#[c]⟩ P) = joinL c (P.map tl)
  | [] => rfl
  | [p] => rfl
  | p :: q :: r => by
    show tl (p ++ ⟨#[c]⟩ ++ Str.join ⟨#[c]⟩ (q :: r)) = _
    rw [tl_app, tl_app, tl_join c (q :: r), List.append_assoc]
    rfl
theorem split_ne (x y : Str) : Txt.split x y ≠ [] := by
  unfold Txt.split
  split
  · exact List.cons_ne_nil _ _
  · split
    · exact List.cons_ne_nil _ _
    · unfold Builtin.Str.partsBetween
      generalize Builtin.Str.occurrences x y 0 x.length (x.length + 1) = cs
      cases cs <;> exact List.cons_ne_nil _ _
theorem split_cut (x : Str) (c : Nat) : Txt.split x ⟨#[c]⟩ = (cutAt c (tl x)).map Sg := by
  have h1 : (Txt.split x ⟨#[c]⟩).map tl = cutAt c (tl x) := by
    have e := StrLaws.join_split x ⟨#[c]⟩
    have e2 := tl_join c (Txt.split x ⟨#[c]⟩)
    rw [e] at e2
    rw [e2, cut_join (by
      intro z
      exact split_ne x ⟨#[c]⟩ (List.map_eq_nil_iff.mp z))]
    intro p hp
    obtain ⟨q, hq, rfl⟩ := List.mem_map.mp hp
    exact StrLaws.split_free x c q hq
  rw [← h1, List.map_map]
  conv => lhs; rw [← List.map_id (Txt.split x ⟨#[c]⟩)]
  rfl
theorem tl_join0 : ∀ P : List Str, tl (Str.join Str.empty P) = (P.map tl).flatten
  | [] => rfl
  | [p] => by simp [Str.join]
  | p :: q :: r => by
    show tl (p ++ Str.empty ++ Str.join Str.empty (q :: r)) = _
    rw [tl_app, tl_app, tl_join0 (q :: r), List.map_cons, List.flatten_cons]
    show tl p ++ [] ++ _ = _
    rw [List.append_nil]
    simp
theorem txt_join0 (P : List Str) : Txt.join Str.empty P = Sg ((P.map tl).flatten) := by
  show Builtin.Str.glued _ _ = _
  rw [StrLaws.glued_eq_join]
  exact ext_tl (tl_join0 P)
/-- the text of lines -/
def flatN : List (List Nat) → List Nat
  | [] => []
  | p :: r => p ++ 10 :: flatN r
theorem cut_flat {z : List Nat} (hz : 10 ∉ z) : ∀ {P : List (List Nat)}, (∀ p ∈ P, 10 ∉ p) → cutAt 10 (flatN P ++ z) = P ++ [z]
  | [], _ => cut_free hz
  | p :: r, h => by
    show cutAt 10 ((p ++ 10 :: flatN r) ++ z) = _
    rw [List.append_assoc, List.cons_append, cut_app (h p List.mem_cons_self), cut_flat hz fun x hx => h x (List.mem_cons_of_mem _ hx)]
    rfl
theorem flat_flatten : ∀ P : List (List Nat), (P.map fun p => p ++ [10]).flatten = flatN P
  | [] => rfl
  | p :: r => by
    rw [List.map_cons, List.flatten_cons, flat_flatten r, List.append_assoc]
    rfl
/-- the first place where a text fails -/
def fault : List Nat → Nat → Nat → Nat → Option Nat
  | [], at_, _, size => if size = 0 then none else some at_
  | c :: l, at_, many, size => if many = 200 then some at_ else if c = 10 then fault l (at_ + 1) (many + 1) 0 else if size = 40 then some at_ else fault l (at_ + 1) many (size + 1)
theorem fault_end : ∀ {l : List Nat} {a m s : Nat}, fault l a m s = none → (l = [] ∧ s = 0) ∨ ∃ l', l = l' ++ [10]
  | [], a, m, s, h => by
    unfold fault at h
    split at h
    · rename_i e
      exact .inl ⟨rfl, e⟩
    · cases h
  | c :: l, a, m, s, h => by
    unfold fault at h
    split at h
    · cases h
    · split at h
      · rename_i e
        rcases fault_end h with ⟨e2, _⟩ | ⟨l', e2⟩
        · exact .inr ⟨[], by rw [e2, e]; rfl⟩
        · exact .inr ⟨c :: l', by rw [e2]; rfl⟩
      · split at h
        · cases h
        · rcases fault_end h with ⟨_, e2⟩ | ⟨l', e2⟩
          · cases e2
          · exact .inr ⟨c :: l', by rw [e2]; rfl⟩
theorem fault_nil {l z : List Nat} {a m s : Nat} (h : fault (l ++ z) a m s = none) (hz : 10 ∉ z) : z = [] := by
  rcases List.eq_nil_or_concat z with e | ⟨w, x, e⟩
  · exact e
  · exfalso
    rcases fault_end h with ⟨e2, _⟩ | ⟨l', e2⟩
    · rw [e] at e2
      simp at e2
    · rw [e, List.concat_eq_append, ← List.append_assoc] at e2
      have := List.append_inj_right' e2 rfl
      have e3 : x = 10 := by simpa using this
      exact hz (by rw [e, e3]; simp)
def okT (l : List Nat) : Prop := ∀ c ∈ l, c = 10 ∨ (32 ≤ c ∧ c ≤ 126)
def okL (l : List Nat) : Prop := (∀ c ∈ l, 32 ≤ c ∧ c ≤ 126) ∧ l.length ≤ 50
theorem okL.free {l : List Nat} (h : okL l) : 10 ∉ l := fun z => by
  have := h.1 10 z
  omega
theorem okT_app {a b : List Nat} (ha : okT a) (hb : okT b) : okT (a ++ b) := fun c hc => by
  rcases List.mem_append.mp hc with h | h
  · exact ha c h
  · exact hb c h
theorem okL.t {l : List Nat} (h : okL l) : okT l := fun c hc => .inr (h.1 c hc)
theorem okT_flat : ∀ {P : List (List Nat)}, (∀ p ∈ P, okL p) → okT (flatN P)
  | [], _ => fun c hc => nomatch hc
  | p :: r, h => by
    refine okT_app (h p List.mem_cons_self).t fun c hc => ?_
    rcases List.mem_cons.mp hc with e | hc
    · exact .inl e
    · exact okT_flat (fun x hx => h x (List.mem_cons_of_mem _ hx)) c hc
theorem flat_len : ∀ {P : List (List Nat)}, (∀ p ∈ P, okL p) → (flatN P).length ≤ 51 * P.length
  | [], _ => Nat.le_refl _
  | p :: r, h => by
    have a := (h p List.mem_cons_self).2
    have b := flat_len (P := r) fun x hx => h x (List.mem_cons_of_mem _ hx)
    show (p ++ 10 :: flatN r).length ≤ 51 * (r.length + 1)
    rw [List.length_append, List.length_cons]
    omega
theorem okL_rep {l : List Nat} {k : Int} (h1 : l.length = 1) (hl : ∀ c ∈ l, 32 ≤ c ∧ c ≤ 126) (hk : k ≤ 50) : okL (repL l k) := by
  refine ⟨fun c hc => ?_, ?_⟩
  · obtain ⟨x, hx, hc⟩ := List.mem_flatten.mp hc
    rw [List.eq_of_mem_replicate hx] at hc
    exact hl c hc
  · unfold repL
    rw [PyProof.Rows.lm_len_rep_flat, h1]
    omega
end TR
/-! the array of generators never shrinks -/
namespace GX
open PySem PySem.Spec PyProof.Rows L2 GxR

theorem runs_gens_le {M : Model} {Γ : PySem.Ctx} {p : Pos} {t : Sem Fin} {fs : List Frame} {s s' : Shared} {e : End} (h : Runs M Γ p t fs s e s') : s.gens.size ≤ s'.gens.size := by
  induction h <;> (try simp only [Shared.setGen, Array.size_push, Array.size_setIfInBounds] at *) <;> omega

theorem wakes_gens_le {M : Model} {Γ : PySem.Ctx} {p : Pos} {g : Nat} {r : Resume} {s s' : Shared} {res : GenResult} (h : Wakes M Γ p g r s res s') : s.gens.size ≤ s'.gens.size := by
  have sz : ∀ (z : Shared) x, (z.setGen g x).gens.size = z.gens.size := fun z x => by simp [Shared.setGen]
  unfold Wakes at h
  split at h
  · exact h.elim
  · split at h
    · obtain ⟨e₁, s₁, hr, _, _, rfl⟩ := h
      rw [sz]; exact (sz s .running) ▸ runs_gens_le hr
    · obtain ⟨_, rfl⟩ := h; first | exact Nat.le_refl _ | (rw [sz]; exact Nat.le_refl _)
    · obtain ⟨_, rfl⟩ := h; first | exact Nat.le_refl _ | (rw [sz]; exact Nat.le_refl _)
  · obtain ⟨e₁, s₁, hr, _, _, rfl⟩ := h
    rw [sz]; exact (sz s .running) ▸ runs_gens_le hr
  · obtain ⟨_, rfl⟩ := h; exact Nat.le_refl _
  · obtain ⟨_, rfl⟩ := h; exact Nat.le_refl _

theorem wp_gens {α : Type} (M : Model) (Γ : PySem.Ctx) (n : Nat) (t : Sem α) : ∀ (Q : α → Pos → Shared → Prop) (E : Value → Pos → Shared → Prop) (p : Pos) (s : Shared), n ≤ s.gens.size → Sem.wp M Γ t Q E p s →
    Sem.wp M Γ t (fun a p' s' => n ≤ s'.gens.size ∧ Q a p' s') (fun e p' s' => n ≤ s'.gens.size ∧ E e p' s') p s := by
  induction t with
  | pure a => intro Q E p s hn h; exact ⟨hn, h⟩
  | raise e => intro Q E p s hn h; exact ⟨hn, h⟩
  | unsupported _ => intro Q E p s _ h; exact h
  | finish _ => intro Q E p s _ h; exact h
  | rule _ k ih => intro Q E p s hn h; exact ih () Q E p s hn h
  | «at» p' k ih => intro Q E p s hn h; exact ih () Q E p' s hn h
  | load a _ k ih => intro Q E p s hn h; obtain ⟨o, ho, h⟩ := h; exact ⟨o, ho, ih o Q E p s hn h⟩
  | update a _ f k ih => intro Q E p s hn h; exact ⟨h.1, ih () Q E p _ hn h.2⟩
  | loadIfAlive a k ih => intro Q E p s hn h; exact ih _ Q E p s hn h
  | point _ k ih => intro Q E p s hn h; exact ih () Q E p s hn h
  | register _ _ => intro Q E p s _ h; exact h
  | alloc o k ih => intro Q E p s hn h; exact ih _ Q E p _ hn h
  | fresh k ih => intro Q E p s hn h; exact ih _ Q E p _ hn h
  | ask k ih => intro Q E p s hn h; exact ih _ Q E p s hn h
  | choose src m k ih => intro Q E p s hn h; exact ⟨h.1, ih _ Q E p _ hn h.2⟩
  | os q _ k ih => intro Q E p s hn h; exact ih _ Q E p _ hn h
  | call c hd _ _ k ih => intro Q E p s hn h; obtain ⟨r, s', hr, h⟩ := h; exact ⟨r, s', hr, ih r Q E p s' (Nat.le_trans hn (runs_gens_le hr)) h⟩
  | handled own k ih => intro Q E p s hn h; exact ih _ Q E p s hn h
  | genState g k ih => intro Q E p s hn h; obtain ⟨st, hs, h⟩ := h; exact ⟨st, hs, ih _ Q E p s hn h⟩
  | newGen c k ih => intro Q E p s hn h; exact ih _ Q E p _ (by show n ≤ (s.gens.push _).size; rw [Array.size_push]; exact Nat.le_succ_of_le hn) h
  | resume g r _ k ih => intro Q E p s hn h; obtain ⟨res, s', hw, h⟩ := h; exact ⟨res, s', hw, ih res Q E p s' (Nat.le_trans hn (wakes_gens_le hw)) h⟩
  | yield _ _ _ _ => intro Q E p s _ h; exact h
  | stack k ih => intro Q E p s hn h; exact ih _ Q E p s hn h
  | fork _ _ => intro Q E p s _ h; exact h
  | thread k ih => intro Q E p s hn h; exact ih _ Q E p s hn h
  | await _ _ _ _ _ => intro Q E p s _ h; exact h

theorem wpAny_with_gens {α : Type} {M : Model} {A : Around} {s : Shared} {t : Sem α} {Q : α → Shared → Prop} {E : Value → Shared → Prop} {n : Nat} (hn : n ≤ s.gens.size)
    (h : wpAny M A t (fun a s' => n ≤ s'.gens.size → Q a s') (fun e s' => n ≤ s'.gens.size → E e s') s) : wpAny M A t Q E s :=
  wpAny_mono (Q := fun a s' => n ≤ s'.gens.size ∧ (n ≤ s'.gens.size → Q a s')) (E := fun e s' => n ≤ s'.gens.size ∧ (n ≤ s'.gens.size → E e s')) (fun Γ p hΓ => wp_gens M Γ n t _ _ p s hn (h Γ p hΓ)) (fun _ _ x => x.2 x.1) (fun _ _ x => x.2 x.1)

/-- the invariant speaks of the heap; the generators' array is bare -/
theorem inv_heap {X : Cx} {pins : List (Addr × Obj)} {σ : L2.St} {H : Hp} {s s' : Shared} (I : Inv X pins σ H s) (h : s'.heap = s.heap) (ho : s'.os = s.os) (hb : AllBare s'.gens) : Inv X pins σ H s' := by
  obtain ⟨h1, g1, d1, t1, o1⟩ := s
  obtain ⟨h2, g2, d2, t2, o2⟩ := s'
  obtain rfl : h2 = h1 := h
  obtain rfl : o2 = o1 := ho
  exact ⟨I.ok, I.os, hb, I.base, I.loc, I.cell, I.free, I.freeC, I.pin, I.hok, I.len⟩
theorem bare_set {s : Shared} {g : Nat} {x : GenState} (h : AllBare s.gens) (hx : x.bare = true) : AllBare (s.setGen g x).gens := by
  intro y hy
  have hy : y ∈ s.gens.setIfInBounds g x := hy
  obtain ⟨i, hi, e⟩ := Array.mem_iff_getElem.mp hy
  have hi2 : i < s.gens.size := by simpa using hi
  rw [Array.getElem_setIfInBounds hi2] at e
  split at e
  · rw [← e]; exact hx
  · rw [← e]; exact h _ (Array.getElem_mem _)
end GX
namespace GX
open PySem PySem.Spec PyProof.Rows L2 GxR

/-- the context of a generator's body -/
abbrev gCx (X : Cx) (s : Shared) (H : Hp) (ce : Env) (fp : List Addr) (A' : Around) : Cx := { X with s_0 := s, H_0 := H, env := ce, outer := X.stack, stack := ce :: X.stack, ex := fp, fn := fun _ => false, pn := [], xe := fun _ _ => False, A := A' }

section
variable {X : Cx} {pins : List (Addr × Obj)} {σ : L2.St} {H : Hp} {s : Shared}
theorem gen_start {scope : Scope} {own : List (Str × Nat)} {fp : List Addr} {code : Value} {ce : Env} {a : Addr} {go : Obj} {A' : Around} {s' : Shared} {m : Str → Option Value} (I : Inv X pins σ H s) (ok : BlkOk X.N X.env.scope scope own) (nc : ∀ y ∈ scope.names, y.2 ≠ .cell)
    (hN : X.N.Nodup) (hfp : ∀ b ∈ fp, FpOk X pins H b ∧ b < s.heap.objs.size) (hd : X.calm = true → A'.handled = none) (hfr : A'.frames = some (ce :: X.stack))
    (hce : ce = genEnv scope (cloFrom X.env.cells scope.names []) s.heap.objs.size code builtinsNs X.env) (kp : ∀ b o, s.heap.get? b = some o → s'.heap.get? b = some o) (hns : s'.heap.Ns s.heap.objs.size m)
    (hgo : s'.heap.get? a = some go) (hga : s.heap.objs.size < a) (hgd : ∀ v, go.data ≠ .cell v) (hos : s'.os = s.os) (hb : AllBare s'.gens) :
    Inv (gCx X s H ce fp A') [(a, go)] (wipe σ (own.map (·.2))) H s' := by
  have hfree : ∀ y ∈ scope.names, y.2 = .free → ∃ c, X.env.cells.lookup y.1 = some c := fun y hy e => by
    rcases ok.free y hy e with k | k
    · exact I.ok.has _ (.inl k)
    · exact I.ok.has _ (.inr k)
  have hL : ce.locals = s.heap.objs.size := by rw [hce]; rfl
  have hcl : ce.cells = cloFrom X.env.cells scope.names [] := by rw [hce]; rfl
  have hsc : ce.scope = scope := by rw [hce]; rfl
  have hfm : ce.frame = some ce.locals := by rw [hce]; rfl
  have cm : ∀ {y c}, ce.cells.lookup y = some c → X.env.cells.lookup y = some c ∧ c < s.heap.objs.size := fun {y c} e => by
    rw [hcl] at e
    rcases cloFrom_mem (PySem.mem_of_lookup e) with hm | ⟨h1, rfl⟩
    · cases hm
    · obtain ⟨c, hc⟩ := hfree _ h1 rfl
      rw [hc]
      obtain ⟨w, z⟩ := I.cell _ _ hc
      exact ⟨rfl, z.lt⟩
  have look : ∀ {y}, scope.names.lookup y = some .free → ∃ c, ce.cells.lookup y = some c ∧ X.env.cells.lookup y = some c := fun {y} hl => by
    have hy : (y, NameKind.free) ∈ scope.names := PySem.mem_of_lookup hl
    obtain ⟨c', e'⟩ := mem_lookup (cloFrom_has (cells := X.env.cells) (acc := []) hy)
    rw [← hcl] at e'
    exact ⟨c', e', (cm e').1⟩
  have stk : ∀ b ∈ frs X.stack, b < s.heap.objs.size := fun b hb => by
    obtain ⟨_, o, ho, _⟩ := I.stack.mem hb
    exact Heap.lt_size ho
  have okB : (gCx X s H ce fp A').Ok := by
    refine ⟨I.ok.mod, by show ce.scope.kind = _; rw [hsc]; exact ok.kind, by show ce.globals = _; rw [hce]; exact I.ok.glob, by show ce.builtins = _; rw [hce]; rfl, by show s.heap.objs.size ≤ ce.locals; rw [hL]; exact Nat.le_refl _,
      fun y z c e1 e2 => I.ok.inj y z c (cm e1).1 (cm e2).1, fun y hy => ?_, fun y c z e => (by cases z), hd, hfr, .inr ⟨rfl, hfm⟩, fun b hb => ⟨?_, fun y c e z => (hfp b hb).1.2.2.2.2.1 y c (cm e).1 z⟩, I.bs, Nat.le_trans I.ok.bsz I.sz, fun b o e hb => ?_, fun b hb z => ?_, I.stack, I.stkFree⟩
    · show ∃ c, ce.cells.lookup y = some c
      have hy : ce.scope.names.lookup y = some .cell ∨ ce.scope.names.lookup y = some .free := hy
      rw [hsc] at hy
      rcases hy with hy | hy
      · exact absurd rfl (nc _ (PySem.mem_of_lookup hy))
      · obtain ⟨c, h1, _⟩ := look hy
        exact ⟨c, h1⟩
    · show b ≠ ce.locals
      rw [hL]; exact Nat.ne_of_lt (hfp b hb).2
    · rcases (hfp b hb).1.2.2.2.1 with z | z
      · exact I.ok.noex b o e z
      · exact absurd (Nat.lt_of_lt_of_le (Heap.lt_size e) (Nat.le_trans I.ok.bsz z)) (Nat.lt_irrefl _)
    · rcases List.mem_cons.mp (I.stkSub b z) with z | z
      · exact (hfp b hb).1.2.1 z
      · exact (hfp b hb).1.2.2.1 z
  refine ⟨okB, hos, hb, Un.kept kp, ⟨m, ?_, fun i y av e1 e2 e3 => ?_⟩, fun y c e => ?_, ?_, fun y c e => I.freeC y c (cm e).1, fun p hp => ?_, I.hok.kept kp, by rw [wipe_length]; exact I.len⟩
  · show Heap.Ns _ ce.locals _
    rw [hL]
    exact hns
  · obtain ⟨e2, hne⟩ := wipe_some e2
    have e3 : Vis ce.scope y := e3
    rw [hsc] at e3
    have no : ∀ k, scope.names.lookup y = some k → ¬ (k = .local ∨ k = .cell) := fun k e hh => by
      rcases ok.own _ (PySem.mem_of_lookup e) hh with e' | e'
      · obtain ⟨p, hp, hpy⟩ := List.mem_map.mp e'
        have e3 := ok.ix p hp
        have : p.1 = y := hpy
        rw [this] at e3
        exact hne (List.mem_map.mpr ⟨p, hp, nodup_ix hN e3 e1⟩)
      · exact e' (List.mem_of_getElem? e1)
    have hfr : scope.names.lookup y = some .free := by
      rcases e3 with e3 | e3 | e3
      · exact absurd (.inl rfl) (no _ e3)
      · exact absurd (.inr rfl) (no _ e3)
      · exact e3
    obtain ⟨m, hn, hl⟩ := I.loc
    have hvis : Vis X.env.scope y := (ok.free _ (PySem.mem_of_lookup hfr) rfl).elim (fun k => .inr (.inl k)) (fun k => .inr (.inr k))
    obtain ⟨w, r, q⟩ := hl i y av e1 e2 hvis
    obtain ⟨c, h1, h2⟩ := look hfr
    refine ⟨w, r, .inr ⟨.inr (show ce.scope.names.lookup y = _ by rw [hsc]; exact hfr), c, h1, ?_⟩⟩
    rcases q with ⟨k, _⟩ | ⟨_, c', e', z⟩
    · have k : X.env.scope.names.lookup y = some .local := k
      rcases ok.free _ (PySem.mem_of_lookup hfr) rfl with k' | k' <;> rw [show X.env.scope.names.lookup y = _ from k'] at k <;> cases k
    · rw [h2] at e'; cases e'
      exact z.keeps kp
  · obtain ⟨w, z⟩ := I.cell y c (cm e).1
    exact ⟨w, z.keeps kp⟩
  · show H ce.locals = none
    rw [hL]; exact I.hok.fresh (Nat.le_refl _)
  · have hp : p ∈ [] ++ [(a, go)] := hp
    have e : p = (a, go) := by simpa using hp
    subst e
    refine ⟨hgo, I.hok.fresh (Nat.le_of_lt hga), ?_, fun z => ?_, hgd⟩
    · show a ≠ ce.locals
      rw [hL]; exact Nat.ne_of_gt hga
    · exact absurd (Nat.lt_trans (stk a z) hga) (Nat.lt_irrefl _)
end

/-- what is wanted of a walk: W by the turn and a measure; d: the item that ends it -/
def Wk (d : Bool) (J : It) (g : TG) (tt : TT) (te : TE) (vs : List Nat) (σ : L2.St) (W : Nat → Nat → Hp → Prop) (Qe Qd : Hp → Prop) : Prop := ∀ i m H, W i m H →
  (J.stop i H ∧ Qe H) ∨ (J.go i H ∧ ∃ Nx : Hp → Prop, (∀ H', Nx H' → ∃ m', m' < m ∧ W (i + 1) m' H') ∧ ∀ x H', J.yld i H x H' → g x (wipe σ vs) H' fun σ2 H2 => wipe σ2 vs = wipe σ vs ∧ tt σ2 H2 fun b H3 =>
    if b = true then te σ2 H3 fun y H4 => ∃ c, y = .bl c ∧ if c = d then Qd H4 else Nx H4 else Nx H3)

section
variable {Y : Cx} {A : Around} {σ : L2.St} {vs : List Nat} {a : Addr} {go : Obj}
def YE (Y : Cx) (a : Addr) (go : Obj) (ws : L2.St) (Qe : Hp → Prop) (s : Shared) : Prop := ∃ H, Inv Y [(a, go)] ws H s ∧ Qe H
def YP (d : Bool) (Y : Cx) (a : Addr) (go : Obj) (ws : L2.St) (Qd : Hp → Prop) : Protocol := fun _ _ v s kap =>
  ∃ c H, v = .bool c ∧ Inv Y [(a, go)] ws H s ∧ if c = d then Qd H else ∀ s'' : Shared, s''.heap = s.heap → s''.os = s.os → AllBare s''.gens → kap (.send .none) s''
abbrev YR (Y : Cx) (a : Addr) (go : Obj) (ws : L2.St) (Qe : Hp → Prop) : GenEnd := fun n s₀ r s₁ => r = .ok .next ∧ (fun (_ : Nat) (_ s₁ : Shared) => YE Y a go ws Qe s₁) n s₀ s₁

theorem seg_gl {d : Bool} {tg elt iter : Expr} {ifs : List Expr} {scope : Scope} {pos : Pos} {it : Addr} {fp : List Addr} {tn : Nat → Heap → Prop} {J : It} {g : TG} {tt : TT} {te : TE} {W : Nat → Nat → Hp → Prop} {Qe Qd : Hp → Prop}
    (hA : Y.A = A.over (.compLoop (.GeneratorExp elt [⟨tg, iter, ifs, 0⟩] scope pos) 0 (.ref it) .none Y.env) []) (hc : Y.calm = true) (hco : Y.env.scope.isCoroutine = false) (T : Turn Y.prog Y.w Y.K tg J fp it tn)
    (hx : Y.ex = fp) (hpn : Y.pn = []) (hafp : a ∉ fp) (pg : PG Y tg g) (pt : PTs Y ifs tt) (pe : PE Y elt te) (hW : Wk d J g tt te vs σ W Qe Qd) (hxe : Y.xe = fun _ _ => False) :
    ∀ (m n : Nat), m < n → ∀ (i : Nat) (H : Hp) (s₀ s : Shared), Inv Y [(a, go)] (wipe σ vs) H s → tn i s.heap → (∀ b ∈ fp, H b = none) → W i m H →
      Seg (model Y.prog Y.w) A (YR Y a go (wipe σ vs) Qe) (YP d Y a go (wipe σ vs) Qd) n s₀
        (.compLoop (.GeneratorExp elt [⟨tg, iter, ifs, 0⟩] scope pos) 0 (.ref it) .none Y.env)
        ((model Y.prog Y.w).den (.compLoop (.GeneratorExp elt [⟨tg, iter, ifs, 0⟩] scope pos) 0 (.ref it) .none Y.env)) [] s := by
  intro m
  induction m using Nat.strongRecOn with
  | _ m ih =>
  intro n hmn i H s₀ s I st nf w
  have stat : ∀ {ps : List (Addr × Obj)} {σ' : L2.St} {H' : Hp} {s' : Shared}, Inv Y [(a, go)] σ' H' s' → (∀ b ∈ fp, H' b = none) → ∀ b ∈ fp, FpOk Y [(a, go)] H' b := fun {ps σ' H' s'} I' hn b hb =>
    ⟨hn b hb, (I'.ok.exf b (hx ▸ hb)).1, I'.ok.exfs b (hx ▸ hb), .inl (hx ▸ hb), fun x c e => (I'.ok.exf b (hx ▸ hb)).2 x c e, fun p hp => by
      rw [hpn] at hp
      have e : p = (a, go) := by simpa using hp
      rw [e]
      exact fun z => hafp (by rw [show a = b from z]; exact hb)⟩
  show Seg _ A _ _ _ s₀ _ ((compTurn (.GeneratorExp elt [⟨tg, iter, ifs, 0⟩] scope pos) 0 (.ref it) .none Y.env).onRaise (leaving Y.env)) [] s
  rw [compTurn_gen, Sem.onRaise_eq_wrap]
  refine seg_bind_wrap (wpAny_standAt ?_)
  rcases hW i m H w with ⟨stop, qe⟩ | ⟨go1, Nx, hNx, step⟩
  · refine seg_bind_wrap ?_
    rw [← hA]
    refine thnF (T.done Y rfl rfl rfl hc i _ s _ H (fun _ _ => False) I (stat (ps := []) I nf) st stop) fun r s1 ⟨hr, I1⟩ => ?_
    subst hr
    exact seg_end (.ok .next) ⟨rfl, H, I1, qe⟩
  · refine seg_bind_wrap ?_
    rw [← hA]
    refine thnF (T.item Y rfl rfl rfl hc i _ s _ H (fun _ _ => False) I (stat (ps := []) I nf) st go1) fun r s1 ⟨u, hr, h1⟩ => ?_
    subst hr
    refine seg_bind_wrap ?_
    rw [← hA]
    refine thnF h1 fun _ s2 ⟨x, H2, I2, r2, y2, st2, n2⟩ => ?_
    have I2' := I2.pinned (stat (ps := []) I2 n2) (T.obj _ _ st2)
    have pg1 := pg.run _ s2 _ H2 x u _ I2' r2 (step x H2 y2)
    rw [hxe] at pg1
    refine seg_bind_wrap ?_
    rw [← hA]
    refine thnF pg1 fun _ s3 ⟨σ3, H3, I3, hw3, q3⟩ => ?_
    have pt1 := pt.run _ s3 σ3 H3 _ I3 q3
    rw [hxe] at pt1
    refine seg_bind_wrap ?_
    rw [← hA]
    refine thnF pt1 fun b s4 ⟨H4, I4, q4⟩ => ?_
    -- the turn's end
    have fin : ∀ {s' : Shared} {H' : Hp}, Inv Y ([(a, go)] ++ pinsAt fp s2.heap) σ3 H' s' → Inv Y [(a, go)] (wipe σ vs) H' s' ∧ tn (i + 1) s'.heap ∧ (∀ b ∈ fp, H' b = none) := fun {s' H'} I' => by
      have pin' : ∀ b ∈ fp, ∀ o, s2.heap.get? b = some o → s'.heap.get? b = some o ∧ H' b = none := fun b hb o e =>
        let z := I'.pin (b, o) (List.mem_append_right _ (List.mem_append_right _ (mem_pinsAt hb e)))
        ⟨z.1, z.2.1⟩
      have hl : (wipe σ vs).length = σ3.length := by rw [← hw3, wipe_length]
      refine ⟨(I'.unpinned (pins := [(a, go)])).weak hl (fun j v e => ?_), T.keep _ _ _ st2 fun b hb o e => (pin' b hb o e).1, fun b hb => ?_⟩
      · rw [← hw3] at e
        exact (wipe_some e).1
      · obtain ⟨o, e, _⟩ := T.obj _ _ st2 b hb
        exact (pin' b hb o e).2
    cases b with
    | false =>
      simp only [Bool.false_eq_true, if_false] at q4 ⊢
      obtain ⟨m', hm, w'⟩ := hNx H4 q4
      obtain ⟨J1, J2, J3⟩ := fin I4
      exact seg_again rfl (ih m' hm n (by omega) (i + 1) H4 s₀ s4 J1 J2 J3 w')
    | true =>
      simp only [if_true] at q4 ⊢
      have hy : ∀ v, yieldOut Y.env v = yieldValue v := fun v => by simp only [yieldOut, hco, Bool.false_eq_true, if_false]
      simp only [hy]
      have pe1 := pe.run _ s4 σ3 H4 _ I4 q4
      rw [hxe] at pe1
      rw [Sem.bind_eq_wrap', Sem.bind_eq_wrap', Sem.wrap_wrap, Sem.wrap_wrap]
      refine seg_wrap ?_
      rw [← hA]
      refine thnF pe1 fun z s5 ⟨y, H5, I5, r5, c, ec, q5⟩ => ?_
      subst ec
      cases r5
      obtain ⟨J1, J2, J3⟩ := fin I5
      by_cases hcd : c = d
      · rw [if_pos hcd] at q5
        obtain ⟨n, rfl⟩ : ∃ k, n = k + 1 := ⟨n - 1, by omega⟩
        exact seg_at (seg_yield rfl rfl rfl ⟨c, H5, rfl, J1, by rw [if_pos hcd]; exact q5⟩)
      · rw [if_neg hcd] at q5
        obtain ⟨m', hm, w'⟩ := hNx H5 q5
        obtain ⟨n, rfl⟩ : ∃ k, n = k + 1 := ⟨n - 1, by omega⟩
        refine seg_at (seg_yield rfl rfl rfl ⟨c, H5, rfl, J1, ?_⟩)
        rw [if_neg hcd]
        intro s'' h1 h2 h3
        exact seg_again rfl (ih m' hm n (by omega) (i + 1) H5 s'' s'' (inv_heap J1 h1 h2 h3) (by rw [h1]; exact J2) J3 w')
end
end GX
namespace GX
open PySem PySem.Spec PyProof.Rows L2 GxR

section
variable {Y : Cx} {A : Around} {σ : L2.St} {vs : List Nat} {a : Addr} {go : Obj}
theorem seg_gs {d : Bool} {tg elt iter : Expr} {ifs : List Expr} {scope : Scope} {pos : Pos} {it : Addr} {fp : List Addr} {tn : Nat → Heap → Prop} {J : It} {g : TG} {tt : TT} {te : TE} {W : Nat → Nat → Hp → Prop} {Qe Qd : Hp → Prop}
    (hA : Y.A = A.over (.compLoop (.GeneratorExp elt [⟨tg, iter, ifs, 0⟩] scope pos) 0 (.ref it) .none Y.env) []) (hc : Y.calm = true) (hco : Y.env.scope.isCoroutine = false) (T : Turn Y.prog Y.w Y.K tg J fp it tn)
    (hx : Y.ex = fp) (hpn : Y.pn = []) (hafp : a ∉ fp) (pg : PG Y tg g) (pt : PTs Y ifs tt) (pe : PE Y elt te) (hW : Wk d J g tt te vs σ W Qe Qd) (hxe : Y.xe = fun _ _ => False)
    (m : Nat) (H : Hp) (s₀ s : Shared) (I : Inv Y [(a, go)] (wipe σ vs) H s) (st : tn 0 s.heap) (nf : ∀ b ∈ fp, H b = none) (w : W 0 m H) :
      Seg (model Y.prog Y.w) A (YR Y a go (wipe σ vs) Qe) (YP d Y a go (wipe σ vs) Qd) (m + 1) s₀
        (.compStart (.GeneratorExp elt [⟨tg, iter, ifs, 0⟩] scope pos) 0 (.ref it) .none Y.env)
        ((model Y.prog Y.w).den (.compStart (.GeneratorExp elt [⟨tg, iter, ifs, 0⟩] scope pos) 0 (.ref it) .none Y.env)) [] s := by
  have loop := seg_gl (iter := iter) (scope := scope) (pos := pos) hA hc hco T hx hpn hafp pg pt pe hW hxe m (m + 1) (Nat.lt_succ_self m) 0 H s₀ s I st nf w
  show Seg _ A _ _ _ s₀ _ ((compStart (.GeneratorExp elt [⟨tg, iter, ifs, 0⟩] scope pos) 0 (.ref it) .none Y.env).onRaise (leaving Y.env)) [] s
  unfold compStart
  rw [Sem.onRaise_eq_wrap]
  show Seg _ A _ _ _ s₀ _ ((ask >>= _).wrap _ _ _ _) [] s
  refine seg_bind_wrap (wpAny_askSetting ?_)
  split
  · exact seg_again rfl loop
  · first
      | exact seg_bind_wrap (wpAny_rule (seg_bind_wrap (wpAny_standAt (seg_bind_wrap (T.self _ 0 s _ _ st (seg_again rfl loop))))))
      | (refine seg_bind_wrap (wpAny_rule ?_); show Seg _ A _ _ _ s₀ _ ((standAt iter.pos >>= _).wrap _ _ _ _) [] s; exact seg_bind_wrap (wpAny_standAt (seg_bind_wrap (T.self _ 0 s _ _ st (seg_again rfl loop)))))

/-- the loop of all(..) -/
theorem loop_all {prog : Program} {w : World} {gn : Nat} {ws : L2.St} {Qe Qd : Hp → Prop} {Rr : Result → Shared → Prop} (hh : A.handled = none) (hroom : A.depth < recursionLimit) (hgo : ∀ h : Heap, h.get? a = some go → h.IsGen a gn)
    (hT : ∀ s₁ h', YE Y a go ws Qe s₁ → (∀ b o, s₁.heap.get? b = some o → h'.get? b = some o) → Rr (.ok (.ret (.bool true))) { s₁.setGen gn .finished with heap := h' })
    (hF : ∀ s₁ gs' H, gs'.bare = true → Inv Y [(a, go)] ws H s₁ → Qd H → Rr (.ok (.ret (.bool false))) (s₁.setGen gn gs')) :
    ∀ (n : Nat) (s : Shared) (gs : GenState), s.heap.get? a = some go → s.heap.NoLimit → AllBare s.gens → s.gens[gn]? = some gs →
      (∀ s'' : Shared, s''.heap = s.heap → s''.os = s.os → AllBare s''.gens → gs.Goes (model prog w) A.in1.in1 (YR Y a go ws Qe) (YP false Y a go ws Qd) n (.send .none) s'') →
      codeAny (model prog w) A (.builtin "all.loop" ⟨[.ref a], []⟩) Rr s := by
  intro n
  induction n with
  | zero =>
    intro s gs hg hl hb hgs hgoes
    refine codeAny_builtin F.entry_all_loop ?_
    rw [Around.under_plainId F.plain_all_loop _]
    show wpAny _ A.in1 (pyNext (.ref a) >>= _) _ _ s
    refine wpAny_bind (wpAny_pyNext_genexpQ (P := fun _ _ s₁ => YE Y a go ws Qe s₁) hh hl hroom (hgo _ hg) hgs (hgoes _ rfl rfl (bare_set hb rfl)) (fun v s₁ gs' hb' hv => ?_) (fun s₁ hp h' hk => ?_))
    · obtain ⟨c, H, rfl, I, q⟩ := hv
      cases c with
      | false =>
        rw [if_pos rfl] at q
        refine wpAny_bind (wpAny_holding (wpAny_truthy_bool (wpAny_bind (wpAny_letGo ?_))))
        refine wpAny_bind (wpAny_rule (wpAny_pure ?_))
        exact hF s₁ gs' H hb' I q
      | true =>
        rw [if_neg (by decide)] at q
        exact (q s₁ rfl rfl I.bare).elim
    · refine wpAny_bind (wpAny_rule (wpAny_pure ?_))
      exact hT s₁ h' hp hk
  | succ n ih =>
    intro s gs hg hl hb hgs hgoes
    have hlt : gn < s.gens.size := by
      rcases Nat.lt_or_ge gn s.gens.size with h' | h'
      · exact h'
      · rw [Array.getElem?_eq_none h'] at hgs; cases hgs
    refine codeAny_builtin F.entry_all_loop ?_
    rw [Around.under_plainId F.plain_all_loop _]
    show wpAny _ A.in1 (pyNext (.ref a) >>= _) _ _ s
    refine wpAny_bind (wpAny_with_gens (Nat.le_refl s.gens.size) (wpAny_pyNext_genexpQ (P := fun _ _ s₁ => YE Y a go ws Qe s₁) hh hl hroom (hgo _ hg) hgs (hgoes _ rfl rfl (bare_set hb rfl)) (fun v s₁ gs' hb' hv => ?_) (fun s₁ hp h' hk => ?_)))
    · intro hsz
      have hsz : s.gens.size ≤ s₁.gens.size := by
        have z : s.gens.size ≤ (s₁.setGen gn gs').gens.size := hsz
        simpa [Shared.setGen] using z
      obtain ⟨c, H, rfl, I, q⟩ := hv
      cases c with
      | false =>
        rw [if_pos rfl] at q
        refine wpAny_bind (wpAny_holding (wpAny_truthy_bool (wpAny_bind (wpAny_letGo ?_))))
        refine wpAny_bind (wpAny_rule (wpAny_pure ?_))
        exact hF s₁ gs' H hb' I q
      | true =>
        rw [if_neg (by decide)] at q
        refine wpAny_bind (wpAny_holding (wpAny_truthy_bool (wpAny_bind (wpAny_letGo ?_))))
        refine wpAny_pure ⟨plainId_quiet F.plain_all_loop _, ih (s₁.setGen gn gs') gs' ?_ ?_ (bare_set I.bare hb') ?_ fun s'' h1 h2 h3 => q s'' h1 h2 h3⟩
        · exact (I.pin (a, go) (List.mem_append_right _ (List.mem_singleton.mpr rfl))).1
        · exact I.nolimit
        · show (s₁.gens.setIfInBounds gn gs')[gn]? = some gs'
          rw [Array.getElem?_setIfInBounds_self_of_lt (Nat.lt_of_lt_of_le hlt hsz)]
    · intro _
      refine wpAny_bind (wpAny_rule (wpAny_pure ?_))
      exact hT s₁ h' hp hk

/-- the loop of any(..) -/
theorem loop_any {prog : Program} {w : World} {gn : Nat} {ws : L2.St} {Qe Qd : Hp → Prop} {Rr : Result → Shared → Prop} (hh : A.handled = none) (hroom : A.depth < recursionLimit) (hgo : ∀ h : Heap, h.get? a = some go → h.IsGen a gn)
    (hT : ∀ s₁ h', YE Y a go ws Qe s₁ → (∀ b o, s₁.heap.get? b = some o → h'.get? b = some o) → Rr (.ok (.ret (.bool false))) { s₁.setGen gn .finished with heap := h' })
    (hF : ∀ s₁ gs' H, gs'.bare = true → Inv Y [(a, go)] ws H s₁ → Qd H → Rr (.ok (.ret (.bool true))) (s₁.setGen gn gs')) :
    ∀ (n : Nat) (s : Shared) (gs : GenState), s.heap.get? a = some go → s.heap.NoLimit → AllBare s.gens → s.gens[gn]? = some gs →
      (∀ s'' : Shared, s''.heap = s.heap → s''.os = s.os → AllBare s''.gens → gs.Goes (model prog w) A.in1.in1 (YR Y a go ws Qe) (YP true Y a go ws Qd) n (.send .none) s'') →
      codeAny (model prog w) A (.builtin "any.loop" ⟨[.ref a], []⟩) Rr s := by
  intro n
  induction n with
  | zero =>
    intro s gs hg hl hb hgs hgoes
    refine codeAny_builtin F.entry_any_loop ?_
    rw [Around.under_plainId F.plain_any_loop _]
    show wpAny _ A.in1 (pyNext (.ref a) >>= _) _ _ s
    refine wpAny_bind (wpAny_pyNext_genexpQ (P := fun _ _ s₁ => YE Y a go ws Qe s₁) hh hl hroom (hgo _ hg) hgs (hgoes _ rfl rfl (bare_set hb rfl)) (fun v s₁ gs' hb' hv => ?_) (fun s₁ hp h' hk => ?_))
    · obtain ⟨c, H, rfl, I, q⟩ := hv
      cases c with
      | true =>
        rw [if_pos rfl] at q
        refine wpAny_bind (wpAny_holding (wpAny_truthy_bool (wpAny_bind (wpAny_letGo ?_))))
        refine wpAny_bind (wpAny_rule (wpAny_pure ?_))
        exact hF s₁ gs' H hb' I q
      | false =>
        rw [if_neg (by decide)] at q
        exact (q s₁ rfl rfl I.bare).elim
    · refine wpAny_bind (wpAny_rule (wpAny_pure ?_))
      exact hT s₁ h' hp hk
  | succ n ih =>
    intro s gs hg hl hb hgs hgoes
    have hlt : gn < s.gens.size := by
      rcases Nat.lt_or_ge gn s.gens.size with h' | h'
      · exact h'
      · rw [Array.getElem?_eq_none h'] at hgs; cases hgs
    refine codeAny_builtin F.entry_any_loop ?_
    rw [Around.under_plainId F.plain_any_loop _]
    show wpAny _ A.in1 (pyNext (.ref a) >>= _) _ _ s
    refine wpAny_bind (wpAny_with_gens (Nat.le_refl s.gens.size) (wpAny_pyNext_genexpQ (P := fun _ _ s₁ => YE Y a go ws Qe s₁) hh hl hroom (hgo _ hg) hgs (hgoes _ rfl rfl (bare_set hb rfl)) (fun v s₁ gs' hb' hv => ?_) (fun s₁ hp h' hk => ?_)))
    · intro hsz
      have hsz : s.gens.size ≤ s₁.gens.size := by
        have z : s.gens.size ≤ (s₁.setGen gn gs').gens.size := hsz
        simpa [Shared.setGen] using z
      obtain ⟨c, H, rfl, I, q⟩ := hv
      cases c with
      | true =>
        rw [if_pos rfl] at q
        refine wpAny_bind (wpAny_holding (wpAny_truthy_bool (wpAny_bind (wpAny_letGo ?_))))
        refine wpAny_bind (wpAny_rule (wpAny_pure ?_))
        exact hF s₁ gs' H hb' I q
      | false =>
        rw [if_neg (by decide)] at q
        refine wpAny_bind (wpAny_holding (wpAny_truthy_bool (wpAny_bind (wpAny_letGo ?_))))
        refine wpAny_pure ⟨plainId_quiet F.plain_any_loop _, ih (s₁.setGen gn gs') gs' ?_ ?_ (bare_set I.bare hb') ?_ fun s'' h1 h2 h3 => q s'' h1 h2 h3⟩
        · exact (I.pin (a, go) (List.mem_append_right _ (List.mem_singleton.mpr rfl))).1
        · exact I.nolimit
        · show (s₁.gens.setIfInBounds gn gs')[gn]? = some gs'
          rw [Array.getElem?_setIfInBounds_self_of_lt (Nat.lt_of_lt_of_le hlt hsz)]
    · intro _
      refine wpAny_bind (wpAny_rule (wpAny_pure ?_))
      exact hT s₁ h' hp hk
end

theorem room_over {k : Nat} {A : Around} {elt : Expr} {gs : List Comprehension} {scope : Scope} {pos : Pos} {it acc : Value} {ce : Env} (hr : Room (k + 1) A) : Room k (A.in1.in1.over (.compLoop (.GeneratorExp elt gs scope pos) 0 it acc ce) []) := by
  have h1 := hr.hd
  have h2 := hr.dp
  have h3 := hr.un
  have w : (Code.compLoop (.GeneratorExp elt gs scope pos) 0 it acc ce).weight = 1 := rfl
  have u : (Code.compLoop (.GeneratorExp elt gs scope pos) 0 it acc ce).cUnits = 3 := rfl
  refine ⟨h1, ?_, ?_⟩
  · show A.depth + 0 + _ + 3 * k + 5 < _
    rw [w]; omega
  · show A.units + 1 + 1 + 0 + _ + 16 * k + 200 < _
    rw [u]; omega
theorem frames_over {A : Around} {elt : Expr} {gs : List Comprehension} {scope : Scope} {pos : Pos} {it acc : Value} {ce : Env} {l : List Env} (hf : A.frames = some l) : (A.in1.in1.over (.compLoop (.GeneratorExp elt gs scope pos) 0 it acc ce) []).frames = some (ce :: l) := by
  show pushEnvs [ce] (pushEnvs [] A.frames) = _
  rw [hf]; rfl
end GX
namespace GX
open PySem PySem.Spec PyProof.Rows L2 GxR

/-- a generator expression's names, code, table -/
structure GenX (X : Cx) (scope : Scope) (own : List (Str × Nat)) (c P : Addr) : Prop where
  ok : BlkOk X.N X.env.scope scope own
  nc : ∀ y ∈ scope.names, y.2 ≠ .cell
  co : scope.isCoroutine = false
  dot : scope.names.lookup (".0" : Str) = some NameKind.local
  tb : TabB X.base X.mg c P
  code : X.env.code = .ref c

abbrev gEnv (X : Cx) (scope : Scope) (C : Addr) (code : Value) : Env := genEnv scope (cloFrom X.env.cells scope.names []) C code builtinsNs X.env

section
variable {X : Cx} {pins : List (Addr × Obj)} {σ : L2.St} {H : Hp} {s : Shared}
/-- the generator is made -/
def GReady (d : Bool) (X : Cx) (pins : List (Addr × Obj)) (σ : L2.St) (Qe Qd : Hp → Prop) (u : Value) (s5 : Shared) : Prop :=
  ∃ (a : Addr) (gn : Nat) (go : Obj) (Y : Cx) (ws : L2.St) (n : Nat) (gs : GenState), u = .ref a ∧ (∀ h : Heap, h.get? a = some go → h.IsGen a gn) ∧ s5.heap.get? a = some go ∧ s5.heap.NoLimit ∧ AllBare s5.gens ∧ s5.gens[gn]? = some gs ∧
    (∀ s'' : Shared, s''.heap = s5.heap → s''.os = s5.os → AllBare s''.gens → gs.Goes (model X.prog X.w) X.A.in1.in1 (YR Y a go ws Qe) (YP d Y a go ws Qd) n (.send .none) s'') ∧
    (∀ s₁ H s', Inv Y [(a, go)] ws H s₁ → s'.os = s₁.os → (∀ b o, s₁.heap.get? b = some o → s'.heap.get? b = some o) → AllBare s'.gens → Inv X pins σ H s')

theorem gen_makeG {d : Bool} {tg elt iter : Expr} {ifs : List Expr} {scope : Scope} {own : List (Str × Nat)} {gpos : Pos} {c P : Addr} {wi : TI} {g : TG} {tt : TT} {te : TE} {k : Nat} {Qe Qd : Hp → Prop}
    (hr : Room (k + 1) X.A) (hc : X.calm = true) (hN : X.N.Nodup) (G : GenX X scope own c P) (hs : ∀ v, genFold iter X.env v = pure v) (hi : PI X tg iter wi)
    (hg : ∀ (s : Shared) (H : Hp) (C : Addr) (code : Value) (fp : List Addr) (A' : Around), Room k A' → PG (gCx X s H (gEnv X scope C code) fp A') tg g)
    (ht : ∀ (s : Shared) (H : Hp) (C : Addr) (code : Value) (fp : List Addr) (A' : Around), Room k A' → PTs (gCx X s H (gEnv X scope C code) fp A') ifs tt)
    (he : ∀ (s : Shared) (H : Hp) (C : Addr) (code : Value) (fp : List Addr) (A' : Around), Room k A' → PE (gCx X s H (gEnv X scope C code) fp A') elt te)
    (I : Inv X pins σ H s)
    (h : wi σ H fun J H1 => TabG H1 P ∧ ∀ H2, Tabbed P H1 H2 → ∃ W : Nat → Nat → Hp → Prop, (∃ m, W 0 m H2) ∧ Wk d J g tt te (own.map (·.2)) σ W Qe Qd) :
    wpAny (model X.prog X.w) X.A (eval (.GeneratorExp elt [⟨tg, iter, ifs, 0⟩] scope gpos) X.env) (GReady d X pins σ Qe Qd) X.xe s := by
  have ok := G.ok
  have hfree : ∀ y ∈ scope.names, y.2 = .free → ∃ c, X.env.cells.lookup y.1 = some c := fun y hy e => by
    rcases ok.free y hy e with k | k
    · exact I.ok.has _ (.inl k)
    · exact I.ok.has _ (.inr k)
  have dp := hr.dp
  refine wpAny_GeneratorExp_make G.co (closure_ok hfree) G.nc G.dot ok.kind (by omega) (thn (hi.run pins s σ H _ I h) fun xv s1 hx => thn hx fun itv s2 h2 => ?_) hs
  obtain ⟨it, fp, tn, J, H1, e, I1, T, st1, f1, ⟨ps, hP, hps⟩, q⟩ := h2
  subst e
  refine ⟨I1.nolimit, ?_⟩
  have tb0 : s2.heap.get? P = some { cls := .none, data := .fields ps } := I1.hok P _ hP
  have code1 : PySem.W.CodeHd s2.heap c P := G.tb.code.keeps fun b o e => I1.bk b o e
  have rest : ∀ (code : Value) (h3 : Heap) (tk : Nat) (ps3 : Array Value), Heap.ExtBut P s2.heap h3 → s2.heap.objs.size ≤ h3.objs.size → h3.get? P = some { cls := .none, data := .fields ps3 } →
      (∃ q, ps3 = ps ++ q) → TriplesOk ps3.toList →
      wpAny (model X.prog X.w) X.A (builtinsFor X.env.globals X.env.builtins) (fun bi s4 => ∀ h', h'.Ns s4.heap.objs.size (fun y => if y = ".0" then some (Value.ref it) else none) → Heap.SameBut s4.heap.objs.size (s4.heap.push { cls := .type "frame", data := .dict #[] }) h' →
          GReady d X pins σ Qe Qd (.ref h'.objs.size) { s4 with
            gens := s4.gens.push (.fresh (.compStart (.GeneratorExp elt [⟨tg, iter, ifs, 0⟩] scope gpos) 0 (.ref it) .none (genEnv scope (cloFrom X.env.cells scope.names []) s4.heap.objs.size code bi X.env))),
            toks := s4.toks + 1 + 1 + 1,
            heap := h'.push { cls := .type "generator", data := .fields #[.int s4.gens.size 0, .str "<genexpr>" (s4.toks + 1), .str (X.env.qual ++ "<genexpr>") (s4.toks + 1 + 1)] } }) X.xe { s2 with heap := h3, toks := tk } := by
    intro code h3 tk ps3 ext le3 tb3 ⟨qq, hq⟩ ok3
    obtain ⟨bm, om, m1, m2, m3, m4, m5, m6, m7, m8⟩ := G.tb.bm
    have k3 : ∀ b o, b ≠ P → s2.heap.get? b = some o → h3.get? b = some o := fun b o ne e => ext b o ne e
    refine wpAny_builtinsFor (m := X.mg) ?_ m1 m2 (k3 _ _ m4 (I1.bk _ _ m5)) m6 m7 m8 ?_
    · rw [I1.ok.glob]
      exact (I1.mod.glob.keeps I1.bk).extBut ext G.tb.gP
    rw [hq] at tb3
    have I4 : Inv X pins σ (upd H1 P (.tbl (ps ++ qq))) { s2 with heap := h3, toks := tk } := inv_tab (g' := s2.gens) (d' := s2.drawn) (t' := tk) I1 hP k3 tb3 I1.bare
    generalize hH4 : upd H1 P (.tbl (ps ++ qq)) = H4 at I4
    have TbG : Tabbed P H1 H4 := by
      subst hH4
      exact ⟨⟨ps ++ qq, upd_same, by rw [← hq]; exact ok3⟩, fun b ne => upd_ne ne⟩
    have nP : ∀ b ∈ fp, b ≠ P := fun b hb z => by
      have := (f1 b hb).1
      rw [z, hP] at this
      cases this
    have sz : ∀ b ∈ fp, b < s2.heap.objs.size := fun b hb => by
      obtain ⟨o, e, _⟩ := T.obj _ _ st1 b hb
      exact Heap.lt_size e
    have f4 : ∀ b ∈ fp, FpOk X pins H4 b ∧ b < h3.objs.size := fun b hb =>
      ⟨⟨by rw [TbG.2 b (nP b hb)]; exact (f1 b hb).1, (f1 b hb).2⟩, Nat.lt_of_lt_of_le (sz b hb) le3⟩
    have st3 : tn 0 h3 := T.keep _ _ _ st1 fun b hb o e => k3 b o (nP b hb) e
    obtain ⟨W, ⟨m0, w0⟩, hW⟩ := q H4 TbG
    generalize hs4 : ({ s2 with heap := h3, toks := tk } : Shared) = s4 at I4 ⊢
    have hh4 : s4.heap = h3 := by rw [← hs4]
    have f4 : ∀ b ∈ fp, FpOk X pins H4 b ∧ b < s4.heap.objs.size := by rw [hh4]; exact f4
    have st4 : tn 0 s4.heap := by rw [hh4]; exact st3
    intro h' hn' hs'
    have hsz : h'.objs.size = s4.heap.objs.size + 1 := by rw [hs'.1, Heap.size_push]
    have keep' : ∀ b o, s4.heap.get? b = some o → h'.get? b = some o := fun b o e => hs'.extBut b o (Nat.ne_of_lt (Heap.lt_size e)) (Heap.get?_push_of_some _ e)
    generalize hgo : ({ cls := .type "generator", data := .fields #[.int s4.gens.size 0, .str "<genexpr>" (s4.toks + 1), .str (X.env.qual ++ "<genexpr>") (s4.toks + 1 + 1)] } : Obj) = go
    have gog : ∀ h : Heap, h.get? h'.objs.size = some go → h.IsGen h'.objs.size s4.gens.size := fun h e => by
      rw [← hgo] at e
      exact ⟨_, _, _, e, rfl, rfl, rfl⟩
    have keep5 : ∀ b o, s4.heap.get? b = some o → (h'.push go).get? b = some o := fun b o e => Heap.get?_push_of_some _ (keep' b o e)
    have gfree : go.isFreed = false := by rw [← hgo]; rfl
    have hgoAt : (h'.push go).get? h'.objs.size = some go := Heap.get?_push_size _ gfree
    generalize hce : genEnv scope (cloFrom X.env.cells scope.names []) s4.heap.objs.size code builtinsNs X.env = ce
    generalize hA' : X.A.in1.in1.over (.compLoop (.GeneratorExp elt [⟨tg, iter, ifs, 0⟩] scope gpos) 0 (.ref it) .none ce) [] = A'
    have rm : Room k A' := by rw [← hA']; exact room_over hr
    have fr : A'.frames = some (ce :: X.stack) := by rw [← hA']; exact frames_over I1.ok.frames
    have bare5 : ∀ (x : GenState), x.bare = true → AllBare (s4.gens.push x) := fun x hx => I4.bare.push hx
    have I5 : ∀ (gs : Array GenState) (tk5 : Nat), AllBare gs → Inv (gCx X s4 H4 ce fp A') [(h'.objs.size, go)] (wipe σ (own.map (·.2))) H4 { s4 with gens := gs, toks := tk5, heap := h'.push go } := fun gs tk5 hb =>
      gen_start (X := X) (s := s4) (H := H4) (scope := scope) (own := own) (code := code) (m := fun y => if y = ".0" then some (Value.ref it) else none) I4 ok G.nc hN f4 (fun _ => rm.hd) fr hce.symm keep5 (hn'.push _) hgoAt (by rw [hsz]; exact Nat.lt_succ_self _) (fun v z => by rw [← hgo] at z; cases z) rfl hb
    have pg := hg s4 H4 s4.heap.objs.size code fp A' rm
    have pt := ht s4 H4 s4.heap.objs.size code fp A' rm
    have pe := he s4 H4 s4.heap.objs.size code fp A' rm
    have hce' : gEnv X scope s4.heap.objs.size code = ce := hce
    rw [hce'] at pg pt pe
    have cco : ce.scope.isCoroutine = false := by rw [← hce]; exact G.co
    refine ⟨h'.objs.size, s4.gens.size, go, gCx X s4 H4 ce fp A', wipe σ (own.map (·.2)), m0 + 1, _, rfl, gog, hgoAt, I4.nolimit.keeps keep5, bare5 _ rfl, Array.getElem?_push_size .., fun s'' h1 h2 h3' => ⟨rfl, ?_⟩, fun s₁ H' s' I6 ho kk hb => ?_⟩
    · refine seg_gs (Y := gCx X s4 H4 ce fp A') (fp := fp) (tn := tn) (J := J) (W := W) hA'.symm hc cco T rfl rfl (fun z => ?_) pg pt pe hW rfl m0 H4 s'' s'' (inv_heap (I5 (s4.gens.push .finished) 0 (bare5 _ rfl)) h1 h2 h3') ?_ (fun b hb => (f4 b hb).1.1) w0
      · have z2 : h'.objs.size < s4.heap.objs.size := (f4 _ z).2
        rw [hsz] at z2
        exact absurd z2 (by omega)
      · rw [h1]
        exact T.keep _ _ _ st4 fun b _ o e => keep5 b o e
    · exact I4.call' (ch := fp) (ho.trans I6.os) (Un.trans I6.base (Un.kept kk)) (I6.hok.kept kk) hb fun b hb => ⟨(f4 b hb).1.2.2.2.1, (f4 b hb).1.2.1, (f4 b hb).1.2.2.2.2.1, (f4 b hb).1.2.2.2.2.2⟩
  cases hcd : codeAmong gpos ps.toList with
  | some cv =>
    exact wpAny_genexprCode_hit G.code (code1.code tb0 hps) hcd (rest cv _ s2.toks ps (Heap.ExtBut.refl _ _) (Nat.le_refl _) tb0 ⟨#[], (Array.append_empty).symm⟩ hps)
  | none =>
    refine wpAny_genexprCodeX G.code (code1.code tb0 hps) (code1.tab tb0) hcd ?_
    intro c' h' tk ext ge lt isC _ tab' _
    obtain ⟨o1, v1, f1, f2, f3, f4, f5, f6, f7, f8, _, _, _, _, _, _, _, _, _, okT, _⟩ := isC
    exact rest _ h' tk _ ext (Nat.le_trans ge (Nat.le_of_lt lt)) tab'.2 ⟨_, rfl⟩ okT

/-- all(elt for tg in iter if ..), any(..): W by the turn and a measure -/
def tWalk (d : Bool) (P : Addr) (wi : TI) (g : TG) (tt : TT) (te : TE) (vs : List Nat) : TE := fun σ H Q => wi σ H fun J H1 => TabG H1 P ∧ ∀ H2, Tabbed P H1 H2 → ∃ W : Nat → Nat → Hp → Prop, (∃ m, W 0 m H2) ∧
  Wk d J g tt te vs σ W (fun H => Q (.bl (!d)) H) (fun H => Q (.bl d) H)

theorem pe_allG {tg elt iter : Expr} {ifs : List Expr} {scope : Scope} {own : List (Str × Nat)} {gpos p pos : Pos} {c P : Addr} {wi : TI} {g : TG} {tt : TT} {te : TE} {k : Nat}
    (hr : Room (k + 1) X.A) (hc : X.calm = true) (hN : X.N.Nodup) (hgl : Gl X "all") (hm : X.mg "all" = none) (G : GenX X scope own c P) (hi : PI X tg iter wi)
    (hg : ∀ (s : Shared) (H : Hp) (C : Addr) (code : Value) (fp : List Addr) (A' : Around), Room k A' → PG (gCx X s H (gEnv X scope C code) fp A') tg g)
    (ht : ∀ (s : Shared) (H : Hp) (C : Addr) (code : Value) (fp : List Addr) (A' : Around), Room k A' → PTs (gCx X s H (gEnv X scope C code) fp A') ifs tt)
    (he : ∀ (s : Shared) (H : Hp) (C : Addr) (code : Value) (fp : List Addr) (A' : Around), Room k A' → PE (gCx X s H (gEnv X scope C code) fp A') elt te)
    (hs : ∀ v, genFold iter X.env v = pure v)
    (hst : starEach [.GeneratorExp elt [⟨tg, iter, ifs, 0⟩] scope gpos] X.env = (false, eval (.GeneratorExp elt [⟨tg, iter, ifs, 0⟩] scope gpos) X.env) :: starEach [] X.env := by rfl) :
    PE X (.Call (.Name "all" p) [.GeneratorExp elt [⟨tg, iter, ifs, 0⟩] scope gpos] [] pos) (tWalk false P wi g tt te (own.map (·.2))) := by
  refine ⟨fun pins s σ H Q I h => ?_⟩
  refine wpAny_Call_Name_kw (ld_blt I hgl hm (show bootBuiltins "all" = some (.builtin "all") by decide +kernel) ?_)
  refine PyProof.Rows.callWith_builtin1 ?_ hst (by rfl)
  rw [hst]
  have dp := hr.dp
  refine Calls.spliced_cons (thn (gen_makeG (d := false) hr hc hN G hs hi hg ht he I h) fun u s5 R => ?_)
  obtain ⟨a, gn, go, Y, ws, n, gs, rfl, gog, hgo, hl, hb, hgs, goes, back⟩ := R
  refine Calls.spliced_nil (call_function_tree F.kind_all F.plain_all F.entry_all (F.args_all1 _) ?_)
  unfold Builtin.«all»
  refine wpAny_bind (m := oneArg "all" _) (wpAny_pure ?_)
  refine wpAny_bind (wpAny_pyIter_gen (gog _ hgo) (wpAny_pure ⟨plainId_quiet F.plain_all_loop _, loop_all (Y := Y) (go := go) (ws := ws) (Qe := fun H => Q (.bl (!false)) H) (Qd := fun H => Q (.bl false) H) hr.hd (by omega) gog (fun s₁ h' ⟨H', I', q⟩ hk => ?_) (fun s₁ gs' H' hb' I' q => ?_) n s5 gs hgo hl hb hgs goes⟩))
  · exact ⟨.bl false, H', back s₁ H' _ I' rfl (fun _ _ e => e) (bare_set I'.bare hb'), rfl, q⟩
  · exact ⟨.bl true, H', back s₁ H' _ I' rfl hk (bare_set I'.bare rfl), rfl, q⟩

theorem pe_anyG {tg elt iter : Expr} {ifs : List Expr} {scope : Scope} {own : List (Str × Nat)} {gpos p pos : Pos} {c P : Addr} {wi : TI} {g : TG} {tt : TT} {te : TE} {k : Nat}
    (hr : Room (k + 1) X.A) (hc : X.calm = true) (hN : X.N.Nodup) (hgl : Gl X "any") (hm : X.mg "any" = none) (G : GenX X scope own c P) (hi : PI X tg iter wi)
    (hg : ∀ (s : Shared) (H : Hp) (C : Addr) (code : Value) (fp : List Addr) (A' : Around), Room k A' → PG (gCx X s H (gEnv X scope C code) fp A') tg g)
    (ht : ∀ (s : Shared) (H : Hp) (C : Addr) (code : Value) (fp : List Addr) (A' : Around), Room k A' → PTs (gCx X s H (gEnv X scope C code) fp A') ifs tt)
    (he : ∀ (s : Shared) (H : Hp) (C : Addr) (code : Value) (fp : List Addr) (A' : Around), Room k A' → PE (gCx X s H (gEnv X scope C code) fp A') elt te)
    (hs : ∀ v, genFold iter X.env v = pure v)
    (hst : starEach [.GeneratorExp elt [⟨tg, iter, ifs, 0⟩] scope gpos] X.env = (false, eval (.GeneratorExp elt [⟨tg, iter, ifs, 0⟩] scope gpos) X.env) :: starEach [] X.env := by rfl) :
    PE X (.Call (.Name "any" p) [.GeneratorExp elt [⟨tg, iter, ifs, 0⟩] scope gpos] [] pos) (tWalk true P wi g tt te (own.map (·.2))) := by
  refine ⟨fun pins s σ H Q I h => ?_⟩
  refine wpAny_Call_Name_kw (ld_blt I hgl hm (show bootBuiltins "any" = some (.builtin "any") by decide +kernel) ?_)
  refine PyProof.Rows.callWith_builtin1 ?_ hst (by rfl)
  rw [hst]
  have dp := hr.dp
  refine Calls.spliced_cons (thn (gen_makeG (d := true) hr hc hN G hs hi hg ht he I h) fun u s5 R => ?_)
  obtain ⟨a, gn, go, Y, ws, n, gs, rfl, gog, hgo, hl, hb, hgs, goes, back⟩ := R
  refine Calls.spliced_nil (call_function_tree F.kind_any F.plain_any F.entry_any (F.args_any1 _) ?_)
  unfold Builtin.«any»
  refine wpAny_bind (m := oneArg "any" _) (wpAny_pure ?_)
  refine wpAny_bind (wpAny_pyIter_gen (gog _ hgo) (wpAny_pure ⟨plainId_quiet F.plain_any_loop _, loop_any (Y := Y) (go := go) (ws := ws) (Qe := fun H => Q (.bl (!true)) H) (Qd := fun H => Q (.bl true) H) hr.hd (by omega) gog (fun s₁ h' ⟨H', I', q⟩ hk => ?_) (fun s₁ gs' H' hb' I' q => ?_) n s5 gs hgo hl hb hgs goes⟩))
  · exact ⟨.bl true, H', back s₁ H' _ I' rfl (fun _ _ e => e) (bare_set I'.bare hb'), rfl, q⟩
  · exact ⟨.bl false, H', back s₁ H' _ I' rfl hk (bare_set I'.bare rfl), rfl, q⟩
end
end GX
namespace GX
open PySem PySem.Spec PyProof.Rows L2 GxR
/-! the walks of all(..), any(..) by an invariant -/
theorem wk_range {d : Bool} {lo : Int} {n : Nat} {g : TG} {tt : TT} {te : TE} {vs : List Nat} {σ : L2.St} {Qe Qd : Hp → Prop} {H0 : Hp} (Pv : Nat → Hp → Prop) (h0 : Pv 0 H0)
    (hs : ∀ i H, i < n → Pv i H → g (.int (lo + i)) (wipe σ vs) H fun σ2 H2 => wipe σ2 vs = wipe σ vs ∧ tt σ2 H2 fun b H3 =>
      if b = true then te σ2 H3 fun y H4 => ∃ c, y = .bl c ∧ if c = d then Qd H4 else Pv (i + 1) H4 else Pv (i + 1) H3) (hd : ∀ H, Pv n H → Qe H) :
    ∃ W : Nat → Nat → Hp → Prop, (∃ m, W 0 m H0) ∧ Wk d (Itr lo n) g tt te vs σ W Qe Qd := by
  refine ⟨fun i m H => m = n - i ∧ i ≤ n ∧ Pv i H, ⟨n, by simp, Nat.zero_le _, h0⟩, ?_⟩
  rintro i m H ⟨rfl, hi, p⟩
  by_cases hlt : i < n
  · refine .inr ⟨hlt, Pv (i + 1), fun H' p' => ⟨n - (i + 1), by omega, rfl, hlt, p'⟩, fun x H' y => ?_⟩
    obtain ⟨rfl, rfl⟩ := y
    exact hs i _ hlt p
  · have e : i = n := by omega
    subst e
    exact .inl ⟨Nat.le_refl _, hd H p⟩
theorem wk_list {d : Bool} {K : PySem.W.Frag} {a : Addr} {xs : List V} {g : TG} {tt : TT} {te : TE} {vs : List Nat} {σ : L2.St} {Qe Qd : Hp → Prop} {H0 : Hp} (Pv : Nat → Hp → Prop) (h0 : Pv 0 H0) (hl : ∀ i H, i ≤ xs.length → Pv i H → SqL K H a xs)
    (hs : ∀ i x H, xs[i]? = some x → Pv i H → g x (wipe σ vs) H fun σ2 H2 => wipe σ2 vs = wipe σ vs ∧ tt σ2 H2 fun b H3 =>
      if b = true then te σ2 H3 fun y H4 => ∃ c, y = .bl c ∧ if c = d then Qd H4 else Pv (i + 1) H4 else Pv (i + 1) H3) (hd : ∀ H, Pv xs.length H → Qe H) :
    ∃ W : Nat → Nat → Hp → Prop, (∃ m, W 0 m H0) ∧ Wk d (Itl K a) g tt te vs σ W Qe Qd := by
  refine ⟨fun i m H => m = xs.length - i ∧ i ≤ xs.length ∧ Pv i H, ⟨xs.length, by simp, Nat.zero_le _, h0⟩, ?_⟩
  rintro i m H ⟨rfl, hi, p⟩
  have q := hl i H hi p
  by_cases hlt : i < xs.length
  · refine .inr ⟨⟨xs, xs[i], q, by simp [hlt]⟩, Pv (i + 1), fun H' p' => ⟨xs.length - (i + 1), by omega, rfl, hlt, p'⟩, fun x H' y => ?_⟩
    obtain ⟨rfl, e⟩ := y
    exact hs i x _ (e xs q) p
  · have e : i = xs.length := by omega
    subst e
    exact .inl ⟨⟨xs, q, Nat.le_refl _⟩, hd H p⟩
end GX
/-! dicts keyed by tuples: del, truth, comprehensions; a dict comprehension whatever its keys are -/
namespace GX
open PySem PySem.Spec PyProof.Rows L2 GxR

section
variable {X : Cx}
theorem ktDrop {H : Hp} {kvs : List (List Key × V)} {xs : List (List Key × Addr × Value)} (k : List Key) (h : KT H kvs xs) : KT H (dropK kvs k) (withoutH xs k) := DX.KT_drop k h
/-- del d[y], keys tuples -/
def sDDelT (td ty : TE) : TS := fun D σ H => td σ H fun x H1 => ty σ H1 fun y H2 => ∃ (a : Addr) (kvs : List (List Key × V)) (k : List Key) (b : Addr), x = .ref a ∧ H2 a = some (.dT kvs) ∧ y = .ref b ∧ H2 b = some (.tup (k.map kV)) ∧ (valV kvs k).isSome = true ∧ D.nx σ (upd H2 a (.dT (dropK kvs k)))
theorem ps_ddelT {o i : Expr} {pos tpos : Pos} {td ty : TE} (hu : X.A.units + 1 < cLine) (ho : PE X o td) (hi : PE X i ty) : PS X (.Delete [.Subscript o i tpos] pos) (sDDelT td ty) := by
  refine ⟨fun pins s σ H D I h => ?_⟩
  refine wpAny_Delete (wpAny_deleteEach_cons (wpAny_delete_Subscript (thn (ho.run pins s σ H _ I h) fun u s1 ⟨x, H1, I1, rx, q1⟩ => thn (hi.run pins s1 σ H1 _ I1 q1) fun iv s2 ⟨y, H2, I2, ry, a, kvs, k, b, ex, e, ey, eb, l, q2⟩ => ?_)))
  subst ex ey
  obtain rfl : u = Value.ref a := rx
  obtain rfl : iv = Value.ref b := ry
  obtain ⟨z, hd, xs, rel, dd⟩ := dt_of I2.hok e
  have hz : xs.length ≤ sizeLine := by rw [← Paired.length rel]; exact z
  have r := rel.val k
  obtain ⟨v0, ev⟩ := Option.isSome_iff_exists.mp l
  obtain ⟨w', hw, _⟩ := RelO.some_of (v := v0) (o := (atKey xs k).map (·.2)) (by rw [← ev]; exact r)
  obtain ⟨p, hp, _⟩ := Option.map_eq_some_iff.mp hw
  refine wpAny_delItem_heap (hsz := hz) (tupleKind_room_in1 hu) (key_of I2.hok eb) hd dd hp fun h' dd' hs => ?_
  obtain ⟨q, es, ep, hq, h2, h3, h4, _, h5⟩ := dd'
  refine wpAny_deleteEach_nil ⟨σ, _, d_write (ob := .dT (dropK kvs k)) I2 (by rw [e]; exact True.intro) hs ⟨q, hq⟩ ⟨Nat.le_trans (dropK_le kvs k) z, hd, _, (ktDrop k rel).keeps fun c ys ec => ?_, q, es, ep, hq, h2, h3, h4, h5⟩, q2⟩
  rw [upd_ne (ne_of ec e (fun z => nomatch z))]
  exact ec
end
section
variable {prog : Program} {w : World} {κ : Type} [DecidableEq κ] {knd : HeapKind prog w κ} {A : Around} {E : Value → Shared → Prop} {s : Shared}
/-- the truth of a dict whose keys stand in the heap -/
theorem truthy_dictH {d : Addr} {xs : List (κ × Addr × Value)} {Q : Bool → Shared → Prop} (hd : (d == sysModules) = false) (hm : s.heap.DictOfH knd d xs) (hfit : (xs.length : Int) < 2 ^ 63)
    (h : Q (!xs.isEmpty) { s with toks := s.toks + 1 + 1 }) : wpAny (model prog w) A (truthy (.ref d)) Q E s := by
  have hne : ((xs.length : Int) != 0) = !xs.isEmpty := by cases xs <;> simp <;> omega
  have len : wpAny (model prog w) A (runValue (.builtin "len" ⟨[.ref d], []⟩)) (fun r s' => r = .int xs.length (s.toks + 1) ∧ Q (!xs.isEmpty) s') E s := by
    refine wpAny_runValue (codeAny_builtin entry_len ?_)
    rw [Around.under_plainId plain_len _]
    exact wpAny_mono (wpAny_len_body_dictH (Q := fun r s' => r = .int xs.length (s.toks + 1) ∧ Q (!xs.isEmpty) s') hd hm hfit ⟨rfl, h⟩) (fun fin s' ⟨r, e, q⟩ => by subst e; exact q) fun _ _ e => e
  have fin : ∀ (r : Value) (s' : Shared), (r = .int xs.length (s.toks + 1) ∧ Q (!xs.isEmpty) s') → wpAny (model prog w) A (match r with | .int n _ => pure (n != 0) | _ => pure true) Q E s' := fun r s' ⟨e, q⟩ => by
    subst e
    exact wpAny_pure (hne ▸ q)
  unfold truthy
  first
    | refine wpAny_bind (wpAny_callSpecial?_none (name := Str.ofString "__bool__") hm.typeIs noBool_dict ?_)
    | refine wpAny_bind (wpAny_pure (wpAny_bind (wpAny_callSpecial?_none (name := Str.ofString "__bool__") hm.typeIs noBool_dict ?_)))
  first
    | refine wpAny_bind (wpAny_specialOf (name := Str.ofString "__len__") hm.typeIs F.slot_dict_len.lookup ?_)
    | refine wpAny_bind (wpAny_pure (wpAny_bind (wpAny_specialOf (name := Str.ofString "__len__") hm.typeIs F.slot_dict_len.lookup ?_)))
  first
    | exact wpAny_bind (wpAny_mono len (fun r s' ⟨e, q⟩ => by subst e; exact wpAny_pure (hne ▸ q)) fun _ _ e => e)
    | exact wpAny_bind (wpAny_pure (wpAny_bind (wpAny_mono len (fun r s' ⟨e, q⟩ => by subst e; exact wpAny_pure (hne ▸ q)) fun _ _ e => e)))
end
section
variable {X : Cx}
def tTruT (ta : TE) : TT := fun σ H Q => ta σ H fun x H1 => ∃ (a : Addr) (kvs : List (List Key × V)), x = .ref a ∧ H1 a = some (.dT kvs) ∧ Q (!kvs.isEmpty) H1
theorem pt_truT {e : Expr} {ta : TE} (ha : PE X e ta) (he : ∀ whole, isTrue e X.env whole = (do let v ← whole; standAt e.pos; holding [v] (truthy v))) : PT X e (tTruT ta) := by
  refine ⟨fun pins s σ H Q I h => ?_⟩
  refine isTrue_plain (thn (ha.run pins s σ H _ I h) fun v s1 ⟨x, H1, I1, r1, a, kvs, ex, e1, q⟩ => ?_) (he _)
  subst ex
  obtain rfl : v = Value.ref a := r1
  obtain ⟨z, hd, xs, rel, dd⟩ := dt_of I1.hok e1
  have hl : kvs.length = xs.length := Paired.length rel
  have h63 := line63
  have ee : xs.isEmpty = kvs.isEmpty := by
    cases kvs with
    | nil => cases xs with
      | nil => rfl
      | cons _ _ => cases hl
    | cons _ _ => cases xs with
      | nil => cases hl
      | cons _ _ => rfl
  exact truthy_dictH hd dd (by omega) ⟨H1, I1.tok _, by rw [ee]; exact q⟩

/-! ### a dict comprehension: o0 the empty dict, put the reading of a store -/
def PutR (put : Addr → V → V → Hp → (Hp → Prop) → Prop) (X : Cx) : Prop := ∀ (pins : List (Addr × Obj)) (s : Shared) (σ : L2.St) (H : Hp) (D : Addr) (y z : V) (u r : Value) (N : Hp → Prop), Inv X pins σ H s → RelV y u → RelV z r → put D y z H N →
  wpAny (model X.prog X.w) X.A (dictSet D u r) (fun _ s' => ∃ H', Inv X pins σ H' s' ∧ N H') (fun _ _ => False) s
def tDg (o0 : Addr → HO) (put : Addr → V → V → Hp → (Hp → Prop) → Prop) (wi : TI) (g : TG) (tt : TT) (tk tv : TE) (vs : List Nat) : TE := fun σ H Q => wi σ H fun J H1 => ∀ D, H1 D = none → ∃ W : Nat → Nat → Hp → Prop, (∃ m, W 0 m (upd H1 D (o0 D))) ∧ ∀ i m H, W i m H →
  (J.stop i H ∧ Q (.ref D) H) ∨ (J.go i H ∧ ∃ Nx : Hp → Prop, (∀ H', Nx H' → ∃ m', m' < m ∧ W (i + 1) m' H') ∧ ∀ x H', J.yld i H x H' → g x (wipe σ vs) H' fun σ2 H2 => wipe σ2 vs = wipe σ vs ∧ tt σ2 H2 fun b H3 =>
    if b = true then tk σ2 H3 fun y H4 => tv σ2 H4 fun z H5 => put D y z H5 Nx else Nx H3)
theorem dg_core {o0 : Addr → HO} {put : Addr → V → V → Hp → (Hp → Prop) → Prop} {pins : List (Addr × Obj)} {s : Shared} {σ : L2.St} {H : Hp} {Q : VK} {kx vx tg iter : Expr} {ifs : List Expr} {scope : Scope} {own : List (Str × Nat)} {pos pos' : Pos} {wi : TI} {g : TG} {tt : TT} {tk tv : TE} {use : Option (Value → Sem Unit)} {Qf : Value → Shared → Prop}
    (he0 : ∀ (H : Hp) (h : Heap), sysModules < h.objs.size → ObjOk X.prog X.w H (h.push { cls := .type "dict", data := .dict #[] }) h.objs.size (o0 h.objs.size))
    (hc : X.calm = true) (hN : X.N.Nodup) (I : Inv X pins σ H s) (hi : PI X tg iter wi) (ok : BlkOk X.N X.env.scope scope own)
    (hg : ∀ (s : Shared) (H : Hp) (C : Addr) (cl : List (Str × Addr)) (fp : List Addr), PG (X.blk s H scope (compEnvC scope cl C X.env) fp) tg g) (ht : ∀ (s : Shared) (H : Hp) (C : Addr) (cl : List (Str × Addr)) (fp : List Addr), PTs (X.blk s H scope (compEnvC scope cl C X.env) fp) ifs tt)
    (hk : ∀ (s : Shared) (H : Hp) (C : Addr) (cl : List (Str × Addr)) (fp : List Addr), PE (X.blk s H scope (compEnvC scope cl C X.env) fp) kx tk)
    (he : ∀ (s : Shared) (H : Hp) (C : Addr) (cl : List (Str × Addr)) (fp : List Addr), PE (X.blk s H scope (compEnvC scope cl C X.env) fp) vx tv)
    (hp : ∀ (s : Shared) (H : Hp) (C : Addr) (cl : List (Str × Addr)) (fp : List Addr), PutR put (X.blk s H scope (compEnvC scope cl C X.env) fp)) (hs : ∀ x, foldedSetIterable iter X.env x = pure x)
    (h : tDg o0 put wi g tt tk tv (own.map (·.2)) σ H Q)
    (hRR : ∀ D C s' m H', Inv X pins σ H' s' → Q (.ref D) H' → s'.heap.Ns C m → FpOk X pins H' C → compPost (model X.prog X.w) X.A X.xe use Qf (.ref D) C (.ok .next) s') :
    wpAny (model X.prog X.w) X.A (comprehension (.DictComp kx vx [⟨tg, iter, ifs, 0⟩] scope pos) scope X.env pos' newDict false (eval iter X.env) use) Qf X.xe s := by
  have hfree : ∀ y ∈ scope.names, y.2 = .free → ∃ c, X.env.cells.lookup y.1 = some c := fun y hy e => (ok.free y hy e).elim (fun k => I.ok.has _ (.inl k)) fun k => I.ok.has _ (.inr k)
  refine wpAny_comprehension_free (use := use) rfl hs (closure_ok hfree) ok.kind (fun y hy e => by rw [ok.uniq y hy, e]) (thn (hi.run pins s σ H _ I h) fun xv s1 hx => thn hx fun itv s2 ⟨it, fp, tn, J, H2, e, I2, T, st2, f2, q⟩ => ?_)
  subst e
  refine wpAny_newObj_type (newEnv_comp ?_)
  obtain ⟨W, ⟨m0, w0⟩, turn⟩ := q s2.heap.objs.size (I2.hok.fresh (Nat.le_refl _))
  have I3 : Inv X pins σ (upd H2 s2.heap.objs.size (o0 s2.heap.objs.size)) { s2 with heap := s2.heap.push { cls := .type "dict", data := .dict #[] } } :=
    I2.laid (t' := s2.toks) (fun b o e => Heap.get?_push_of_some _ e) (Nat.le_refl _) (he0 _ _ I2.big)
  have f3 : ∀ b ∈ fp, FpOk X pins (upd H2 s2.heap.objs.size (o0 s2.heap.objs.size)) b ∧ b < (s2.heap.push { cls := .type "dict", data := .dict #[] }).objs.size := fun b hb => by
    obtain ⟨o, e, _⟩ := T.obj _ _ st2 b hb
    have hlt := Heap.lt_size e
    exact ⟨⟨by rw [upd_ne (Nat.ne_of_lt hlt)]; exact (f2 b hb).1, (f2 b hb).2⟩, by rw [Heap.size_push]; exact Nat.lt_succ_of_lt hlt⟩
  have st3 : tn 0 (s2.heap.push { cls := .type "dict", data := .dict #[] }) := T.keep _ _ _ st2 fun b _ o e => Heap.get?_push_of_some _ e
  generalize s2.heap.objs.size = D at I3 f3 w0 turn ⊢
  generalize hs3 : ({ s2 with heap := s2.heap.push { cls := .type "dict", data := .dict #[] } } : Shared) = s3 at I3 ⊢
  have h3 : s2.heap.push { cls := .type "dict", data := .dict #[] } = s3.heap := by rw [← hs3]
  rw [h3] at f3 st3
  have I4 := block_start I3 ok hN f3
  have pg := hg s3 (upd H2 D (o0 D)) s3.heap.objs.size (cellsFrom (s3.heap.objs.size + 1) scope.names (cloFrom X.env.cells scope.names [])) fp
  have pt := ht s3 (upd H2 D (o0 D)) s3.heap.objs.size (cellsFrom (s3.heap.objs.size + 1) scope.names (cloFrom X.env.cells scope.names [])) fp
  have pk := hk s3 (upd H2 D (o0 D)) s3.heap.objs.size (cellsFrom (s3.heap.objs.size + 1) scope.names (cloFrom X.env.cells scope.names [])) fp
  have pe := he s3 (upd H2 D (o0 D)) s3.heap.objs.size (cellsFrom (s3.heap.objs.size + 1) scope.names (cloFrom X.env.cells scope.names [])) fp
  have pp := hp s3 (upd H2 D (o0 D)) s3.heap.objs.size (cellsFrom (s3.heap.objs.size + 1) scope.names (cloFrom X.env.cells scope.names [])) fp
  show codeAny _ _ (.compStart (.DictComp kx vx [⟨tg, iter, ifs, 0⟩] scope pos) 0 (.ref it) (.ref D) (compEnvC scope (cellsFrom (s3.heap.objs.size + 1) scope.names (cloFrom X.env.cells scope.names [])) s3.heap.objs.size X.env)) (compPost (model X.prog X.w) X.A X.xe use Qf (.ref D) s3.heap.objs.size) { s3 with heap := pushCells (s3.heap.push { cls := .type "dict", data := .dict #[] }) scope.names }
  generalize hce : compEnvC scope (cellsFrom (s3.heap.objs.size + 1) scope.names (cloFrom X.env.cells scope.names [])) s3.heap.objs.size X.env = ce at I4 pg pt pk pe pp ⊢
  have cL : ce.locals = s3.heap.objs.size := by rw [← hce]; rfl
  have nfp : ∀ b ∈ fp, upd H2 D (o0 D) b = none := fun b hb => (f3 b hb).1.1
  generalize upd H2 D (o0 D) = H3 at I3 I4 pg pt pk pe pp w0 nfp f3
  have st4 : tn 0 (pushCells (s3.heap.push { cls := .type "dict", data := .dict #[] }) scope.names) := T.keep _ _ _ st3 fun b _ o e => pushCells_keeps _ _ _ _ (Heap.get?_push_of_some _ e)
  generalize hs4 : ({ s3 with heap := pushCells (s3.heap.push { cls := .type "dict", data := .dict #[] }) scope.names } : Shared) = s4 at I4 ⊢
  have st4 : tn 0 s4.heap := by rw [← hs4]; exact st4
  generalize hY : X.blk s3 H3 scope ce fp = Y at I4 pg pt pk pe pp
  have yx : Y.ex = fp ∧ Y.pn = [] ∧ Y.prog = X.prog ∧ Y.w = X.w ∧ Y.K = X.K ∧ Y.calm = true ∧ Y.A = X.A ∧ Y.env = ce ∧ Y.xe = (fun _ _ => False) ∧ Y.fs = frs X.stack ∧ Y.H_0 = H3 ∧ Y.s_0 = s3 := by
    rw [← hY]
    exact ⟨rfl, rfl, rfl, rfl, rfl, hc, rfl, rfl, rfl, rfl, rfl, rfl⟩
  obtain ⟨y1, y2, y3, y4, y5, y6, y7, y8, y9, y10, y11, y12⟩ := yx
  have T0 := T
  have T : Turn Y.prog Y.w Y.K tg J fp it tn := by rw [y3, y4, y5]; exact T
  have stat : ∀ {σ' : L2.St} {H' : Hp} {s' : Shared}, Inv Y [] σ' H' s' → (∀ b ∈ fp, H' b = none) → ∀ b ∈ fp, FpOk Y [] H' b := fun {σ' H' s'} I' hn b hb =>
    ⟨hn b hb, (I'.ok.exf b (y1 ▸ hb)).1, I'.ok.exfs b (y1 ▸ hb), .inl (y1 ▸ hb), fun x c e => (I'.ok.exf b (y1 ▸ hb)).2 x c e, fun p hp => by rw [y2] at hp; cases hp⟩
  have loop : codeAny (model X.prog X.w) X.A (.compLoop (.DictComp kx vx [⟨tg, iter, ifs, 0⟩] scope pos) 0 (.ref it) (.ref D) ce) (compPost (model X.prog X.w) X.A X.xe use Qf (.ref D) s3.heap.objs.size) s4 := by
    refine compLoop_anyD (fun n s' => ∃ i H', Inv Y [] (wipe σ (own.map (·.2))) H' s' ∧ tn i s'.heap ∧ (∀ b ∈ fp, H' b = none) ∧ W i n H') ?_ m0 ⟨0, H3, I4, st4, nfp, w0⟩
    rw [← y3, ← y4, ← y7, ← y8]
    rintro n s5 ⟨i, H5, I5, st5, n5, w5⟩
    rcases turn i n H5 w5 with ⟨stop, qq⟩ | ⟨go, Nx, hNx, step⟩
    · refine thnF (T.done Y rfl rfl rfl y6 i [] s5 _ H5 (fun _ _ => False) I5 (stat I5 n5) st5 stop) fun r s6 ⟨hr, I6⟩ => ?_
      subst hr
      have b6 := I6.base
      rw [y10, y1, y11, y12] at b6
      have o6 := I6.os
      rw [y12] at o6
      have k6 := I6.hok
      rw [y3, y4] at k6
      have I7 : Inv X pins σ H5 s6 := I3.call' (ch := fp) o6 b6 k6 I6.bare fun b hb => ⟨(f3 b hb).1.2.2.2.1, (f3 b hb).1.2.1, (f3 b hb).1.2.2.2.2.1, (f3 b hb).1.2.2.2.2.2⟩
      have nC : H5 s3.heap.objs.size = none := by
        have z := I6.free
        rw [y8, cL] at z
        exact z
      obtain ⟨m, hn, _⟩ := I6.loc
      rw [y8, cL] at hn
      show compPost _ _ _ _ _ _ _ _ _
      rw [y3, y4, y7]
      exact hRR D s3.heap.objs.size s6 m H5 I7 qq hn (I3.fpOk (Nat.le_refl _) nC)
    · refine thnF (T.item Y rfl rfl rfl y6 i [] s5 _ H5 (fun _ _ => False) I5 (stat I5 n5) st5 go) fun r s6 ⟨u, hr, h6⟩ => ?_
      subst hr
      refine thnF h6 fun _ s7 ⟨x, H7, I7, r7, yy, st7, n7⟩ => ?_
      have I7' := I7.pinned (stat I7 n7) (T.obj _ _ st7)
      have a1 := pg.run _ s7 _ H7 x u _ I7' r7 (step x H7 yy)
      rw [y9] at a1
      refine thnF a1 fun _ s8 ⟨σ8, H8, I8, hw8, q8⟩ => ?_
      have a2 := pt.run _ s8 σ8 H8 _ I8 q8
      rw [y9] at a2
      refine thnF a2 fun b s9 ⟨H9, I9, q9⟩ => ?_
      have fin : ∀ {s' : Shared} {H' : Hp}, Inv Y ([] ++ pinsAt fp s7.heap) σ8 H' s' → Nx H' → ∃ m, m < n ∧ ∃ i H', Inv Y [] (wipe σ (own.map (·.2))) H' s' ∧ tn i s'.heap ∧ (∀ b ∈ fp, H' b = none) ∧ W i m H' := fun {s' H'} I' nx => by
        obtain ⟨m', hm, w'⟩ := hNx H' nx
        have pin' : ∀ b ∈ fp, ∀ o, s7.heap.get? b = some o → s'.heap.get? b = some o ∧ H' b = none := fun b hb o e =>
          let z := I'.pin (b, o) (List.mem_append_right _ (List.mem_append_right _ (mem_pinsAt hb e)))
          ⟨z.1, z.2.1⟩
        refine ⟨m', hm, i + 1, H', (I'.unpinned (pins := [])).weak (by rw [← wipe_length σ8 (own.map (·.2)), hw8]) (fun j v e => ?_), T.keep _ _ _ st7 fun b hb o e => (pin' b hb o e).1, fun b hb => ?_, w'⟩
        · rw [← hw8] at e
          exact (wipe_some e).1
        · obtain ⟨o, e, _⟩ := T.obj _ _ st7 b hb
          exact (pin' b hb o e).2
      cases b with
      | false =>
        simp only [Bool.false_eq_true, if_false] at q9 ⊢
        exact fin I9 q9
      | true =>
        simp only [if_true] at q9 ⊢
        have a3 := pk.run _ s9 σ8 H9 _ I9 q9
        rw [y9] at a3
        refine thnF a3 fun z s10 ⟨yk, H10, I10, r10, q10⟩ => ?_
        have a4 := pe.run _ s10 σ8 H10 _ I10 q10
        rw [y9] at a4
        refine thnF a4 fun z2 s11 ⟨yv, H11, I11, r11, q11⟩ => ?_
        exact thnF (pp _ s11 σ8 H11 D yk yv z z2 Nx I11 r10 r11 q11) fun _ s12 ⟨H12, I12, nx⟩ => fin I12 nx
  exact codeAny_compStart_dict loop (T0.self X.A 0 _ _ _ st4 loop)
theorem pe_dg {o0 : Addr → HO} {put : Addr → V → V → Hp → (Hp → Prop) → Prop} {kx vx tg iter : Expr} {ifs : List Expr} {scope : Scope} {own : List (Str × Nat)} {pos : Pos} {wi : TI} {g : TG} {tt : TT} {tk tv : TE}
    (he0 : ∀ (H : Hp) (h : Heap), sysModules < h.objs.size → ObjOk X.prog X.w H (h.push { cls := .type "dict", data := .dict #[] }) h.objs.size (o0 h.objs.size)) (hc : X.calm = true) (hN : X.N.Nodup) (hi : PI X tg iter wi) (ok : BlkOk X.N X.env.scope scope own)
    (hg : ∀ (s : Shared) (H : Hp) (C : Addr) (cl : List (Str × Addr)) (fp : List Addr), PG (X.blk s H scope (compEnvC scope cl C X.env) fp) tg g) (ht : ∀ (s : Shared) (H : Hp) (C : Addr) (cl : List (Str × Addr)) (fp : List Addr), PTs (X.blk s H scope (compEnvC scope cl C X.env) fp) ifs tt)
    (hk : ∀ (s : Shared) (H : Hp) (C : Addr) (cl : List (Str × Addr)) (fp : List Addr), PE (X.blk s H scope (compEnvC scope cl C X.env) fp) kx tk)
    (he : ∀ (s : Shared) (H : Hp) (C : Addr) (cl : List (Str × Addr)) (fp : List Addr), PE (X.blk s H scope (compEnvC scope cl C X.env) fp) vx tv)
    (hp : ∀ (s : Shared) (H : Hp) (C : Addr) (cl : List (Str × Addr)) (fp : List Addr), PutR put (X.blk s H scope (compEnvC scope cl C X.env) fp)) (hs : ∀ x, foldedSetIterable iter X.env x = pure x := by intro _; rfl) :
    PE X (.DictComp kx vx [⟨tg, iter, ifs, 0⟩] scope pos) (tDg o0 put wi g tt tk tv (own.map (·.2))) := by
  refine ⟨fun pins s σ H Q I h => ?_⟩
  rw [arm_eval_DictComp]
  refine dg_core he0 hc hN I hi ok hg ht hk he hp hs h fun D C s' m H' I' q hn ⟨f0, f1, f2, f3, f4, f5⟩ => ⟨m, hn, fun h'' sb => ?_⟩
  exact ⟨.ref D, H', I'.turned (t' := s'.toks) (fun b o hb e => (sb.2 b hb).trans e) f0 f1 f3 f4 f5, rfl, q⟩
theorem sw_dict {kx vx : Expr} {gs : List Comprehension} {scope : Scope} {pos py : Pos} {y : Str} {l : Nat} {env : Env} (hk : env.scope.kind = .function) (hy : env.scope.names.lookup y = some .local) (hl : (py.line == pos.line) = true)
    (ha : (scope.names.any fun (n, k) => n == y && (k == .local || k == .cell)) = false) : swapsWith (.DictComp kx vx gs scope pos) (some (.Name y py)) l env = pure true := by
  have h1 : env.kindOf y = some .local := hy
  have h2 : env.blockKind = .function := by unfold Env.blockKind; rw [hk]; rfl
  unfold swapsWith
  simp only [h2, h1, ha, Expr.pos, hl]
  rfl
/-- name = {..} on one line, the name a local -/
theorem ps_setDg {o0 : Addr → HO} {put : Addr → V → V → Hp → (Hp → Prop) → Prop} {i : Nat} {y : Str} {py : Pos} {kx vx tg iter : Expr} {ifs : List Expr} {scope : Scope} {own : List (Str × Nat)} {pos spos : Pos} {wi : TI} {g : TG} {tt : TT} {tk tv : TE}
    (he0 : ∀ (H : Hp) (h : Heap), sysModules < h.objs.size → ObjOk X.prog X.w H (h.push { cls := .type "dict", data := .dict #[] }) h.objs.size (o0 h.objs.size)) (hc : X.calm = true) (hN : X.N.Nodup) (hy : X.N[i]? = some y) (hyl : X.env.scope.names.lookup y = some .local)
    (hsw : swapsWith (.DictComp kx vx [⟨tg, iter, ifs, 0⟩] scope pos) (some (.Name y py)) spos.line X.env = pure true) (hi : PI X tg iter wi) (ok : BlkOk X.N X.env.scope scope own)
    (hg : ∀ (s : Shared) (H : Hp) (C : Addr) (cl : List (Str × Addr)) (fp : List Addr), PG (X.blk s H scope (compEnvC scope cl C X.env) fp) tg g) (ht : ∀ (s : Shared) (H : Hp) (C : Addr) (cl : List (Str × Addr)) (fp : List Addr), PTs (X.blk s H scope (compEnvC scope cl C X.env) fp) ifs tt)
    (hk : ∀ (s : Shared) (H : Hp) (C : Addr) (cl : List (Str × Addr)) (fp : List Addr), PE (X.blk s H scope (compEnvC scope cl C X.env) fp) kx tk)
    (he : ∀ (s : Shared) (H : Hp) (C : Addr) (cl : List (Str × Addr)) (fp : List Addr), PE (X.blk s H scope (compEnvC scope cl C X.env) fp) vx tv)
    (hp : ∀ (s : Shared) (H : Hp) (C : Addr) (cl : List (Str × Addr)) (fp : List Addr), PutR put (X.blk s H scope (compEnvC scope cl C X.env) fp)) (hs : ∀ x, foldedSetIterable iter X.env x = pure x := by intro _; rfl) :
    PS X (.Assign [.Name y py] (.DictComp kx vx [⟨tg, iter, ifs, 0⟩] scope pos) spos) (tAsg (tDg o0 put wi g tt tk tv (own.map (·.2))) (gName i)) := by
  refine ⟨fun pins s σ H D I h => ?_⟩
  rw [exec_Assign_Name_used _ _ _ _ hsw]
  refine wpAny_bind (wpAny_standAt (wpAny_bind ?_))
  show wpAny _ X.A (do let _ ← comprehension (.DictComp kx vx [⟨tg, iter, ifs, 0⟩] scope pos) scope X.env (firstIterPos [⟨tg, iter, ifs, 0⟩] pos) newDict false (eval iter X.env) (some (assign (.Name y py) X.env))) _ _ s
  have h : tDg o0 put wi g tt tk tv (own.map (·.2)) σ H (fun x H1 => gName i x σ H1 D.nx) := h
  refine wpAny_bind (thn (dg_core (Qf := fun _ s' => SP X pins D .next s') he0 hc hN I hi ok hg ht hk he hp hs h fun L C s' m H' I' q hn ⟨f0, f1, f2, f3, f4, f5⟩ => ?_) fun _ s' hq => wpAny_pure (wpAny_pure hq))
  show wpAny _ _ (assign (.Name y py) X.env (.ref L)) _ _ _
  refine wpAny_assign_Name (store_ok2 (v := V.ref L) I' hN hy (.inl hyl) rfl (fun s2 I2 ⟨a, sb, ha⟩ => ?_) (.inr hyl))
  have haC : C ≠ a := ha.elim (fun z => by rw [z]; exact f1) fun z e => f4 y a z e.symm
  exact ⟨m, hn.sameBut sb haC, fun h3 sb3 => ⟨_, H', I2.turned (t' := s2.toks) (fun b o hb e => (sb3.2 b hb).trans e) f0 f1 f3 f4 f5, q⟩⟩
/-- keys tuples of ints and texts -/
def putT (D : Addr) (y z : V) (H : Hp) (N : Hp → Prop) : Prop := ∃ (kvs : List (List Key × V)) (k : List Key) (b : Addr), y = .ref b ∧ H b = some (.tup (k.map kV)) ∧ H D = some (.dT kvs) ∧ kvs.length < sizeLine ∧ N (upd H D (.dT (putK kvs k z)))
theorem putR_T {Y : Cx} (hu : Y.A.units < cLine) : PutR putT Y := by
  intro pins s σ H D y z u r N I ry rz ⟨kvs, k, b, ey, eb, e, l, n⟩
  subst ey
  obtain rfl : u = Value.ref b := ry
  obtain ⟨zz, hd, xs, rel, dd⟩ := dt_of I.hok e
  have hz : xs.length ≤ sizeLine := by rw [← Paired.length rel]; exact zz
  have hl : (putK kvs k z).length ≤ sizeLine := by have := length_putK kvs k z; omega
  refine wpAny_dictSet_heap (hsz := hz) hu (key_of I.hok eb) dd fun h' dd' hs => ⟨_, ?_, n⟩
  obtain ⟨q, es, ep, hq, h2, h3, h4, _, h5⟩ := dd'
  refine d_write I (by rw [e]; exact True.intro) hs ⟨q, hq⟩ ⟨hl, hd, _, (rel.put k eb rz).keeps fun c ys ec => ?_, q, es, ep, hq, h2, h3, h4, h5⟩
  rw [upd_ne (ne_of ec e (fun z => nomatch z))]
  exact ec
end
end GX
/-! repr in a law's body: a def that is called by the caller alone, and the law's end for it -/
namespace GX
open PySem PySem.Spec PyProof.Rows L2 GxR
/-- repr(x), x plain data of lists and tuples -/
def rRepr (K : PySem.W.Frag) : List V → Hp → VK → Prop := fun xs H Q => ∃ (p : Addr) (d : PyData), xs = [.ref p] ∧ Dp K H (.ref p) d ∧ d.showable = true ∧ d.hasDict = false ∧ d.depth ≤ 60 ∧ d.shown.length ≤ sizeLine ∧ Q (.str d.shown) H
theorem cr_repr {X : Cx} (hg : X.A.guards = some []) (hu : X.A.units + 64 < cLine) : CallR X (.builtin "repr") (rRepr X.K) := by
  intro pins s σ H xs us Q I r ⟨p, d, ex, hd, h1, h2, h3, h4, q⟩
  subst ex
  obtain ⟨u, rfl, rx⟩ := vals1 r
  obtain ⟨as, rd⟩ := Dp.reads I d (.ref p) u hd rx
  obtain rfl : u = Value.ref p := rx
  exact repr_of_reads' (hsz := h4) rd h1 (fun z => by rw [h2] at z; cases z) hg (by omega) (fun _ _ e => e) fun h' u tk hk => ⟨.str d.shown, H, I.kept (t' := tk) hk, ⟨u, rfl⟩, q⟩
/-- what a def does when the caller calls it -/
structure FnC (P : Program) (w : World) (K : PySem.W.Frag) (mg : Str → Option Value) (base : Heap) (f : Addr) (fd : FuncData) (ps : List Str) (sp : Sp) : Prop where
  run : ∀ (s : Shared) (H : Hp) (args : Args) (us : List Value) (vs : List V) (Q : VK) (E : XK), Env0 P w K mg base callerA [] s H → BindsTo s fd args (ps.zip us) → Vals vs us → sp vs H Q E →
    codeAny (model P w) callerA (.call (.ref f) args) (CR CX0 [] P w H s Q E) s
theorem fn_C {P : Program} {w : World} {K : PySem.W.Frag} {mg : Str → Option Value} {base : Heap} {k : Nat} {f : Addr} {name qual : Str} {params : Arguments} {body : List Stmt} {scope : Scope} {dV kV doc pm cdv ct oc : Value} {an od : Option Addr}
    {osl : Array (Option Value)} {N ps : List Str} {sp : Sp} (hk : Room (k + 1) callerA) (lk : K.lookup f = some ⟨oc, od, .func (PySem.W.fnOf name qual params body scope dV kV doc pm an cdv ct), osl⟩) (hcd : PySem.W.codeIn K cdv qual = true) (S : FnScope N ps scope)
    (len : ∀ vs H Q E, sp vs H Q E → vs.length = ps.length)
    (hbody : ∀ (A : Around) (outer : List Env) (s : Shared) (H : Hp) (vs : List V) (Q : VK) (E : XK), A.guards = some [] → Room k (A.deeper (envOfC qual scope s.heap.objs.size f cdv)) → sp vs H Q E →
      ∃ t, PSs (cxOf CX0 P w K mg base N qual scope f cdv A outer s H E).nox body t ∧ t { nx := fun _ H' => Q .non H', rt := Q } (start N vs) H) :
    FnC P w K mg base f (PySem.W.fnOf name qual params body scope dV kV doc pm an cdv ct) ps sp where
  run := fun s H args us vs Q E e0 hb r hsp => by
    have bk := fun b o e => (e0.bs b o e).1
    have KX : K.In s.heap := e0.mod.kin.keeps bk
    obtain ⟨t, ht, hq⟩ := hbody callerA [] s H vs Q E rfl (hk.deeper _) hsp
    refine codeAny_call_function hk.depth (KX _ _ lk) rfl S.co S.gen rfl (PySem.W.codeRec_of KX hcd) (hb _ _ _ _ (wpAny_newFunctionEnv_cells S.kind (fun ⟨n, v⟩ hy => ?_) fun env he s1 x => ?_))
    · exact (S.par n (List.of_mem_zip hy).1).imp id fun q => ⟨q, PySem.W.cellsFrom_some _ _ _ (.inl q)⟩
    · subst he
      refine ⟨(e0.mod.nolimit.keeps bk).keeps x.toInCall.keep, codeAny_func (wpAny_mono (ht.nox.run [] s1 (start N vs) H _ (inv_start S hk.hd e0 (len _ _ _ _ hsp) r x) hq) (fun fl s' hs => ?_) fun e s' hs => hs)⟩
      cases fl with
      | ret u => exact let ⟨v, σ', H', J, rv, q⟩ := hs; ⟨v, H', J.os, J.bare, J.base, J.hok, rv, q⟩
      | next => exact let ⟨σ', H', J, q⟩ := hs; ⟨.non, H', J.os, J.bare, J.base, J.hok, rfl, q⟩
      | brk => exact let ⟨_, _, _, q⟩ := hs; q.elim
      | cont => exact let ⟨_, _, _, q⟩ := hs; q.elim
end GX
/-! the end of a law whose body the caller alone calls; ts: the tables of code objects that may grow -/
namespace GX
open PySem PySem.Spec PyProof.Rows L2 GxR
section
variable {P : Program} {w : World} {K : PySem.W.Frag} {mg mb : Str → Option Value} {fa a : Addr} {cs : List (Addr × Addr)} {fd : FuncData} {x : Str} {sp : Sp} {s₁ : Shared} {vs : List Value} {ns : List Int}
/-- what is known at the law's entry: the tables, the script where it is no object of the module -/
def atE (K : PySem.W.Frag) (cs : List (Addr × Addr)) (a : Addr) (vs : List Value) (ns : List Int) : Hp := fun b =>
  if b ∈ cs.map (·.2) then some (.tbl #[]) else if b = a ∧ K.lookup a = none then some (.frz { cls := .type "list", data := .seq vs.toArray } (.lst (ns.map V.int))) else none
theorem law_callC (KX : K.In s₁.heap) (hns : s₁.heap.Ns mainGlobals mg) (hb : s₁.heap.Ns builtinsNs mb) (hbb : ∀ x : Str, x ≠ "__name__" → mb x = bootBuiltins x) (hlim : s₁.heap.NoLimit) (hg : s₁.gens = #[])
    (hT : ∀ p ∈ cs, s₁.heap.get? p.2 = some { cls := .none, data := .fields #[] }) (nT : ∀ p ∈ cs, K.lookup p.2 = none) (C : ∀ p ∈ cs, PySem.W.CodeHd s₁.heap p.1 p.2)
    (hbm : ∃ (bm : Addr) (ob : Obj), mg "__builtins__" = some (.ref bm) ∧ bm ≠ builtinsNs ∧ s₁.heap.get? bm = some ob ∧ ob.cls = .type "module" ∧ ob.dict = some builtinsNs ∧ ob.data = .plain)
    (ha : s₁.heap.get? a = some { cls := .type "list", data := .seq vs.toArray }) (hi : IntsAre vs ns) (hl : ns.length ≤ sizeLine)
    (F : ∀ base : Heap, K.In base → base.Ns mainGlobals mg → (∀ p ∈ cs, TabB base mg p.1 p.2) → FnC P w K mg base fa fd [x] sp) (hbind : ∀ (s : Shared) (u : Value), BindsTo s fd ⟨[u], []⟩ [(x, u)])
    (hsp : ∀ H : Hp, (∀ p ∈ cs, H p.2 = some (.tbl #[])) → SqL K H a (ns.map V.int) → sp [.ref a] H (fun v _ => v = .bl true) fun _ _ _ => False) :
    codeAny (model P w) callerA (.call (.ref fa) ⟨[.ref a], []⟩) (fun r s' => r = .ok (.ret (.bool true)) ∧ OldK s₁.heap s'.heap ∧ s'.os = s₁.os ∧ AllBare s'.gens) s₁ := by
  have tabOf : ∀ b ∈ cs.map (·.2), s₁.heap.get? b = some { cls := .none, data := .fields #[] } := fun b hb => by
    obtain ⟨p, hp, rfl⟩ := List.mem_map.mp hb
    exact hT p hp
  have aOut : a ∉ cs.map (·.2) := fun z => by
    have := tabOf a z
    rw [ha] at this
    exact nomatch congrArg Obj.data (Option.some.inj this)
  have tabIn : ∀ p ∈ cs, p.2 ∈ cs.map (·.2) := fun p hp => List.mem_map.mpr ⟨p, hp, rfl⟩
  generalize hH : atE K cs a vs ns = H
  have H1 : ∀ p ∈ cs, H p.2 = some (.tbl #[]) := fun p hp => by
    rw [← hH]
    exact if_pos (tabIn p hp)
  have H2 : K.lookup a = none → H a = some (.frz { cls := .type "list", data := .seq vs.toArray } (.lst (ns.map V.int))) := fun z => by
    rw [← hH]
    exact (if_neg aOut).trans (if_pos ⟨rfl, z⟩)
  have H3 : ∀ b u, H b = some u → (b ∈ cs.map (·.2) ∧ u = .tbl #[]) ∨ (b = a ∧ K.lookup a = none ∧ u = .frz { cls := .type "list", data := .seq vs.toArray } (.lst (ns.map V.int))) := fun b u e => by
    rw [← hH] at e
    unfold atE at e
    split at e
    · rename_i z
      exact .inl ⟨z, (Option.some.inj e).symm⟩
    · split at e
      · rename_i z
        exact .inr ⟨z.1, z.2, (Option.some.inj e).symm⟩
      · cases e
  -- what is no list and no empty table is not tracked; nor is an object of the module
  have free : ∀ {b : Addr} {o : Obj}, s₁.heap.get? b = some o → (∀ vs n, o.data ≠ .seq vs n) → o.data ≠ .fields #[] → H b = none := fun {b o} e n1 n2 => by
    cases q : H b with
    | none => rfl
    | some u =>
      rcases H3 b u q with ⟨z, _⟩ | ⟨z, _⟩
      · rw [tabOf b z] at e
        cases e
        exact absurd rfl n2
      · rw [z, ha] at e
        cases e
        exact absurd rfl (n1 _ _)
  have freeK : ∀ b o, K.lookup b = some o → H b = none := fun b o e => by
    cases q : H b with
    | none => rfl
    | some u =>
      rcases H3 b u q with ⟨z, _⟩ | ⟨z, y, _⟩
      · obtain ⟨p, hp, rfl⟩ := List.mem_map.mp z
        rw [nT p hp] at e
        cases e
      · rw [z, y] at e
        cases e
  have inB : ∀ {b : Addr} {o : Obj}, s₁.heap.get? b = some o → H b = none → (hidT s₁.heap H).get? b = some o := fun e n => hidT_get e n
  have nsB : ∀ {b : Addr} {m : Str → Option Value}, s₁.heap.Ns b m → (hidT s₁.heap H).Ns b m := fun {b m} ⟨o, es, ep, e, d, r⟩ =>
    ⟨o, es, ep, inB e (free e (fun _ _ z => by rw [d] at z; cases z) fun z => by rw [d] at z; cases z), d, r⟩
  have kB : K.In (hidT s₁.heap H) := fun b o e => inB (KX b o e) (freeK b o e)
  have mo : L2.Mod K mg (hidT s₁.heap H) := ⟨kB, nsB hns, ⟨mb, nsB hb, hbb⟩, hlim.imp fun _ z => ⟨nsB z.1, z.2⟩⟩
  have okH : HOk P w H s₁.heap := fun b u e => by
    rcases H3 b u e with ⟨z, rfl⟩ | ⟨rfl, _, rfl⟩
    · exact tabOf b z
    · exact ⟨ha, by rw [List.length_map]; exact hl, vs, _, vals_ints hi, ha⟩
  have tB : ∀ p ∈ cs, TabB (hidT s₁.heap H) mg p.1 p.2 := fun p hp => by
    have gp := hT p hp
    obtain ⟨og, eg, epg, e1, d1, _⟩ := id hns
    refine ⟨?_, ?_, fun z => by rw [z, gp] at e1; cases e1; cases d1⟩
    · obtain ⟨o, us, file, tf, flags, tg, inF, text, tt, c1, r1, r2, r3, r⟩ := C p hp
      exact ⟨o, us, file, tf, flags, tg, inF, text, tt, inB c1 (free c1 (fun _ _ z => by rw [r2] at z; cases z) (fun z => by rw [r2] at z; cases z; simp at r3)), r1, r2, r3, r⟩
    · obtain ⟨bm, ob, b1, b2, b3, b4, b5, b6⟩ := hbm
      exact ⟨bm, ob, b1, b2, (fun z => by rw [z, e1] at b3; cases b3; rw [d1] at b6; cases b6), (fun z => by rw [z, gp] at b3; cases b3; cases b6), inB b3 (free b3 (fun _ _ z => by rw [b6] at z; cases z) (fun z => by rw [b6] at z; cases z)), b4, b5, b6⟩
  have sq : SqL K H a (ns.map V.int) := by
    cases e : K.lookup a with
    | none => exact .inl (.inr ⟨_, H2 e⟩)
    | some o =>
      have z := KX a o e
      rw [ha] at z
      cases z
      exact .inr ⟨_, vs.toArray, _, e, rfl, rfl, rfl, by rw [List.size_toArray, hi.length]; exact hl, by simpa using vals_ints hi⟩
  refine codeAny_mono ((F _ kB (nsB hns) tB).run s₁ H ⟨[.ref a], []⟩ [.ref a] [.ref a] _ _ ⟨rfl, mo, fun b o e => of_hidT e, Nat.le_of_eq (hidT_size _ _), trivial, (fun b z => nomatch z), okH, .of_eq hg⟩ (hbind s₁ (.ref a)) (.cons rfl .nil) (hsp H H1 sq)) fun r s' h => ?_
  match r, h with
  | .error e, h => exact False.elim h
  | .ok .next, h => exact False.elim h
  | .ok .brk, h => exact False.elim h
  | .ok .cont, h => exact False.elim h
  | .ok (.ret u), ⟨v, H', os, bare, un, ok', rv, q⟩ =>
    obtain rfl : v = .bl true := q
    obtain rfl : u = Value.bool true := rv
    have stay : ∀ b o, b ∉ cs.map (·.2) → s₁.heap.get? b = some o → s'.heap.get? b = some o := fun b o nb e => by
      cases q : H b with
      | none => exact un.keep b o e q (fun z => nomatch z) (fun z => nomatch z)
      | some y =>
        rcases H3 b y q with ⟨z, _⟩ | ⟨_, _, rfl⟩
        · exact absurd z nb
        · have e1 := (okH b _ q).1
          rw [e] at e1
          cases e1
          exact (ok' b _ (un.frzs b _ _ q)).1
    have grow : ∀ b ∈ cs.map (·.2), ∃ (p : Addr × Addr) (more : Array Value), p ∈ cs ∧ p.2 = b ∧ s'.heap.get? b = some { cls := .none, data := .fields (#[] ++ more) } := fun b hb => by
      obtain ⟨p, hp, rfl⟩ := List.mem_map.mp hb
      obtain ⟨more, z⟩ := un.tbls p.2 #[] (H1 p hp)
      exact ⟨p, more, hp, rfl, ok' p.2 _ z⟩
    refine ⟨rfl, ⟨fun b o e => ?_, fun b o e => ?_⟩, os, bare⟩
    · by_cases hb : b ∈ cs.map (·.2)
      · obtain ⟨p, more, hp, rfl, hm⟩ := grow b hb
        rw [hT p hp] at e
        cases e
        exact .inr (.inl ⟨((C p hp).tab (hT p hp)).isCodeTable, rfl, #[], more, rfl, hm⟩)
      · exact .inl (stay b o hb e)
    · by_cases hb : b ∈ cs.map (·.2)
      · obtain ⟨p, more, _, _, hm⟩ := grow b hb
        exact ⟨_, hm⟩
      · exact ⟨o, stay b o hb e⟩
end
/-- what is known of the law's promise at the head's heap h -/
def LawC (l : PySem.W.OpenLaw) (w : World) (K : PySem.W.Frag) (n : Nat) (x : Str) (mg : Str → Option Value) (fa : Addr) (h : Heap) : Prop :=
  ∃ (fd : FuncData) (cs : List (Addr × Addr)) (sp : Sp), (∀ p ∈ cs, h.get? p.2 = some { cls := .none, data := .fields #[] }) ∧ (∀ p ∈ cs, K.lookup p.2 = none) ∧ (∀ p ∈ cs, PySem.W.CodeHd h p.1 p.2) ∧ (∀ (s : Shared) (u : Value), BindsTo s fd ⟨[u], []⟩ [(x, u)]) ∧
    (∀ (H : Hp) (a : Addr) (ns : List Int), ns.length ≤ n → (∀ z ∈ ns, Builtin.Int.intBits z ≤ 1048576) → (∀ p ∈ cs, H p.2 = some (.tbl #[])) → SqL K H a (ns.map V.int) → sp [.ref a] H (fun v _ => v = .bl true) fun _ _ _ => False) ∧
    ∀ base : Heap, K.In base → base.Ns mainGlobals mg → (∀ p ∈ cs, TabB base mg p.1 p.2) → FnC l.prog w K mg base fa fd [x] sp
theorem walk_ofC {l : PySem.W.OpenLaw} {n : Nat} {q : Program} {loose : List Str} {XP : (Str → Option Value) → Heap → Prop} {YP : World → Heap → Prop} {d : DefRec} {K : Params → PySem.W.Frag} {x : Str}
    (hn : l.most = some n) (hn2 : n ≤ sizeLine) (hdf : d.params.defaults = []) (hY : ∀ (w : World) (h : Heap), YP w h → (K w.params).In h)
    (F : ∀ (w : World) (mg : Str → Option Value) (fa : Addr) (h : Heap), YP w h → (K w.params).In h → h.Ns mainGlobals mg → mg d.name = some (.ref fa) → LawC l w (K w.params) n x mg fa h) :
    PySem.W.WalkO q loose XP YP l.row.toRowW d [] (fun f vs => PySem.call f vs) := by
  refine Att.attach_callB hn hdf fun w s₀ s₁ mg mb fa o pm cd doc a vs ns G Y ho hd hcd hmg hobj hints hlen hbits hg => ?_
  have KX := hY w _ Y
  obtain ⟨fd, cs, sp, hT, nT, C, hb, hsp, hF⟩ := F w mg fa _ Y KX G.T.g hmg
  exact law_callC KX G.T.g G.T.b G.T.builtins G.T.nolimit hg hT nT C G.T.bmain hobj hints (Nat.le_trans hlen hn2) hF hb fun H hH hS => hsp H a ns hlen hbits hH hS
end GX
/-! the end of a law that the caller alone calls, where the program's own defs hold generator expressions -/
namespace GX
open PySem PySem.Spec PyProof.Rows L2 GxR
/-- each def of the view q has an empty table -/
def AllTabs (q : Program) (K : PySem.W.Frag) (mg : Str → Option Value) (h : Heap) : Prop :=
  ∀ (x : Str) (f : Addr), ((recsOf q).any fun e => e.name == x) = true → mg x = some (.ref f) → LamX.OwnTab K f h
theorem walk_tabsC {l : PySem.W.OpenLaw} {n : Nat} {q : Program} {loose : List Str} {XP : (Str → Option Value) → Heap → Prop} {YP : World → Heap → Prop} {d : DefRec} {K : Params → PySem.W.Frag} {x : Str}
    (hn : l.most = some n) (hn2 : n ≤ sizeLine) (hdf : d.params.defaults = []) (hY : ∀ (w : World) (h : Heap), YP w h → (K w.params).In h)
    (F : ∀ (w : World) (mg : Str → Option Value) (fa : Addr) (h : Heap), YP w h → (K w.params).In h → h.Ns mainGlobals mg → mg d.name = some (.ref fa) → AllTabs q (K w.params) mg h → LawC l w (K w.params) n x mg fa h) :
    PySem.W.WalkO q loose XP YP l.row.toRowW d [] (fun f vs => PySem.call f vs) := by
  refine Att.attach_callB hn hdf fun w s₀ s₁ mg mb fa o pm cd doc a vs ns G Y ho hd hcd hmg hobj hints hlen hbits hg => ?_
  have KX := hY w _ Y
  have tabs : AllTabs q (K w.params) mg s₁.heap := by
    intro y f hy hf c P o1 f1 e dd ws sl i1 i2 i3 i4 i5
    obtain ⟨r, hr, hr2⟩ := List.any_eq_true.mp hy
    have nm : r.name = y := beq_iff_eq.mp hr2
    obtain ⟨a2, o2, f2, c2, P2, j1, j2, j3, j4, j5, ⟨oc, vc, t1, _, t3, t4⟩, empty⟩ := G.T.tab r hr
    rw [nm, hf] at j1
    cases j1
    have at1 := KX _ _ i1
    rw [at1] at j2
    cases j2
    rw [i2] at j3
    cases j3
    rw [i3] at j4
    cases j4
    have at2 := KX _ _ i4
    rw [at2] at t1
    cases t1
    cases t3
    rw [i5] at t4
    cases t4
    exact empty
  obtain ⟨fd, cs, sp, hT, nT, C, hb, hsp, hF⟩ := F w mg fa _ Y KX G.T.g hmg tabs
  exact law_callC KX G.T.g G.T.b G.T.builtins G.T.nolimit hg hT nT C G.T.bmain hobj hints (Nat.le_trans hlen hn2) hF hb fun H hH hS => hsp H a ns hlen hbits hH hS
end GX
/-! dicts keyed by nested tuples of ints and texts: the object (dNO), its lookups, `in`, d[k], d[k] = v -/
namespace GX
open PySem PySem.Spec PyProof.Rows L2 GxR
mutual
/-- data of ints, texts and tuples of such -/
def kd : PyData → Bool
  | .int _ => true
  | .str _ => true
  | .tuple xs => kdAll xs
  | _ => false
def kdAll : List PyData → Bool
  | [] => true
  | x :: xs => kd x && kdAll xs
end
mutual
def keyN : PyData → NestedKey
  | .int i => .num i
  | .str x => .text x
  | .tuple xs => .tup (keyNs xs)
  | _ => .none
def keyNs : List PyData → List NestedKey
  | [] => []
  | x :: xs => keyN x :: keyNs xs
end
mutual
theorem keyN_inj : ∀ (d e : PyData), kd d = true → kd e = true → keyN d = keyN e → d = e
  | .int i, e, _, he, h => by
    cases e with
    | int j =>
      simp only [keyN, NestedKey.num.injEq] at h
      rw [h]
    | str y => simp [keyN] at h
    | tuple ys => simp [keyN] at h
    | _ => simp [kd] at he
  | .str x, e, _, he, h => by
    cases e with
    | int j => simp [keyN] at h
    | str y =>
      simp only [keyN, NestedKey.text.injEq] at h
      rw [h]
    | tuple ys => simp [keyN] at h
    | _ => simp [kd] at he
  | .tuple xs, e, hd, he, h => by
    cases e with
    | int j => simp [keyN] at h
    | str y => simp [keyN] at h
    | tuple ys =>
      simp only [keyN, NestedKey.tup.injEq] at h
      rw [kd] at hd he
      rw [keyNs_inj xs ys hd he h]
    | _ => simp [kd] at he
  | .none, _, hd, _, _ => by simp [kd] at hd
  | .bool _, _, hd, _, _ => by simp [kd] at hd
  | .list _, _, hd, _, _ => by simp [kd] at hd
  | .dict _, _, hd, _, _ => by simp [kd] at hd
theorem keyNs_inj : ∀ (xs ys : List PyData), kdAll xs = true → kdAll ys = true → keyNs xs = keyNs ys → xs = ys
  | [], [], _, _, _ => rfl
  | [], y :: ys, _, _, h => by simp [keyNs] at h
  | x :: xs, [], _, _, h => by simp [keyNs] at h
  | x :: xs, y :: ys, hx, hy, h => by
    rw [kdAll, Bool.and_eq_true] at hx hy
    rw [keyNs, keyNs] at h
    rw [keyN_inj x y hx.1 hy.1 (List.cons.inj h).1, keyNs_inj xs ys hx.2 hy.2 (List.cons.inj h).2]
end
mutual
theorem keyN_depth : ∀ d : PyData, kd d = true → (keyN d).depth = d.depth
  | .int _, _ => by rw [keyN, NestedKey.depth, PyData.depth]
  | .str _, _ => by rw [keyN, NestedKey.depth, PyData.depth]
  | .tuple xs, h => by
    rw [kd] at h
    rw [keyN, NestedKey.depth, PyData.depth, keyNs_depth xs h]
  | .none, h => by simp [kd] at h
  | .bool _, h => by simp [kd] at h
  | .list _, h => by simp [kd] at h
  | .dict _, h => by simp [kd] at h
theorem keyNs_depth : ∀ xs : List PyData, kdAll xs = true → NestedKey.depthAll (keyNs xs) = PyData.depthAll xs
  | [], _ => by rw [keyNs, NestedKey.depthAll, PyData.depthAll]
  | x :: xs, h => by
    rw [kdAll, Bool.and_eq_true] at h
    rw [keyNs, NestedKey.depthAll, PyData.depthAll, keyN_depth x h.1, keyNs_depth xs h.2]
end
section
variable {X : Cx} {pins : List (Addr × Obj)} {σ : L2.St} {H : Hp} {s : Shared}
mutual
theorem dp_nested (I : Inv X pins σ H s) : ∀ (d : PyData) (v : V) (u : Value), Dp X.K H v d → kd d = true → RelV v u → NestedIs s.heap (keyN d) u
  | .int i, _, _, h, _, r => by
    cases h
    obtain ⟨t, rfl⟩ := r
    rw [keyN]
    exact .int i t
  | .str x, _, _, h, _, r => by
    cases h
    obtain ⟨t, rfl⟩ := r
    rw [keyN]
    exact .text x t
  | .tuple ds, _, _, h, k, r => by
    cases h with
    | tup hs ha =>
      cases r
      obtain ⟨its, rv, ⟨o, ho, hc, n, hd⟩, _⟩ := I.tuple hs
      rw [kd] at k
      rw [keyN]
      exact .tup ho hc hd (dp_nestedAll I ds _ its ha k rv)
  | .none, _, _, _, k, _ => by simp [kd] at k
  | .bool _, _, _, _, k, _ => by simp [kd] at k
  | .list _, _, _, _, k, _ => by simp [kd] at k
  | .dict _, _, _, _, k, _ => by simp [kd] at k
theorem dp_nestedAll (I : Inv X pins σ H s) : ∀ (ds : List PyData) (vs : List V) (us : List Value), DpAll X.K H vs ds → kdAll ds = true → Vals vs us → NestedAll s.heap (keyNs ds) us
  | [], _, _, h, _, r => by
    cases h
    cases r
    rw [keyNs]
    exact .nil
  | d :: ds, _, _, h, k, r => by
    cases h with
    | cons h1 h2 =>
      cases r with
      | cons r1 r2 =>
        rw [kdAll, Bool.and_eq_true] at k
        rw [keyNs]
        exact .cons (dp_nested I d _ _ h1 k.1 r1) (dp_nestedAll I ds _ _ h2 k.2 r2)
end
end
/-- a kind of keys: how they are data -/
structure KT (κ : Type) where
  enc : κ → PyData
  kd : ∀ k, kd (enc k) = true
  inj : ∀ {a b}, enc a = enc b → a = b
  dp : ∀ k, (enc k).depth ≤ 8
section
variable {κ : Type} [DecidableEq κ] (T : KT κ)
theorem KT.eqN {T : KT κ} {a b : κ} : keyN (T.enc a) = keyN (T.enc b) ↔ a = b := ⟨fun h => T.inj (keyN_inj _ _ (T.kd a) (T.kd b) h), fun h => by rw [h]⟩
/-- the entries with the values that stand there -/
def rowsN (es : List (κ × Addr × V)) (us : List Value) : List (NestedKey × Addr × Value) := (es.zip us).map fun p => (keyN (T.enc p.1.1), p.1.2.1, p.2)
def DN0 (P : Program) (w : World) (h : Heap) (a : Addr) (es : List (κ × Addr × V)) : Prop :=
  (a == sysModules) = false ∧ es.length ≤ sizeLine ∧ (es.map (·.1)).Nodup ∧ ∃ o ds ep us, h.get? a = some o ∧ o.ExactDict ∧ o.data = .dict ds ep ∧ Vals (es.map (·.2.2)) us ∧ ds.toList = (rowsN T es us).map (entryOfKey (nestedKind P w))
def dNO (P : Program) (w : World) (a : Addr) (es : List (κ × Addr × V)) : HO := .ext fun h => DN0 T P w h a es
theorem dNO_ok {P : Program} {w : World} {H : Hp} {h : Heap} {a : Addr} {es : List (κ × Addr × V)} (R : DN0 T P w h a es) : ObjOk P w H h a (dNO T P w a es) := by
  have ⟨_, _, _, o, ds, ep, us, ho, _⟩ := R
  refine ⟨R, ⟨o, ho⟩, fun h1 h2 p k => ?_⟩
  obtain ⟨z, l, n, o', ds', ep', us', ho', r'⟩ := p
  exact ⟨z, l, n, o', ds', ep', us', k o' ho', r'⟩
variable {T}
theorem rows_find {k : κ} : ∀ {es : List (κ × Addr × V)} {us : List Value}, Vals (es.map (·.2.2)) us → (atKey (rowsN T es us) (keyN (T.enc k)) = none ∧ (es.find? fun e => decide (e.1 = k)) = none) ∨ ∃ e u, (es.find? fun e => decide (e.1 = k)) = some e ∧ atKey (rowsN T es us) (keyN (T.enc k)) = some (e.2.1, u) ∧ RelV e.2.2 u
  | [], _, .nil => .inl ⟨rfl, rfl⟩
  | e :: es, _, .cons r t => by
    by_cases h : e.1 = k
    · refine .inr ⟨e, _, ?_, ?_, r⟩
      · simp [List.find?_cons, h]
      · unfold atKey rowsN
        rw [List.zip_cons_cons, List.map_cons]
        simp [List.find?_cons, h]
    · have hn : ¬ keyN (T.enc e.1) = keyN (T.enc k) := fun z => h (KT.eqN.mp z)
      have e1 : ((e :: es).find? fun e => decide (e.1 = k)) = es.find? fun e => decide (e.1 = k) := by simp [List.find?_cons, h]
      have e2 : ∀ u us, atKey (rowsN T (e :: es) (u :: us)) (keyN (T.enc k)) = atKey (rowsN T es us) (keyN (T.enc k)) := fun u us => by
        unfold atKey rowsN
        rw [List.zip_cons_cons, List.map_cons]
        simp [List.find?_cons, hn]
      rw [e1, e2]
      exact rows_find t
theorem rows_nodup {es : List (κ × Addr × V)} {us : List Value} (h : Vals (es.map (·.2.2)) us) (n : (es.map (·.1)).Nodup) : ((rowsN T es us).map (·.1)).Nodup := by
  have l : us.length = es.length := by rw [← h.length, List.length_map]
  have e : (rowsN T es us).map (·.1) = (es.map (·.1)).map fun k => keyN (T.enc k) := by
    unfold rowsN
    rw [List.map_map, List.map_map]
    have : es = (es.zip us).map Prod.fst := (List.map_fst_zip (by omega)).symm
    conv => rhs; rw [this]
    rw [List.map_map]
    rfl
  rw [e]
  exact List.Pairwise.map _ (fun a b ne z => ne (KT.eqN.mp z)) n
end
section
variable {κ : Type} [DecidableEq κ] {T : KT κ} {X : Cx} {pins : List (Addr × Obj)} {σ : L2.St} {H : Hp} {s : Shared}
/-- the keys of the entries stand in the heap -/
def KeysAt (T : KT κ) (K : PySem.W.Frag) (H : Hp) (es : List (κ × Addr × V)) : Prop := ∀ e ∈ es, Dp K H (.ref e.2.1) (T.enc e.1)
theorem dn0_of {a : Addr} {es : List (κ × Addr × V)} (I : Inv X pins σ H s) (ha : Rd H a (dNO T X.prog X.w a es)) : DN0 T X.prog X.w s.heap a es := by
  rcases ha with ha | ⟨o, ha⟩
  · exact (I.hok a _ ha).1
  · exact (I.hok a _ ha).2.1
theorem dict_of {a : Addr} {es : List (κ × Addr × V)} (I : Inv X pins σ H s) (ha : Rd H a (dNO T X.prog X.w a es)) (hk : KeysAt T X.K H es) :
    (a == sysModules) = false ∧ es.length ≤ sizeLine ∧ ∃ us, Vals (es.map (·.2.2)) us ∧ s.heap.DictOfH (nestedKind X.prog X.w) a (rowsN T es us) := by
  obtain ⟨z, l, n, o, ds, ep, us, ho, hx, hd, hv, hr⟩ := dn0_of I ha
  refine ⟨z, l, us, hv, o, ds, ep, ho, hx, hd, hr, fun x hxm => ?_, rows_nodup hv n⟩
  obtain ⟨p, hp, rfl⟩ := List.mem_map.mp hxm
  have he : p.1 ∈ es := (List.of_mem_zip hp).1
  exact ⟨dp_nested I _ _ _ (hk _ he) (T.kd _) rfl, by rw [keyN_depth _ (T.kd _)]; exact T.dp _⟩
theorem key_of {v : V} {k : κ} {u : Value} (I : Inv X pins σ H s) (h : Dp X.K H v (T.enc k)) (r : RelV v u) (b : Addr) (e : u = .ref b) : (nestedKind X.prog X.w).is s.heap (keyN (T.enc k)) b := by
  subst e
  exact ⟨dp_nested I _ _ _ h (T.kd _) r, by rw [keyN_depth _ (T.kd _)]; exact T.dp _⟩
/-- k in d -/
def rInN (T : KT κ) (P : Program) (w : World) (K : PySem.W.Frag) : R2 := fun x y H Q => ∃ (a b : Addr) (es : List (κ × Addr × V)) (k : κ), y = .ref a ∧ x = .ref b ∧ Rd H a (dNO T P w a es) ∧ KeysAt T K H es ∧ Dp K H (.ref b) (T.enc k) ∧ Q (.bl (es.find? fun e => decide (e.1 = k)).isSome) H
theorem op_inN (hu : X.A.units + 64 < cLine) : OpR X (compareOp .In) (rInN T X.prog X.w X.K) := fun pins s σ H x y v u Q I rx ry h => by
  obtain ⟨a, b, es, k, rfl, rfl, ha, hk, hb, q⟩ := h
  cases rx
  cases ry
  obtain ⟨z, l, us, hv, hm⟩ := dict_of I ha hk
  refine wpAny_in_heap (knd := nestedKind X.prog X.w) (by show X.A.units + 1 + 8 < cLine; omega) (key_of I hb rfl b rfl) z hm ?_
  refine ⟨.bl (es.find? fun e => decide (e.1 = k)).isSome, H, I.tok _, ?_, q⟩
  rcases rows_find (T := T) (k := k) hv with ⟨e1, e2⟩ | ⟨e, u, e1, e2, _⟩
  · rw [e1, e2]
    rfl
  · rw [e1, e2]
    rfl
/-- k not in d -/
def rNotInN (T : KT κ) (P : Program) (w : World) (K : PySem.W.Frag) : R2 := fun x y H Q => ∃ (a b : Addr) (es : List (κ × Addr × V)) (k : κ), y = .ref a ∧ x = .ref b ∧ Rd H a (dNO T P w a es) ∧ KeysAt T K H es ∧ Dp K H (.ref b) (T.enc k) ∧ Q (.bl (!(es.find? fun e => decide (e.1 = k)).isSome)) H
theorem op_notInN (hu : X.A.units + 64 < cLine) : OpR X (compareOp .NotIn) (rNotInN T X.prog X.w X.K) := fun pins s σ H x y v u Q I rx ry h => by
  obtain ⟨a, b, es, k, rfl, rfl, ha, hk, hb, q⟩ := h
  cases rx
  cases ry
  obtain ⟨z, l, us, hv, hm⟩ := dict_of I ha hk
  refine wpAny_notIn_heap (knd := nestedKind X.prog X.w) (by show X.A.units + 1 + 8 < cLine; omega) (key_of I hb rfl b rfl) z hm ?_
  refine ⟨.bl (!(es.find? fun e => decide (e.1 = k)).isSome), H, I.tok _, ?_, q⟩
  rcases rows_find (T := T) (k := k) hv with ⟨e1, e2⟩ | ⟨e, u, e1, e2, _⟩
  · rw [e1, e2]
    rfl
  · rw [e1, e2]
    rfl
/-- d[k], k there -/
def rIxN (T : KT κ) (P : Program) (w : World) (K : PySem.W.Frag) : R2 := fun x y H Q => ∃ (a b : Addr) (es : List (κ × Addr × V)) (k : κ) (e : κ × Addr × V), x = .ref a ∧ y = .ref b ∧ Rd H a (dNO T P w a es) ∧ KeysAt T K H es ∧ Dp K H (.ref b) (T.enc k) ∧ (es.find? fun e => decide (e.1 = k)) = some e ∧ Q e.2.2 H
theorem ix_N (hu : X.A.units + 64 < cLine) : IxR X (rIxN T X.prog X.w X.K) := by
  intro value slice pins s σ H x y v u Q I rx ry h hs
  obtain ⟨a, b, es, k, e, rfl, rfl, ha, hk, hb, he, q⟩ := h
  cases rx
  cases ry
  obtain ⟨z, l, us, hv, hm⟩ := dict_of I ha hk
  rcases rows_find (T := T) (k := k) hv with ⟨_, e2⟩ | ⟨e', u, e1, e2, r⟩
  · rw [he] at e2
    cases e2
  · rw [he] at e1
    cases e1
    exact subscriptTail_builtinR (x := u) hm.typeIs slot_dict_getitem.lookup (wpAny_getItem_heap (Q := fun r s' => r = u ∧ EP X pins σ Q r s') (knd := nestedKind X.prog X.w) (by show X.A.units + 1 + 8 < cLine; omega) (key_of I hb rfl b rfl) hm e2 ⟨rfl, e.2.2, H, I.tok _, r, q⟩) hs
/-- d[k] = v -/
def dSt (es : List (κ × Addr × V)) (k : κ) (b : Addr) (v : V) : List (κ × Addr × V) := if (es.find? fun e => decide (e.1 = k)).isSome = true then es.map fun e => if e.1 = k then (e.1, e.2.1, v) else e else es ++ [(k, b, v)]
theorem rows_app {es fs : List (κ × Addr × V)} {us vs : List Value} (l : es.length = us.length) : rowsN T (es ++ fs) (us ++ vs) = rowsN T es us ++ rowsN T fs vs := by
  unfold rowsN
  rw [List.zip_append l, List.map_append]
theorem rows_put {k : κ} {v : V} {u : Value} (r : RelV v u) : ∀ {es : List (κ × Addr × V)} {us : List Value}, Vals (es.map (·.2.2)) us → ∃ us', Vals ((es.map fun e => if e.1 = k then (e.1, e.2.1, v) else e).map (·.2.2)) us' ∧ (rowsN T es us).map (putAt (keyN (T.enc k)) u) = rowsN T (es.map fun e => if e.1 = k then (e.1, e.2.1, v) else e) us'
  | [], _, .nil => ⟨[], .nil, rfl⟩
  | e :: es, u0 :: us, .cons r0 t => by
    obtain ⟨us', h1, h2⟩ := rows_put r t
    have step : ∀ (e' : κ × Addr × V) (u' : Value), rowsN T (e' :: es.map fun e => if e.1 = k then (e.1, e.2.1, v) else e) (u' :: us') = (keyN (T.enc e'.1), e'.2.1, u') :: (rowsN T es us).map (putAt (keyN (T.enc k)) u) := fun e' u' => by
      rw [h2]
      rfl
    have lhs : (rowsN T (e :: es) (u0 :: us)).map (putAt (keyN (T.enc k)) u) = putAt (keyN (T.enc k)) u (keyN (T.enc e.1), e.2.1, u0) :: (rowsN T es us).map (putAt (keyN (T.enc k)) u) := rfl
    by_cases h : e.1 = k
    · refine ⟨u :: us', ?_, ?_⟩
      · rw [List.map_cons, if_pos h, List.map_cons]
        exact .cons r h1
      · rw [List.map_cons, if_pos h, step, lhs]
        unfold putAt
        rw [if_pos (by rw [h])]
    · refine ⟨u0 :: us', ?_, ?_⟩
      · rw [List.map_cons, if_neg h, List.map_cons]
        exact .cons r0 h1
      · rw [List.map_cons, if_neg h, step, lhs]
        unfold putAt
        rw [if_neg fun z => h (KT.eqN.mp z)]
theorem rows_st {es : List (κ × Addr × V)} {us : List Value} {k : κ} {b : Addr} {v : V} {u : Value} (h : Vals (es.map (·.2.2)) us) (r : RelV v u) : ∃ us', Vals ((dSt es k b v).map (·.2.2)) us' ∧ storedH (rowsN T es us) (keyN (T.enc k)) b u = rowsN T (dSt es k b v) us' := by
  rcases rows_find (T := T) (k := k) h with ⟨e1, e2⟩ | ⟨e, u', e1, e2, _⟩
  · refine ⟨us ++ [u], ?_, ?_⟩
    · unfold dSt
      rw [e2, if_neg (by simp), List.map_append]
      exact h.append (.cons r .nil)
    · rw [storedH_new e1]
      unfold dSt
      rw [e2, if_neg (by simp), rows_app (by rw [← h.length, List.length_map])]
      rfl
  · obtain ⟨us', h1, h2⟩ := rows_put (T := T) (k := k) (v := v) (u := u) r h
    refine ⟨us', ?_, ?_⟩
    · unfold dSt
      rw [e1, if_pos (show (some e).isSome = true from rfl)]
      exact h1
    · rw [storedH_old e2]
      unfold dSt
      rw [e1, if_pos (show (some e).isSome = true from rfl)]
      exact h2
theorem st_nodup {es : List (κ × Addr × V)} {k : κ} {b : Addr} {v : V} (n : (es.map (·.1)).Nodup) : ((dSt es k b v).map (·.1)).Nodup := by
  unfold dSt
  by_cases h : (es.find? fun e => decide (e.1 = k)).isSome = true
  · rw [if_pos h, List.map_map]
    have e : ((fun x : κ × Addr × V => x.1) ∘ fun e : κ × Addr × V => if e.1 = k then (e.1, e.2.1, v) else e) = fun e => e.1 := by
      funext e
      show (if e.1 = k then (e.1, e.2.1, v) else e).1 = e.1
      split <;> rfl
    rw [e]
    exact n
  · rw [if_neg h, List.map_append, List.nodup_append]
    refine ⟨n, (by simp : [k].Nodup), fun x hx y hy z => h ?_⟩
    rw [List.mem_singleton.mp hy] at z
    obtain ⟨e, he, rfl⟩ := List.mem_map.mp hx
    rw [List.find?_isSome]
    exact ⟨e, he, decide_eq_true z⟩
theorem st_len {es : List (κ × Addr × V)} {k : κ} {b : Addr} {v : V} : (dSt es k b v).length ≤ es.length + 1 := by
  unfold dSt
  split
  · rw [List.length_map]
    exact Nat.le_succ _
  · rw [List.length_append]
    exact Nat.le_refl _
theorem st_keys {K : PySem.W.Frag} {es : List (κ × Addr × V)} {k : κ} {b : Addr} {v : V} (h : KeysAt T K H es) (hb : Dp K H (.ref b) (T.enc k)) : KeysAt T K H (dSt es k b v) := fun e he => by
  unfold dSt at he
  split at he
  · obtain ⟨e', he', rfl⟩ := List.mem_map.mp he
    have := h e' he'
    split
    · exact this
    · exact this
  · rcases List.mem_append.mp he with z | z
    · exact h e z
    · rw [List.mem_singleton.mp z]
      exact hb
def rSetN (T : KT κ) (P : Program) (w : World) (K : PySem.W.Frag) : V → V → V → Hp → (Hp → Prop) → Prop := fun o i v H Q => ∃ (a b : Addr) (es : List (κ × Addr × V)) (k : κ), o = .ref a ∧ i = .ref b ∧ H a = some (dNO T P w a es) ∧ KeysAt T K H es ∧ Dp K H (.ref b) (T.enc k) ∧ es.length < sizeLine ∧ Q (upd H a (dNO T P w a (dSt es k b v)))
theorem set_N (hu : X.A.units + 64 < cLine) : PSet X (rSetN T X.prog X.w X.K) := by
  intro pins s σ H o i v ov iv u Q I ro ri rv h
  obtain ⟨a, b, es, k, rfl, rfl, ha, hk, hb, hl, q⟩ := h
  cases ro
  cases ri
  obtain ⟨z, l, us, hv, hm⟩ := dict_of I (.inl ha) hk
  obtain ⟨_, _, nd, _⟩ := (I.hok a _ ha).1
  have ls : (rowsN T es us).length = es.length := by
    unfold rowsN
    rw [List.length_map, List.length_zip, ← hv.length, List.length_map, Nat.min_self]
  obtain ⟨us', h1, h2⟩ := rows_st (T := T) (k := k) (b := b) (v := v) (u := u) hv rv
  refine wpAny_setItem_heap (hsz := by rw [ls]; exact l) (knd := nestedKind X.prog X.w) (by show X.A.units + 1 + 8 < cLine; omega) (key_of I hb rfl b rfl) hm fun h' hm' sb => ?_
  rw [h2] at hm'
  obtain ⟨o', ds, ep, ho, hx, hd, hr, _, _⟩ := hm'
  have R : DN0 T X.prog X.w h' a (dSt es k b v) := ⟨z, Nat.le_trans st_len hl, st_nodup nd, o', ds, ep, us', ho, hx, hd, h1, hr⟩
  exact ⟨_, I.write (by rw [ha]; trivial) (.inl rfl) (fun c w hc e => (sb.2 c hc).trans e) ⟨_, ho⟩ (dNO_ok T R), q⟩
/-- {} -/
theorem dn0_empty {P : Program} {w : World} (h : Heap) (z : (h.objs.size == sysModules) = false) : DN0 T P w (h.push { cls := .type "dict", data := .dict #[] }) h.objs.size ([] : List (κ × Addr × V)) :=
  ⟨z, Nat.zero_le _, .nil, _, _, _, [], Heap.get?_push_size _ rfl, ⟨rfl, rfl, rfl⟩, rfl, .nil, rfl⟩
def tDNewN (T : KT κ) (P : Program) (w : World) : TE := fun _ H Q => ∀ p, H p = none → Q (.ref p) (upd H p (dNO T P w p []))
theorem pe_dnewN {pos : Pos} : PE X (.Dict [] [] pos) (tDNewN T X.prog X.w) := ⟨fun pins s σ H Q I h => by
  have z : (s.heap.objs.size == sysModules) = false := beq_eq_false_iff_ne.mpr (Nat.ne_of_gt I.big)
  exact wpAny_Dict_empty ⟨.ref s.heap.objs.size, _, I.laid (t' := s.toks) (fun _ _ q => Heap.get?_push_of_some _ q) (Nat.le_refl _) (dNO_ok T (dn0_empty s.heap z)), rfl, h _ (I.hok.fresh (Nat.le_refl _))⟩⟩
/-- d.get(k, v) -/
def rGetN (T : KT κ) (P : Program) (w : World) (K : PySem.W.Frag) : V → List V → Hp → VK → Prop := fun x xs H Q => ∃ (a b : Addr) (es : List (κ × Addr × V)) (k : κ) (v : V), x = .ref a ∧ xs = [.ref b, v] ∧ Rd H a (dNO T P w a es) ∧ KeysAt T K H es ∧ Dp K H (.ref b) (T.enc k) ∧ Q (((es.find? fun e => decide (e.1 = k)).map (·.2.2)).getD v) H
theorem mt_getN (hu : X.A.units + 64 < cLine) : MtR X "dict.get" (rGetN T X.prog X.w X.K) := by
  intro pins s σ H x xs v us Q I rx r h
  obtain ⟨a, b, es, k, y, rfl, rfl, ha, hk, hb, q⟩ := h
  cases rx
  obtain ⟨u1, u2, rfl, r1, r2⟩ := r.two
  cases r1
  obtain ⟨z, l, us, hv, hm⟩ := dict_of I ha hk
  refine call_meetsIn PySem.F.slot_dict_get hm.typeIs PySem.F.entry_dict_get (PySem.F.args_dict_get_3 _ _ _) (meetsH_dict_get_default (nestedKind X.prog X.w) a b z u2) ⟨by show X.A.units + 1 + 8 < cLine; omega, _, _, key_of I hb rfl b rfl, hm, ?_⟩
  rcases rows_find (T := T) (k := k) hv with ⟨e1, e2⟩ | ⟨e, u, e1, e2, r⟩
  · rw [e1]
    rw [e2] at q
    exact ⟨y, H, I.tok _, r2, q⟩
  · rw [e2]
    rw [e1] at q
    exact ⟨e.2.2, H, I.tok _, r, q⟩
/-- d.setdefault(k, v) -/
def rSetdefN (T : KT κ) (P : Program) (w : World) (K : PySem.W.Frag) : V → List V → Hp → VK → Prop := fun x xs H Q => ∃ (a b : Addr) (es : List (κ × Addr × V)) (k : κ) (v : V), x = .ref a ∧ xs = [.ref b, v] ∧ H a = some (dNO T P w a es) ∧ KeysAt T K H es ∧ Dp K H (.ref b) (T.enc k) ∧ es.length < sizeLine ∧
  (∀ e, (es.find? fun e => decide (e.1 = k)) = some e → Q e.2.2 H) ∧ ((es.find? fun e => decide (e.1 = k)) = none → Q v (upd H a (dNO T P w a (es ++ [(k, b, v)]))))
theorem mt_setdefN (hu : X.A.units + 64 < cLine) : MtR X "dict.setdefault" (rSetdefN T X.prog X.w X.K) := by
  intro pins s σ H x xs v us Q I rx r h
  obtain ⟨a, b, es, k, y, rfl, rfl, ha, hk, hb, hl, q1, q2⟩ := h
  cases rx
  obtain ⟨u1, u2, rfl, r1, r2⟩ := r.two
  cases r1
  obtain ⟨z, l, us, hv, hm⟩ := dict_of I (.inl ha) hk
  obtain ⟨_, _, nd, _⟩ := (I.hok a _ ha).1
  have ls : (rowsN T es us).length = es.length := by
    unfold rowsN
    rw [List.length_map, List.length_zip, ← hv.length, List.length_map, Nat.min_self]
  rcases rows_find (T := T) (k := k) hv with ⟨e1, e2⟩ | ⟨e, u, e1, e2, r⟩
  · refine call_setdefault_heap (hsz := by rw [ls]; exact l) (knd := nestedKind X.prog X.w) (by show X.A.units + 1 + 8 < cLine; omega) (key_of I hb rfl b rfl) z hm (fun p hp => by rw [e1] at hp; cases hp) fun _ h' hm' sb => ?_
    obtain ⟨us', h1, h2⟩ := rows_st (T := T) (k := k) (b := b) (v := y) (u := u2) hv r2
    have ed : dSt es k b y = es ++ [(k, b, y)] := by
      unfold dSt
      rw [e2, if_neg (by simp)]
    rw [h2] at hm'
    obtain ⟨o', ds, ep, ho, hx, hd, hr, _, _⟩ := hm'
    have R : DN0 T X.prog X.w h' a (dSt es k b y) := ⟨z, Nat.le_trans st_len hl, st_nodup nd, o', ds, ep, us', ho, hx, hd, h1, hr⟩
    have J := I.write (t' := s.toks + (nestedKind X.prog X.w).draws (keyN (T.enc k))) (by rw [ha]; trivial) (.inl rfl) (fun c w hc e => (sb.2 c hc).trans e) ⟨_, ho⟩ (dNO_ok T R)
    rw [ed] at J
    exact ⟨y, _, J, r2, q2 e2⟩
  · refine call_setdefault_heap (hsz := by rw [ls]; exact l) (knd := nestedKind X.prog X.w) (by show X.A.units + 1 + 8 < cLine; omega) (key_of I hb rfl b rfl) z hm (fun p hp => ?_) fun hn => by rw [e2] at hn; cases hn
    rw [e2] at hp
    cases hp
    exact ⟨e.2.2, H, I.tok _, r, q1 e e1⟩
theorem dn_frz {d : Addr} {o : Obj} {es : List (κ × Addr × V)} (I : Inv X pins σ H s) (h : H d = some (.frz o (dNO T X.prog X.w d es))) :
    (d == sysModules) = false ∧ s.heap.get? d = some o ∧ o.ExactDict ∧ ∃ (ds : Array DictEntry) (ep : Nat), o.data = .dict ds ep ∧ ds.size = es.length ∧ ∀ (i : Nat) (e : κ × Addr × V), es[i]? = some e → ∃ en : DictEntry, ds[i]? = some en ∧ en.key = .ref e.2.1 := by
  obtain ⟨hg, ⟨z, l, n, o', ds, ep, us, ho, hx, hd, hv, hr⟩, _⟩ := I.hok d _ h
  rw [hg] at ho
  cases ho
  have lu : us.length = es.length := by rw [← hv.length, List.length_map]
  have ld : ds.size = es.length := by
    rw [← Array.length_toList, hr, List.length_map]
    unfold rowsN
    rw [List.length_map, List.length_zip, lu, Nat.min_self]
  refine ⟨z, hg, hx, ds, ep, hd, ld, fun i e he => ?_⟩
  have hi : i < us.length := by rw [lu]; exact (List.getElem?_eq_some_iff.mp he).1
  have hz : (es.zip us)[i]? = some (e, us[i]) := by rw [List.getElem?_zip_eq_some]; exact ⟨he, List.getElem?_eq_getElem hi⟩
  refine ⟨entryOfKey (nestedKind X.prog X.w) (keyN (T.enc e.1), e.2.1, us[i]), ?_, rfl⟩
  rw [← Array.getElem?_toList, hr]
  unfold rowsN
  rw [List.getElem?_map, List.getElem?_map, hz]
  rfl
/-- the keys of the locked dict at d -/
def Itn (T : KT κ) (P : Program) (w : World) (d : Addr) (o : Obj) (es : List (κ × Addr × V)) : It :=
  ⟨fun i H => H d = some (.frz o (dNO T P w d es)) ∧ i < es.length, fun i H x H' => H' = H ∧ ∃ e, es[i]? = some e ∧ x = .ref e.2.1, fun i H => H d = some (.frz o (dNO T P w d es)) ∧ es.length ≤ i⟩
theorem turn_N {P : Program} {w : World} {K : PySem.W.Frag} {tg : Expr} {d : Addr} {o : Obj} {ds : Array DictEntry} {ep : Nat} {es : List (κ × Addr × V)} (it : Addr) (hod : o.data = .dict ds ep) :
    Turn P w K tg (Itn T P w d o es) [it] it (fun i h => h.IsKeyIter it d i es.length ep) where
  mem := List.mem_singleton.mpr rfl
  obj := fun i h st b hb => by
    rw [List.mem_singleton.mp hb]
    obtain ⟨oi, e, _, dd⟩ := st
    exact ⟨oi, e, fun v z => by rw [dd] at z; cases z⟩
  keep := fun i h h' st k => st.at fun oi e => k it (List.mem_singleton.mpr rfl) oi e
  item := by
    rintro X rfl rfl rfl hc i pins s σ H E I hf st ⟨hd, hi⟩
    have fp := hf it (List.mem_singleton.mpr rfl)
    obtain ⟨hs, hgd, hx, ds', ep', hdt, hsz, ent⟩ := dn_frz I hd
    obtain ⟨rfl, rfl⟩ := dict_ep hod hdt
    have he : es[i]? = some es[i] := List.getElem?_eq_getElem hi
    obtain ⟨en, hen, hkey⟩ := ent i _ he
    refine next_key_item st hgd hdt hsz hen fun h' st' sb => ?_
    obtain ⟨oi, e, c, dd⟩ := id st'
    exact ⟨en.key, rfl, go_of (s := { s with heap := h' }) e c dd (by decide) ⟨.ref es[i].2.1, H, I.turned (t' := s.toks) (fun b ob hb e => (sb.2 b hb).trans e) fp.1 fp.2.1 fp.2.2.2.1 fp.2.2.2.2.1 fp.2.2.2.2.2, hkey, ⟨rfl, _, he, rfl⟩, st', fun b hb => (hf b hb).1⟩⟩
  done := by
    rintro X rfl rfl rfl hc i pins s σ H E I hf st ⟨hd, hi⟩
    have fp := hf it (List.mem_singleton.mpr rfl)
    obtain ⟨hs, hgd, hx, ds', ep', hdt, hsz, ent⟩ := dn_frz I hd
    obtain ⟨rfl, rfl⟩ := dict_ep hod hdt
    exact next_key_end (I.ok.hd hc) st hgd hdt hsz hi fun h' eb => ⟨rfl, I.turned (t' := s.toks) (fun b ob hb e => eb b ob hb e) fp.1 fp.2.1 fp.2.2.2.1 fp.2.2.2.2.1 fp.2.2.2.2.2⟩
  self := fun A i s Q E st h => by
    refine wpAny_pyIter_slot st.typeIs PySem.F.slot_dict_keyiterator_iter (wpAny_call_entry PySem.F.slot_dict_keyiterator_iter st.typeIs PySem.F.entry_dict_keyiterator_iter ?_ (PySem.F.args_dict_keyiterator_iter_1 _))
    exact wpAny_pure ⟨_, rfl, "dict_keyiterator", _, st.typeIs, PySem.F.slot_dict_keyiterator_next.lookup, h⟩
/-- for k in d, d locked -/
def iKeysN (T : KT κ) (P : Program) (w : World) (td : TE) : TI := fun σ H R => td σ H fun x H1 => ∃ d o es, x = .ref d ∧ H1 d = some (.frz o (dNO T P w d es)) ∧ R (Itn T P w d o es) H1
theorem pi_keysN {tg e : Expr} {td : TE} (he : PE X e td) : PI X tg e (iKeysN T X.prog X.w td) := by
  refine ⟨fun pins s σ H R I h => thn (he.run pins s σ H _ I h) fun u s1 ⟨x, H1, I1, rx, d, o, es, ex, hd, q⟩ => ?_⟩
  subst ex
  cases rx
  obtain ⟨hs, hgd, hx, ds, ep, hdt, hsz, ent⟩ := dn_frz I1 hd
  refine iter_keys hs hgd hx hdt (pi_one (tk := s1.toks) I1 _ (turn_N _ hdt) ⟨_, Heap.get?_push_size _ rfl, rfl, ?_⟩ q)
  rw [hsz] <;> rfl
theorem walk_N {P : Program} {w : World} {d : Addr} {o : Obj} {es : List (κ × Addr × V)} : Walk (Itn T P w d o es) es.length (fun H => H d = some (.frz o (dNO T P w d es))) (fun i H x H' => H' = H ∧ ∃ e, es[i]? = some e ∧ x = .ref e.2.1) :=
  ⟨fun _ _ hi q => ⟨q, hi⟩, fun _ q => ⟨q, Nat.le_refl _⟩, fun _ _ _ _ _ _ y => y⟩
/-- len(d) -/
theorem cr_lenN : CallR X (.builtin "len") (fun xs H Q => ∃ (a : Addr) (es : List (κ × Addr × V)), xs = [.ref a] ∧ Rd H a (dNO T X.prog X.w a es) ∧ KeysAt T X.K H es ∧ Q (.int (es.length : Int)) H) := by
  intro pins s σ H xs us Q I r h
  obtain ⟨a, es, rfl, ha, hk, q⟩ := h
  obtain ⟨u, rfl, ru⟩ := vals1 r
  cases ru
  obtain ⟨z, l, us, hv, hm⟩ := dict_of I ha hk
  have ls : (rowsN T es us).length = es.length := by
    unfold rowsN
    rw [List.length_map, List.length_zip, ← hv.length, List.length_map, Nat.min_self]
  have h63 := line63
  refine call_len_dictH z hm (by rw [ls]; omega) ⟨.int (es.length : Int), H, ?_, ⟨_, by rw [ls]⟩, q⟩
  exact (I.tok (s.toks + 1 + 1))
/-- a store in a comprehension's dict -/
def putN (T : KT κ) (P : Program) (w : World) (K : PySem.W.Frag) (D : Addr) (y z : V) (H : Hp) (N : Hp → Prop) : Prop := ∃ (es : List (κ × Addr × V)) (k : κ) (b : Addr), y = .ref b ∧ H D = some (dNO T P w D es) ∧ KeysAt T K H es ∧ Dp K H (.ref b) (T.enc k) ∧ es.length < sizeLine ∧ N (upd H D (dNO T P w D (dSt es k b z)))
theorem putR_N {Y : Cx} (hu : Y.A.units + 64 < cLine) : PutR (putN T Y.prog Y.w Y.K) Y := by
  intro pins s σ H D y z u r N I ry rz ⟨es, k, b, ey, ha, hk, hb, hl, n⟩
  subst ey
  cases ry
  obtain ⟨zz, l, us, hv, hm⟩ := dict_of I (.inl ha) hk
  obtain ⟨_, _, nd, _⟩ := (I.hok D _ ha).1
  have ls : (rowsN T es us).length = es.length := by
    unfold rowsN
    rw [List.length_map, List.length_zip, ← hv.length, List.length_map, Nat.min_self]
  obtain ⟨us', h1, h2⟩ := rows_st (T := T) (k := k) (b := b) (v := z) (u := r) hv rz
  refine wpAny_dictSet_heap (hsz := by rw [ls]; exact l) (knd := nestedKind Y.prog Y.w) (by show Y.A.units + 8 < cLine; omega) (key_of I hb rfl b rfl) hm fun h' hm' sb => ?_
  rw [h2] at hm'
  obtain ⟨o', ds, ep, ho, hx, hd, hr, _, _⟩ := hm'
  have R : DN0 T Y.prog Y.w h' D (dSt es k b z) := ⟨zz, Nat.le_trans st_len hl, st_nodup nd, o', ds, ep, us', ho, hx, hd, h1, hr⟩
  exact ⟨_, I.write (by rw [ha]; trivial) (.inl rfl) (fun c w hc e => (sb.2 c hc).trans e) ⟨_, ho⟩ (dNO_ok T R), n⟩
theorem dg_empty (H : Hp) (h : Heap) (hb : sysModules < h.objs.size) : ObjOk X.prog X.w H (h.push { cls := .type "dict", data := .dict #[] }) h.objs.size ((fun D => dNO T X.prog X.w D []) h.objs.size) :=
  dNO_ok T (dn0_empty h (beq_eq_false_iff_ne.mpr (Nat.ne_of_gt hb)))
end
end GX
/-! the truth of a dict keyed by nested tuples; its deletion -/
namespace GX
open PySem PySem.Spec PyProof.Rows L2 GxR
section
variable {κ : Type} [DecidableEq κ] {T : KT κ} {X : Cx}
def tTruN (T : KT κ) (P : Program) (w : World) (K : PySem.W.Frag) (ta : TE) : TT := fun σ H Q => ta σ H fun x H1 => ∃ (a : Addr) (es : List (κ × Addr × V)), x = .ref a ∧ Rd H1 a (dNO T P w a es) ∧ KeysAt T K H1 es ∧ Q (!es.isEmpty) H1
theorem pt_truN {e : Expr} {ta : TE} (ha : PE X e ta) (he : ∀ whole, isTrue e X.env whole = (do let v ← whole; standAt e.pos; holding [v] (truthy v))) : PT X e (tTruN T X.prog X.w X.K ta) := by
  refine ⟨fun pins s σ H Q I h => ?_⟩
  refine isTrue_plain (thn (ha.run pins s σ H _ I h) fun v s1 ⟨x, H1, I1, r1, a, es, ex, e1, hk, q⟩ => ?_) (he _)
  subst ex
  obtain rfl : v = Value.ref a := r1
  obtain ⟨z, l, us, hv, hm⟩ := dict_of I1 e1 hk
  have ls : (rowsN T es us).length = es.length := by
    unfold rowsN
    rw [List.length_map, List.length_zip, ← hv.length, List.length_map, Nat.min_self]
  have h63 := line63
  have ee : (rowsN T es us).isEmpty = es.isEmpty := by
    rw [Bool.eq_iff_iff, List.isEmpty_iff_length_eq_zero, List.isEmpty_iff_length_eq_zero, ls]
  exact truthy_dictH z hm (by rw [ls]; omega) ⟨H1, I1.tok _, by rw [ee]; exact q⟩
end
end GX
/-! list(d) of a dict keyed by nested tuples -/
namespace GX
open PySem PySem.Spec PyProof.Rows L2 GxR
section
variable {κ : Type} [DecidableEq κ] {T : KT κ} {X : Cx} {pins : List (Addr × Obj)} {σ : L2.St} {H : Hp} {s : Shared}
theorem dn_raw {a : Addr} {es : List (κ × Addr × V)} (I : Inv X pins σ H s) (ha : Rd H a (dNO T X.prog X.w a es)) :
    (a == sysModules) = false ∧ es.length ≤ sizeLine ∧ ∃ (ds : Array DictEntry) (ep : Nat), s.heap.DictRaw a ds ep ∧ ds.size = es.length ∧ ∀ (i : Nat) (e : κ × Addr × V), es[i]? = some e → ∃ en : DictEntry, ds[i]? = some en ∧ en.key = .ref e.2.1 := by
  obtain ⟨z, l, n, o, ds, ep, us, ho, hx, hd, hv, hr⟩ := dn0_of I ha
  have lu : us.length = es.length := by rw [← hv.length, List.length_map]
  have ld : ds.size = es.length := by
    rw [← Array.length_toList, hr, List.length_map]
    unfold rowsN
    rw [List.length_map, List.length_zip, lu, Nat.min_self]
  refine ⟨z, l, ds, ep, ⟨o, ho, hx, hd⟩, ld, fun i e he => ?_⟩
  have hi : i < us.length := by rw [lu]; exact (List.getElem?_eq_some_iff.mp he).1
  have hz : (es.zip us)[i]? = some (e, us[i]) := by rw [List.getElem?_zip_eq_some]; exact ⟨he, List.getElem?_eq_getElem hi⟩
  refine ⟨entryOfKey (nestedKind X.prog X.w) (keyN (T.enc e.1), e.2.1, us[i]), ?_, rfl⟩
  rw [← Array.getElem?_toList, hr]
  unfold rowsN
  rw [List.getElem?_map, List.getElem?_map, hz]
  rfl
theorem refs_keys : ∀ es : List (κ × Addr × V), Vals (es.map fun e => V.ref e.2.1) (es.map fun e => Value.ref e.2.1)
  | [] => .nil
  | e :: es => .cons rfl (refs_keys es)
theorem raw_keys {es : List (κ × Addr × V)} {ds : Array DictEntry} {acc : Array Value} (ld : ds.size = es.length) (hk : ∀ (i : Nat) (e : κ × Addr × V), es[i]? = some e → ∃ en : DictEntry, ds[i]? = some en ∧ en.key = .ref e.2.1)
    (h1 : acc.size = ds.size) (h2 : ∀ (j : Nat) (v : Value), acc[j]? = some v → ∃ hi : j < ds.size, v = ds[j].key) : acc.toList = es.map fun e => Value.ref e.2.1 := by
  refine List.ext_getElem? fun j => ?_
  rw [Array.getElem?_toList, List.getElem?_map]
  cases e1 : es[j]? with
  | none =>
    have : es.length ≤ j := List.getElem?_eq_none_iff.mp e1
    rw [Array.getElem?_eq_none (by omega)]
    rfl
  | some e =>
    have hj : j < es.length := (List.getElem?_eq_some_iff.mp e1).1
    have hja : j < acc.size := by omega
    obtain ⟨hi, hv⟩ := h2 j acc[j] (Array.getElem?_eq_getElem hja)
    obtain ⟨en, g1, g2⟩ := hk j e e1
    rw [Array.getElem?_eq_getElem hi] at g1
    cases g1
    rw [Array.getElem?_eq_getElem hja, hv, g2]
    rfl
/-- list(d): its keys -/
theorem cr_listN (hcalm : X.calm = true) : CallR X (.type "list") (fun xs H Q => ∃ (a : Addr) (es : List (κ × Addr × V)), xs = [.ref a] ∧ Rd H a (dNO T X.prog X.w a es) ∧ ∀ p, H p = none → Q (.ref p) (upd H p (.lst (es.map fun e => V.ref e.2.1)))) := by
  intro pins s σ H xs us Q I r q
  obtain ⟨a, es, ex, hd, q⟩ := q
  subst ex
  obtain ⟨u, eu, rx⟩ := vals1 r
  subst eu
  cases rx
  obtain ⟨z, l, ds, ep, raw, ld, hk⟩ := dn_raw I hd
  refine PySem.W.kdl_call (KdlSrc.rawDict (es := ds) (ep := ep) z) (I.ok.hd hcalm) raw (by rw [ld]; exact l) fun h' tk acc c' hk' hD hacc => ?_
  have ea := raw_keys ld hk hacc.1 hacc.2
  refine ⟨.ref s.heap.objs.size, upd H s.heap.objs.size (.lst (es.map fun e => V.ref e.2.1)), I.laid (t' := tk) hk' (Nat.le_refl _)
    (show ObjOk X.prog X.w _ _ _ (.lst (es.map fun e => V.ref e.2.1)) from ⟨by rw [List.length_map]; exact l, acc.toList, c', by rw [ea]; exact refs_keys es, by rw [Array.toArray_toList]; exact hD⟩), rfl, q _ (I.hok.fresh (Nat.le_refl _))⟩
end
end GX
/-! sorted(d) of a dict keyed by nested tuples -/
namespace GX
open PySem PySem.Spec PyProof.Rows L2 GxR
section
variable {κ : Type} [DecidableEq κ] {T : KT κ} {X : Cx}
theorem each_keys : ∀ es : List (κ × Addr × V), PySem.W.EachIs (fun (u : Value) (e : κ × Addr × V) => u = Value.ref e.2.1) (es.map fun e => Value.ref e.2.1) es
  | [] => .nil
  | _ :: es => .cons rfl (each_keys es)
theorem keys_each : ∀ {us : List Value} {es : List (κ × Addr × V)}, PySem.W.EachIs (fun (u : Value) (e : κ × Addr × V) => u = Value.ref e.2.1) us es → us = es.map fun e => Value.ref e.2.1
  | _, _, .nil => rfl
  | _, _, .cons h t => by rw [h, keys_each t]; rfl
/-- the entries in the order of their keys -/
def sortN (T : KT κ) (es : List (κ × Addr × V)) : List (κ × Addr × V) := es.mergeSort (PySem.W.dataLe false fun e => T.enc e.1)
theorem cr_sortedN (hcalm : X.calm = true) (hu : X.A.units + 64 < cLine) : CallR X (.builtin "sorted") (fun xs H Q => ∃ (a : Addr) (es : List (κ × Addr × V)), xs = [.ref a] ∧ Rd H a (dNO T X.prog X.w a es) ∧ KeysAt T X.K H es ∧ PySem.W.AllAlike (es.map fun e => T.enc e.1) ∧ PySem.W.Sortable (es.map fun e => T.enc e.1) ∧
    ∀ p, H p = none → Q (.ref p) (upd H p (.lst ((sortN T es).map fun e => V.ref e.2.1)))) := by
  intro pins s σ H xs us Q I r q
  obtain ⟨a, es, ex, hd, hk, al, so, q⟩ := q
  subst ex
  obtain ⟨u, eu, rx⟩ := vals1 r
  subst eu
  cases rx
  obtain ⟨z, l, ds, ep, raw, ld, hkk⟩ := dn_raw I hd
  refine Calls.call_function_entry PyProof.Rows.kind_sorted PyProof.Rows.plain_sorted PyProof.Rows.entry_sorted (PyProof.Rows.args_sorted1 _) ?_
  unfold Builtin.«sorted»
  refine wpAny_bind (m := checkCount "sorted" 1 1 _) (wpAny_pure ?_)
  refine wpAny_bind (PySem.W.kdu_collect (A := X.A.in1) (KdlSrc.rawDict (es := ds) (ep := ep) z) (I.ok.hd hcalm) raw (by rw [ld]; exact l) fun h' tk acc hk' hacc => ?_)
  have ea := raw_keys ld hkk hacc.1 hacc.2
  have I1 : Inv X pins σ H { s with heap := h', toks := tk } := I.kept hk'
  have hla : acc.toList.length = es.length := by rw [ea, List.length_map]
  refine wpAny_bind (wpAny_newList ?_ (by rw [hla]; exact l))
  have hoL : (h'.push (seqObj "list" acc.toList.toArray 0)).get? h'.objs.size = some (seqObj "list" acc.toList.toArray 0) := Heap.get?_push_size _ rfl
  have hE : PySem.W.EachIs (fun (u : Value) (e : κ × Addr × V) => u = Value.ref e.2.1) acc.toList es := by rw [ea]; exact each_keys es
  have er : PySem.W.EachIs (fun (v : Value) (b : κ × Addr × V) => ∃ as, Reads (h'.push (seqObj "list" acc.toList.toArray 0)) v (T.enc b.1) as ∧ h'.objs.size ∉ as) acc.toList es := (PySem.W.each_mem hE).mono fun v b ⟨e, hb⟩ => by
    subst e
    obtain ⟨as, rr⟩ := Dp.reads I1 _ (V.ref b.2.1) _ (hk b hb) rfl
    exact ⟨as, PyProof.Rows.Reads.keeps (fun b o e => Heap.get?_push_of_some _ e) rr, fun hm => by
      obtain ⟨o, ho⟩ := PyProof.On.reads_mem_get rr _ hm
      exact Nat.lt_irrefl _ (Heap.lt_size ho)⟩
  show wpAny _ _ _ _ _ { s with heap := h'.push (seqObj "list" acc.toList.toArray 0), toks := tk }
  refine wpAny_bind (wpAny_holding (PySem.W.list_sort_data (s := { s with heap := h'.push (seqObj "list" acc.toList.toArray 0), toks := tk }) hoL hE er al so l (fun b hb => by
    have := T.dp b.1
    show X.A.units + 1 + 1 + _ < cLine
    omega) fun out lo eo => ?_))
  have eo' : out = (sortN T es).map fun e => Value.ref e.2.1 := keys_each eo
  obtain ⟨e', he'⟩ := PyProof.Rows.sortedHeap_at (vs := acc.toList) (out := List.toArray out) hoL
  have hlen : ((sortN T es).map fun e => V.ref e.2.1).length ≤ sizeLine := by
    rw [List.length_map, sortN, List.length_mergeSort]
    exact l
  refine wpAny_pure ⟨_, rfl, .ref h'.objs.size, upd H h'.objs.size (.lst ((sortN T es).map fun e => V.ref e.2.1)), I1.laid (t' := tk) (fun b u e => ?_) (Nat.le_refl _)
    (show ObjOk X.prog X.w _ _ _ (.lst ((sortN T es).map fun e => V.ref e.2.1)) from ⟨hlen, out, e', by rw [eo']; exact refs_keys _, he'⟩), rfl, q _ (I1.hok.fresh (Nat.le_refl _))⟩
  have hb : b < h'.objs.size := Heap.lt_size e
  rw [PyProof.Rows.sortedHeap_old (Nat.ne_of_lt hb) (by rw [size_push']; exact Nat.lt_succ_of_lt hb)]
  exact Heap.get?_push_of_some _ e
end
end GX
/-! keys (x, y, i), i a small number, have hashes of their own in every world -/
namespace GX
open PySem PySem.Spec PyProof.Rows L2 GxR
/-- one lane of a tuple's hash -/
def laneH (A i : Nat) : Nat := ((((A + i * 14029467366897019727) % 2 ^ 64 * 2 ^ 31) % 2 ^ 64 + (A + i * 14029467366897019727) % 2 ^ 64 / 2 ^ 33) * 11400714785074694791) % 2 ^ 64
def lastH (f : Nat) : Nat := (f + 2870177450013471925) % 2 ^ 64
def toldH (f : Nat) : Int := if f == 2 ^ 64 - 1 then 1546275796 else if f < 2 ^ 63 then f else (f : Int) - (2 ^ 64 : Nat)
theorem rot_back {a b : Nat} (ha : a < 2 ^ 64) (hb : b = (a * 2 ^ 31) % 2 ^ 64 + a / 2 ^ 33) : b < 2 ^ 64 ∧ b / 2 ^ 31 + b % 2 ^ 31 * 2 ^ 33 = a := by
  have e1 : a * 2 ^ 31 % 2 ^ 64 = a % 2 ^ 33 * 2 ^ 31 := by omega
  rw [e1] at hb
  omega
theorem gmul {m P Q K b : Nat} (e : P * Q = m * K + 1) (hb : b < m) : (b * P) % m * Q % m = b := by
  rw [Nat.mod_mul_mod, Nat.mul_assoc, e, Nat.mul_add, Nat.mul_one, Nat.mul_left_comm, Nat.mul_add_mod]
  exact Nat.mod_eq_of_lt hb
theorem gadd {m P Q K : Nat} (e : P * Q = m * K + 1) (A i : Nat) : (A + i * P) % m * Q % m = (A * Q + i) % m := by
  rw [Nat.mod_mul_mod, Nat.add_mul, Nat.mul_assoc, e, Nat.mul_add, Nat.mul_one, Nat.mul_left_comm, Nat.add_left_comm, Nat.mul_add_mod]
theorem mul_back {b : Nat} (hb : b < 2 ^ 64) : (b * 11400714785074694791) % 2 ^ 64 * 614540362697595703 % 2 ^ 64 = b := gmul (K := 379806830464837242) (by decide +kernel) hb
/-- the lane's sum, out of the hash -/
def backH (f : Nat) : Nat := ((f + (2 ^ 64 - 2870177450013471925)) % 2 ^ 64 * 614540362697595703 % 2 ^ 64) / 2 ^ 31 + ((f + (2 ^ 64 - 2870177450013471925)) % 2 ^ 64 * 614540362697595703 % 2 ^ 64) % 2 ^ 31 * 2 ^ 33
theorem addC {c : Nat} (h : c < 2 ^ 64) : ((c + 2870177450013471925) % 2 ^ 64 + (2 ^ 64 - 2870177450013471925)) % 2 ^ 64 = c := by omega
theorem lane_core {a b : Nat} (h : b < 2 ^ 64 ∧ b / 2 ^ 31 + b % 2 ^ 31 * 2 ^ 33 = a) : backH (lastH (b * 11400714785074694791 % 2 ^ 64)) = a := by
  unfold backH lastH
  rw [addC (Nat.mod_lt _ (by decide)), mul_back h.1]
  exact h.2
theorem lane_back (A i : Nat) : backH (lastH (laneH A i)) = (A + i * 14029467366897019727) % 2 ^ 64 := by
  unfold laneH
  exact lane_core (rot_back (Nat.mod_lt _ (by decide)) rfl)
theorem add_back (A i : Nat) : (A + i * 14029467366897019727) % 2 ^ 64 * 839798700976720815 % 2 ^ 64 = (A * 839798700976720815 + i) % 2 ^ 64 := gadd (K := 638699622168397319) (by decide +kernel) A i
theorem told_inj {f g : Nat} (hf : f < 2 ^ 64) (hg : g < 2 ^ 64) (h : toldH f = toldH g) : f = g ∨ (f = 2 ^ 64 - 1 ∧ g = 1546275796) ∨ (g = 2 ^ 64 - 1 ∧ f = 1546275796) := by
  unfold toldH at h
  by_cases a : f = 2 ^ 64 - 1
  · by_cases b : g = 2 ^ 64 - 1
    · exact .inl (a.trans b.symm)
    · rw [if_pos (beq_iff_eq.mpr a), if_neg (fun z => b (beq_iff_eq.mp z))] at h
      split at h
      · omega
      · omega
  · rw [if_neg (fun z => a (beq_iff_eq.mp z))] at h
    by_cases b : g = 2 ^ 64 - 1
    · rw [if_pos (beq_iff_eq.mpr b)] at h
      split at h
      · omega
      · omega
    · rw [if_neg (fun z => b (beq_iff_eq.mp z))] at h
      split at h
      · split at h
        · omega
        · omega
      · split at h
        · omega
        · omega
theorem fin0 {a i j : Nat} (hi : i < 4096) (hj : j < 4096) (h : (a + i) % 2 ^ 64 = (a + j) % 2 ^ 64) : i = j := by omega
theorem fin1 {a i j : Nat} (hi : i < 4096) (hj : j < 4096) (h1 : 16680575644954319924 = (a + i) % 2 ^ 64) (h2 : 7868393759306762799 = (a + j) % 2 ^ 64) : i = j := by omega
theorem lanes_apart {A i j : Nat} (hi : i < 4096) (hj : j < 4096) (h : toldH (lastH (laneH A i)) = toldH (lastH (laneH A j))) : i = j := by
  have b1 : backH (2 ^ 64 - 1) * 839798700976720815 % 2 ^ 64 = 16680575644954319924 := by decide +kernel
  have b2 : backH 1546275796 * 839798700976720815 % 2 ^ 64 = 7868393759306762799 := by decide +kernel
  have ei : backH (lastH (laneH A i)) * 839798700976720815 % 2 ^ 64 = (A * 839798700976720815 + i) % 2 ^ 64 := by rw [lane_back]; exact add_back A i
  have ej : backH (lastH (laneH A j)) * 839798700976720815 % 2 ^ 64 = (A * 839798700976720815 + j) % 2 ^ 64 := by rw [lane_back]; exact add_back A j
  rcases told_inj (Nat.mod_lt _ (by decide)) (Nat.mod_lt _ (by decide)) h with e | ⟨e1, e2⟩ | ⟨e1, e2⟩
  · rw [show lastH (laneH A i) = lastH (laneH A j) from e, ej] at ei
    exact (fin0 hj hi ei).symm
  · rw [show lastH (laneH A i) = 2 ^ 64 - 1 from e1, b1] at ei
    rw [show lastH (laneH A j) = 1546275796 from e2, b2] at ej
    exact fin1 hi hj ei ej
  · rw [show lastH (laneH A i) = 1546275796 from e2, b2] at ei
    rw [show lastH (laneH A j) = 2 ^ 64 - 1 from e1, b1] at ej
    exact (fin1 hj hi ej ei).symm
end GX
/-! keys (x, y, i), i below 4096: their hashes differ in every world -/
namespace GX
open PySem PySem.Spec PyProof.Rows L2 GxR
def accG (m p1 p2 : Nat) (a : Nat) (h : Int) : Nat := (((a + (h % (m : Int)).toNat * p2) % m * 2 ^ 31) % m + (a + (h % (m : Int)).toNat * p2) % m / 2 ^ 33) * p1 % m
def finG (m a x : Nat) : Int := if (a + x) % m == m - 1 then 1546275796 else if (a + x) % m < 2 ^ 63 then ((a + x) % m : Nat) else (((a + x) % m : Nat) : Int) - m
def tupG (m p1 p2 p5 x : Nat) (hs : List Int) : Int := finG m (hs.foldl (accG m p1 p2) p5) (hs.length ^^^ (p5 ^^^ x))
theorem tup_eq (hs : List Int) : Builtin.Tuple.tupleHashOf hs = tupG (2 ^ 64) 11400714785074694791 14029467366897019727 2870177450012600261 3527539 hs := by
  unfold Builtin.Tuple.tupleHashOf tupG finG accG
  dsimp only
theorem tup3 (m p1 p2 p5 x : Nat) (a b c : Int) : tupG m p1 p2 p5 x [a, b, c] = finG m (accG m p1 p2 (accG m p1 p2 (accG m p1 p2 p5 a) b) c) (3 ^^^ (p5 ^^^ x)) := by
  unfold tupG
  rw [List.foldl_cons, List.foldl_cons, List.foldl_cons, List.foldl_nil, List.length_cons, List.length_cons, List.length_cons, List.length_nil]
theorem xor3 : (3 ^^^ (2870177450012600261 ^^^ 3527539) : Nat) = 2870177450013471925 := by decide +kernel
theorem acc_lane {A i : Nat} (hi : i < 4096) : accG (2 ^ 64) 11400714785074694791 14029467366897019727 A (i : Int) = laneH A i := by
  unfold accG laneH
  have e : (((i : Int)) % ((2 ^ 64 : Nat) : Int)).toNat = i := by omega
  rw [e]
theorem fin_told (a : Nat) : finG (2 ^ 64) a 2870177450013471925 = toldH (lastH a) := rfl
theorem hash_small {i : Nat} (h : i < 4096) : hashInt (i : Int) = (i : Int) := by
  have k : ∀ i < 4096, hashInt ((i : Nat) : Int) = ((i : Nat) : Int) := by decide +kernel
  exact k i h
theorem told_range (f : Nat) (h : f < 2 ^ 64) : -(2 ^ 63 : Int) ≤ toldH f ∧ toldH f < 2 ^ 63 ∧ toldH f ≠ -1 := by
  unfold toldH
  by_cases a : f = 2 ^ 64 - 1
  · rw [if_pos (beq_iff_eq.mpr a)]
    decide
  · rw [if_neg (fun z => a (beq_iff_eq.mp z))]
    split
    · omega
    · omega
theorem reduce_told (f : Nat) (h : f < 2 ^ 64) : reduceHash (toldH f) = toldH f := by
  obtain ⟨h1, h2, h3⟩ := told_range f h
  unfold reduceHash
  rw [if_pos (by rw [Bool.and_eq_true, decide_eq_true_eq, decide_eq_true_eq]; exact ⟨h1, h2⟩), if_neg (fun z => h3 (beq_iff_eq.mp z))]
/-- the keys (x, y, i) and (x, y, j) hash apart -/
theorem hash_apart {w : World} {x y : NestedKey} {i j : Nat} (hi : i < 4096) (hj : j < 4096) (h : NestedKey.hash w (.tup [x, y, .num (i : Int)]) = NestedKey.hash w (.tup [x, y, .num (j : Int)])) : i = j := by
  have key : ∀ i < 4096, NestedKey.hash w (.tup [x, y, .num ((i : Nat) : Int)]) = toldH (lastH (laneH (accG (2 ^ 64) 11400714785074694791 14029467366897019727 (accG (2 ^ 64) 11400714785074694791 14029467366897019727 2870177450012600261 (x.hash w)) (y.hash w)) i)) := fun i hi => by
    have e : NestedKey.hashes w [x, y, .num (i : Int)] = [x.hash w, y.hash w, (i : Int)] := by
      rw [NestedKey.hashes, NestedKey.hashes, NestedKey.hashes, NestedKey.hashes, NestedKey.hash, hash_small hi]
    rw [NestedKey.hash, e, tup_eq, tup3, xor3, acc_lane hi, fin_told]
    exact reduce_told _ (Nat.mod_lt _ (by decide))
  rw [key i hi, key j hj] at h
  exact lanes_apart hi hj h
end GX
/-! dict(d), d == e of dicts keyed by nested tuples; what can be read stays -/
namespace GX
open PySem PySem.Spec PyProof.Rows L2 GxR
/-- what can be read can be read later too (objects of own classes aside) -/
def RS (H H' : Hp) : Prop := ∀ a u, (∀ o v, u ≠ .frz o v) → (∀ C dx fs, u ≠ .ins C dx fs) → (∀ ps, u ≠ .tbl ps) → Rd H a u → Rd H' a u
theorem RS.refl {H : Hp} : RS H H := fun _ _ _ _ _ h => h
theorem RS.trans {H H1 H2 : Hp} (a : RS H H1) (b : RS H1 H2) : RS H H2 := fun x u n m t h => b x u n m t (a x u n m t h)
theorem rs_same {H H' : Hp} (s : Same H H') : RS H H' := fun a u _ _ _ h => by
  rcases h with h | ⟨o, h⟩
  · exact .inl (s a _ h)
  · exact .inr ⟨o, s a _ h⟩
theorem rs_lock {H : Hp} {d : Addr} {u : HO} {o : Obj} (h : H d = some u) (n : ∀ o v, u ≠ .frz o v) : RS H (upd H d (.frz o u)) := fun a v _ _ _ r => by
  by_cases e : a = d
  · subst e
    rcases r with r | ⟨o', r⟩
    · rw [h] at r
      cases r
      exact .inr ⟨o, upd_same⟩
    · rw [h] at r
      cases r
      exact absurd rfl (n o' v)
  · rcases r with r | ⟨o', r⟩
    · exact .inl ((upd_ne e).trans r)
    · exact .inr ⟨o', (upd_ne e).trans r⟩
theorem rs_unlock {H : Hp} {d : Addr} {u : HO} {o : Obj} (h : H d = some (.frz o u)) : RS H (upd H d u) := fun a v n _ _ r => by
  by_cases e : a = d
  · subst e
    rcases r with r | ⟨o', r⟩
    · rw [h] at r
      cases r
      exact absurd rfl (n o u)
    · rw [h] at r
      cases r
      exact .inl upd_same
  · rcases r with r | ⟨o', r⟩
    · exact .inl ((upd_ne e).trans r)
    · exact .inr ⟨o', (upd_ne e).trans r⟩
theorem rs_ins {H : Hp} {x C dx : Addr} {fs : List (Str × V)} {o : HO} (h : H x = some (.ins C dx fs)) : RS H (upd H x o) := fun a v _ m _ r => by
  by_cases e : a = x
  · subst e
    rcases r with r | ⟨o', r⟩
    · rw [h] at r
      cases r
      exact absurd rfl (m C dx fs)
    · rw [h] at r
      cases r
  · rcases r with r | ⟨o', r⟩
    · exact .inl ((upd_ne e).trans r)
    · exact .inr ⟨o', (upd_ne e).trans r⟩
/-- a table of generators changes, nothing else that stood -/
theorem rs_tb {H H' : Hp} {T : Addr} (hT : ∃ ps, H T = some (.tbl ps)) (h : ∀ b o, b ≠ T → H b = some o → H' b = some o) : RS H H' := fun a v _ _ t r => by
  obtain ⟨ps, hT⟩ := hT
  by_cases e : a = T
  · subst e
    rcases r with r | ⟨o', r⟩
    · rw [hT] at r
      cases r
      exact absurd rfl (t ps)
    · rw [hT] at r
      cases r
  · rcases r with r | ⟨o', r⟩
    · exact .inl (h _ _ e r)
    · exact .inr ⟨o', h _ _ e r⟩
theorem RS.dn {κ : Type} [DecidableEq κ] {T : KT κ} {P : Program} {w : World} {H H' : Hp} {a : Addr} {es : List (κ × Addr × V)} (s : RS H H') (h : Rd H a (dNO T P w a es)) : Rd H' a (dNO T P w a es) := s _ _ (fun _ _ h => nomatch h) (fun _ _ _ h => nomatch h) (fun _ h => nomatch h) h
section
variable {K : PySem.W.Frag} {H H' : Hp}
theorem RS.sqt (s : RS H H') {a : Addr} {xs : List V} (h : SqT K H a xs) : SqT K H' a xs := h.imp (s _ _ (fun _ _ h => nomatch h) (fun _ _ _ h => nomatch h) (fun _ h => nomatch h)) id
theorem RS.sql (s : RS H H') {a : Addr} {xs : List V} (h : SqL K H a xs) : SqL K H' a xs := h.imp (s _ _ (fun _ _ h => nomatch h) (fun _ _ _ h => nomatch h) (fun _ h => nomatch h)) id
mutual
theorem Dp.rs (s : RS H H') : ∀ (d : PyData) (v : V), Dp K H v d → Dp K H' v d
  | .none, _, h => by cases h; exact .non
  | .bool b, _, h => by cases h; exact .bl b
  | .int i, _, h => by cases h; exact .int i
  | .str x, _, h => by cases h; exact .str x
  | .list ds, _, h => by
    cases h with
    | lst hs ha => exact .lst (s.sql hs) (Dp.rsAll s ds _ ha)
  | .tuple ds, _, h => by
    cases h with
    | tup hs ha => exact .tup (s.sqt hs) (Dp.rsAll s ds _ ha)
  | .dict _, _, h => nomatch h
theorem Dp.rsAll (s : RS H H') : ∀ (ds : List PyData) (vs : List V), DpAll K H vs ds → DpAll K H' vs ds
  | [], _, h => by cases h; exact .nil
  | d :: ds, _, h => by
    cases h with
    | cons h1 h2 => exact .cons (Dp.rs s d _ h1) (Dp.rsAll s ds _ h2)
end
end
/-- tuples stay: enough for data of ints, texts and tuples -/
def TSt (K : PySem.W.Frag) (H H' : Hp) : Prop := ∀ x ys, SqT K H x ys → SqT K H' x ys
section
variable {K : PySem.W.Frag} {H H' : Hp}
theorem RS.tst (s : RS H H') : TSt K H H' := fun _ _ h => s.sqt h
theorem TSt.refl : TSt K H H := fun _ _ h => h
theorem TSt.trans {H2 : Hp} (a : TSt K H H') (b : TSt K H' H2) : TSt K H H2 := fun x ys h => b x ys (a x ys h)
/-- something that is no tuple is written -/
theorem tst_upd {E : Addr} {o o' : HO} (e : H E = some o) (n : ∀ xs, o ≠ .tup xs) (n' : ∀ p xs, o ≠ .frz p (.tup xs)) : TSt K H (upd H E o') := fun x zs h => by
  rcases h with r | r
  · by_cases q : x = E
    · subst q
      rcases r with r | ⟨p, r⟩
      · rw [e] at r
        cases r
        exact absurd rfl (n zs)
      · rw [e] at r
        cases r
        exact absurd rfl (n' p zs)
    · rcases r with r | ⟨p, r⟩
      · exact .inl (.inl ((upd_ne q).trans r))
      · exact .inl (.inr ⟨p, (upd_ne q).trans r⟩)
  · exact .inr r
mutual
theorem Dp.tst (s : TSt K H H') : ∀ (d : PyData) (v : V), kd d = true → Dp K H v d → Dp K H' v d
  | .int i, _, _, h => by cases h; exact .int i
  | .str x, _, _, h => by cases h; exact .str x
  | .tuple ds, _, k, h => by
    cases h with
    | tup hs ha => exact .tup (s _ _ hs) (Dp.tstAll s ds _ (by rw [kd] at k; exact k) ha)
  | .none, _, k, _ => by simp [kd] at k
  | .bool _, _, k, _ => by simp [kd] at k
  | .list _, _, k, _ => by simp [kd] at k
  | .dict _, _, k, _ => by simp [kd] at k
theorem Dp.tstAll (s : TSt K H H') : ∀ (ds : List PyData) (vs : List V), kdAll ds = true → DpAll K H vs ds → DpAll K H' vs ds
  | [], _, _, h => by cases h; exact .nil
  | d :: ds, _, k, h => by
    rw [kdAll, Bool.and_eq_true] at k
    cases h with
    | cons h1 h2 => exact .cons (Dp.tst s d _ k.1 h1) (Dp.tstAll s ds _ k.2 h2)
end
end
section
variable {κ : Type} [DecidableEq κ] {T : KT κ} {K : PySem.W.Frag} {H H' : Hp}
theorem KT.ts {v : V} {k : κ} (s : TSt K H H') (h : Dp K H v (T.enc k)) : Dp K H' v (T.enc k) := Dp.tst s _ _ (T.kd k) h
theorem KeysAt.ts {es : List (κ × Addr × V)} (s : TSt K H H') (h : KeysAt T K H es) : KeysAt T K H' es := fun e he => KT.ts s (h e he)
end
section
variable {κ : Type} [DecidableEq κ] {T : KT κ} {X : Cx} {pins : List (Addr × Obj)} {σ : L2.St} {H : Hp} {s : Shared}
theorem call_dict_H {prog : Program} {w : World} {κ' : Type} [DecidableEq κ'] {knd : HeapKind prog w κ'} {A : Around} {E : Value → Shared → Prop} {s : Shared} {o : Addr} {more : List (κ' × Addr × Value)} {Q : Value → Shared → Prop} (hu : knd.room A.in1.in1) (hoS : (o == sysModules) = false) (ho : s.heap.DictOfH knd o more) (ho' : (s.heap.push { cls := .type "dict", data := .dict #[] }).DictOfH knd o more)
    (hap : (∀ x ∈ more, Shared.TypeIs { s with heap := s.heap.push { cls := .type "dict", data := .dict #[] } } (.ref x.2.1) "tuple") ∧ (more.map fun x => knd.hash x.1).Nodup) (hsz : more.length ≤ sizeLine)
    (h : ∀ h', h'.DictOfH knd s.heap.objs.size more → Heap.SameBut s.heap.objs.size (s.heap.push { cls := .type "dict", data := .dict #[] }) h' → Q (.ref s.heap.objs.size) { s with heap := h' }) :
    wpAny (model prog w) A (call (.type "dict") [.ref o]) Q E s := by
  refine callType_codes (Q₁ := fun obj s₁ => obj = .ref s.heap.objs.size ∧ s₁ = { s with heap := s.heap.push { cls := .type "dict", data := .dict #[] } }) F.kt_called_dict (F.kt_typeCall_dict_1 _) F.entry_dict_init (kt_code_dict_new _ ⟨rfl, rfl⟩) ?_
  rintro obj s₁ ⟨rfl, rfl⟩
  have hnew : (s.heap.push { cls := .type "dict", data := .dict #[] }).DictOfH knd s.heap.objs.size [] := Heap.DictOfH.new s.heap
  have hdo : s.heap.objs.size ≠ o := by
    obtain ⟨_, _, _, hg, _⟩ := ho
    exact fun e => absurd (Heap.lt_size hg) (by rw [e]; exact Nat.lt_irrefl _)
  have hn := ho.nodup
  have hT : Shared.TypeIs { s with heap := s.heap.push { cls := .type "dict", data := .dict #[] } } (.ref s.heap.objs.size) "dict" := ⟨_, Heap.get?_push_size _ rfl, rfl⟩
  refine ⟨hT, F.args_dict_init_2 _ _, ?_⟩
  unfold Builtin.«dict.__init__»
  refine wpAny_bind ?_
  unfold Builtin.Dict.selfAndRest
  refine wpAny_bind (wpAny_notOrdered_dict hT ?_)
  show wpAny _ _ (pure (s.heap.objs.size, [Value.ref o])) _ _ _
  refine wpAny_pure ?_
  show wpAny _ _ (Builtin.Dict.updateFrom "dict.__init__" s.heap.objs.size (.ref o) [] .none) _ _ _
  refine updateFrom_dictH (A := A.in1) .none hu hdo hoS hnew ho' (.inr hap) (by simpa using hsz) fun h' hd' _ hs' => ?_
  rw [storedAllH_nil_of_nodup more hn] at hd'
  exact ⟨rfl, h h' hd' hs'⟩
/-- dict(d) -/
theorem cr_dictN (hu : X.A.units + 64 < cLine) : CallR X (.type "dict") (fun xs H Q => ∃ (a : Addr) (es : List (κ × Addr × V)), xs = [.ref a] ∧ Rd H a (dNO T X.prog X.w a es) ∧ KeysAt T X.K H es ∧ (es.map fun e => NestedKey.hash X.w (keyN (T.enc e.1))).Nodup ∧ ∀ p, H p = none → Q (.ref p) (upd H p (dNO T X.prog X.w p es))) := by
  intro pins s σ H xs us Q I r q
  obtain ⟨a, es, ex, hd, hk, hh, q⟩ := q
  subst ex
  obtain ⟨u, eu, rx⟩ := vals1 r
  subst eu
  cases rx
  obtain ⟨z, l, us, hv, hm⟩ := dict_of I hd hk
  have ls : (rowsN T es us).length = es.length := by
    unfold rowsN
    rw [List.length_map, List.length_zip, ← hv.length, List.length_map, Nat.min_self]
  obtain ⟨_, _, nd, _⟩ := dn0_of I hd
  have lu : us.length = es.length := by rw [← hv.length, List.length_map]
  have eh : ((rowsN T es us).map fun x => (nestedKind X.prog X.w).hash x.1) = es.map fun e => NestedKey.hash X.w (keyN (T.enc e.1)) := by
    unfold rowsN
    rw [List.map_map]
    conv => rhs; rw [show es = (es.zip us).map Prod.fst from (List.map_fst_zip (by omega)).symm, List.map_map]
    rfl
  have h63 := line63
  have hm' : (s.heap.push { cls := .type "dict", data := .dict #[] }).DictOfH (nestedKind X.prog X.w) a (rowsN T es us) := by
    obtain ⟨o, ds, ep, g1, g2, g3, g4, g5, g6⟩ := id hm
    exact ⟨o, ds, ep, Heap.get?_push_of_some _ g1, g2, g3, g4, fun x hx => nestedKind_stays.stays (fun b o _ _ e _ => Heap.get?_push_of_some _ e) (g5 x hx), g6⟩
  refine call_dict_H (knd := nestedKind X.prog X.w) (by show X.A.units + 1 + 1 + 8 < cLine; omega) z hm hm' ⟨fun x hx => ?_, by rw [eh]; exact hh⟩ (by rw [ls]; omega) fun h' hd' hs' => ?_
  · obtain ⟨_, _, _, _, _, _, _, g5, _⟩ := hm'
    exact nestedKind_stays.tuple (g5 x hx)
  · have z' : (s.heap.objs.size == sysModules) = false := beq_eq_false_iff_ne.mpr (Nat.ne_of_gt I.big)
    obtain ⟨o', ds, ep, ho, hx, hdd, hr, _, _⟩ := hd'
    have R : DN0 T X.prog X.w h' s.heap.objs.size es := ⟨z', l, nd, o', ds, ep, us, ho, hx, hdd, hv, hr⟩
    exact ⟨.ref s.heap.objs.size, _, I.laid (t' := s.toks) (fun b u e => (hs'.2 b (Nat.ne_of_lt (Heap.lt_size e))).trans (Heap.get?_push_of_some _ e)) (Nat.le_refl _) (dNO_ok T R), rfl, q _ (I.hok.fresh (Nat.le_refl _))⟩
end
end GX
/-! d == e of dicts keyed by nested tuples -/
namespace GX
open PySem PySem.Spec PyProof.Rows PyProof.V L2 GxR
section
variable {prog : Program} {w : World} {K : Type} [DecidableEq K] {knd : HeapKind prog w K} {A : Around} {E : Value → Shared → Prop} {s : Shared}
inductive HitsH {K : Type} [DecidableEq K] (prog : Program) (w : World) (A : Around) (s : Shared) (kb : List (K × Addr × Value)) : List (K × Addr × Value) → Bool → Prop
  | nil : HitsH prog w A s kb [] true
  | miss {k : K} {a : Addr} {v : Value} {r : List (K × Addr × Value)} : atKey kb k = none → HitsH prog w A s kb ((k, a, v) :: r) false
  | hit {k : K} {a b : Addr} {v y : Value} {r : List (K × Addr × Value)} {e c : Bool} : atKey kb k = some (b, y) → SeqAt.EqP prog w A s v y e → HitsH prog w A s kb r c → HitsH prog w A s kb ((k, a, v) :: r) (e && c)
theorem HitsH.inv {kb : List (K × Addr × Value)} {k : K} {a : Addr} {v : Value} {r : List (K × Addr × Value)} {b : Bool} (h : HitsH prog w A s kb ((k, a, v) :: r) b) :
    (atKey kb k = none ∧ b = false) ∨ ∃ c y e b', atKey kb k = some (c, y) ∧ SeqAt.EqP prog w A s v y e ∧ HitsH prog w A s kb r b' ∧ b = (e && b') := by
  cases h with
  | miss hn => exact .inl ⟨hn, rfl⟩
  | hit hy he hr => exact .inr ⟨_, _, _, _, hy, he, hr, rfl⟩
theorem at_of_get {ys : List (K × Addr × Value)} {k : K} {j : Nat} {p : Addr × Value} (n : (ys.map (·.1)).Nodup) (h : ys[j]? = some (k, p)) : atKey ys k = some p := by
  induction ys generalizing j with
  | nil => cases h
  | cons y ys ih =>
    rw [List.map_cons, List.nodup_cons] at n
    cases j with
    | zero =>
      simp only [List.getElem?_cons_zero, Option.some.injEq] at h
      subst h
      unfold atKey
      simp
    | succ j =>
      rw [List.getElem?_cons_succ] at h
      have := ih n.2 h
      have hm : k ∈ ys.map (·.1) := List.mem_map.mpr ⟨(k, p), List.mem_of_getElem? h, rfl⟩
      have hk : y.1 ≠ k := fun e => n.1 (by rw [e]; exact hm)
      unfold atKey at this ⊢
      simp only [List.find?_cons]
      rw [show decide (y.1 = k) = false from decide_eq_false hk]
      exact this
theorem at_none {ys : List (K × Addr × Value)} {k : K} (h : ∀ (j : Nat) (p : Addr × Value), ys[j]? ≠ some (k, p)) : atKey ys k = none := by
  unfold atKey
  cases e : ys.find? fun x => decide (x.1 = k) with
  | none => rfl
  | some x =>
    obtain ⟨j, hj⟩ := List.getElem?_of_mem (List.mem_of_find?_eq_some e)
    have hk : x.1 = k := of_decide_eq_true (List.find?_some (p := fun x : K × Addr × Value => decide (x.1 = k)) e)
    exact absurd (by rw [hj, ← hk]) (h j x.2)
theorem samePairsH {nm : String} {a b : Addr} {ka kb : List (K × Addr × Value)} {r : Bool} {Q : Bool → Shared → Prop} (hu : knd.room A) (ha : (a == sysModules) = false) (hb : (b == sysModules) = false)
    (da : s.heap.DictOfH knd a ka) (db : s.heap.DictOfH knd b kb) (hits : ka.length = kb.length → HitsH prog w A s kb ka r) (h : Q (ka.length == kb.length && r) s) :
    wpAny (model prog w) A (Builtin.Dict.samePairs nm a b) Q E s := by
  obtain ⟨oa, es, ep, hoa, _, hda, hea, hia, hna⟩ := da
  obtain ⟨ob, es', ep', hob, _, hdb, heb, hib, hnb⟩ := db
  have hla : ka.length = es.size := (size_of_entries hea).symm
  have hlb : kb.length = es'.size := (size_of_entries heb).symm
  rw [hla, hlb] at h
  unfold Builtin.Dict.samePairs Builtin.Dict.showsAll
  rw [if_neg (show ¬ (a == sysModules) = true by rw [ha]; exact Bool.false_ne_true), if_neg (show ¬ (b == sysModules) = true by rw [hb]; exact Bool.false_ne_true)]
  refine wpAny_bind (wpAny_pure (wpAny_bind (wpAny_pure ?_)))
  refine wpAny_bind (wpAny_dictEntries hoa hda ?_)
  dsimp only
  refine wpAny_bind (wpAny_dictEntries hob hdb ?_)
  by_cases hsz : es.size = es'.size
  case neg =>
    rw [if_pos (by simpa using hsz)]
    have hbf : (es.size == es'.size) = false := by simpa using hsz
    rw [hbf, Bool.false_and] at h
    exact wpAny_bind (wpAny_rule (wpAny_pure h))
  case pos =>
    have h' : Q r s := by simpa [hsz] using h
    have hits' := hits (by rw [hla, hlb]; exact hsz)
    rw [if_neg (by rw [hsz]; simp)]
    refine wpAny_bind (wpAny_dictEpoch hoa hda ?_)
    refine wpAny_bind ?_
    rw [Std.Legacy.Range.forIn_eq_forIn_range']
    simp only [Std.Legacy.Range.size, Nat.sub_zero, Nat.add_sub_cancel, Nat.div_one]
    refine wpAny_forIn_list _
      (fun rest q s' => s' = s ∧ q = (none, ()) ∧ ∃ i, rest = List.range' i (es.size - i) ∧ i ≤ es.size ∧ HitsH prog w A s kb (ka.drop i) r)
      _ ?_ ?_ _ _ ⟨rfl, rfl, 0, by simp, Nat.zero_le _, hits'⟩
    · rintro x rest q s' ⟨rfl, rfl, i, hr, hi, hpre⟩
      have hlt : i < es.size := by
        rcases Nat.lt_or_ge i es.size with h | h
        · exact h
        · rw [Nat.sub_eq_zero_of_le h] at hr; simp at hr
      obtain ⟨rfl, hrest⟩ : x = i ∧ rest = List.range' (i + 1) (es.size - (i + 1)) := by
        have e : es.size - i = (es.size - (i + 1)) + 1 := by omega
        rw [e, List.range'_succ] at hr
        injection hr with h1 h2
        exact ⟨h1, h2⟩
      refine wpAny_bind (wpAny_dictEntries hoa hda ?_)
      have hlt' : x < ka.length := by rw [hla]; exact hlt
      obtain ⟨k, ad, v, hkv⟩ : ∃ k ad v, ka[x] = (k, ad, v) := ⟨_, _, _, rfl⟩
      have hdrop : ka.drop x = (k, ad, v) :: ka.drop (x + 1) := by rw [← hkv]; exact List.drop_eq_getElem_cons hlt'
      have hex : es[x]? = some (entryOfKey knd (k, ad, v)) := by rw [entry_at hea x, List.getElem?_eq_getElem hlt', hkv]; rfl
      rw [hex]
      have hkey := hia (k, ad, v) (hkv ▸ List.getElem_mem hlt')
      rw [hdrop] at hpre
      refine wpAny_bind (wpAny_holding (wpAny_bind (wpAny_dictFind_heap hu hkey hob hdb heb hib hnb (fun hno => ?_) fun j p hj => ?_)))
      · have hn : atKey kb k = none := at_none hno
        rcases hpre.inv with ⟨_, er⟩ | ⟨_, y, _, _, hy, _⟩
        · rw [er] at h'
          refine wpAny_pure ?_
          show wpAny _ _ (if (!false) = true then _ else _) _ _ _
          rw [if_pos (by decide)]
          exact wpAny_pure (wpAny_pure h')
        · rw [hn] at hy; exact nomatch hy
      · have hv' : atKey kb k = some p := at_of_get hnb hj
        have hej : es'[j]? = some (entryOfKey knd (k, p)) := by rw [entry_at heb j, hj]; rfl
        refine wpAny_bind (wpAny_dictEntries hob hdb ?_)
        rw [hej]
        rcases hpre.inv with ⟨hn, _⟩ | ⟨c, y, e, b', hy, he, hrr, er⟩
        · rw [hv'] at hn; exact nomatch hn
        · have ey : p = (c, y) := Option.some.inj (hv'.symm.trans hy)
          subst ey
          refine wpAny_holding (he _ _ ?_)
          cases e with
          | false =>
            rw [er, Bool.false_and] at h'
            show wpAny _ _ (if (!false) = true then _ else _) _ _ _
            rw [if_pos (by decide)]
            exact wpAny_pure (wpAny_pure h')
          | true =>
            rw [Bool.true_and] at er
            rw [← er] at hrr
            show wpAny _ _ (if (!true) = true then _ else _) _ _ _
            rw [if_neg (by decide)]
            refine wpAny_bind (wpAny_dictEpoch hoa hda ?_)
            rw [if_neg (by simp)]
            exact wpAny_pure ⟨rfl, rfl, x + 1, hrest, hlt, hrr⟩
    · rintro q s' ⟨rfl, rfl, i, hr, hi, hpre⟩
      have hin : i = es.size := by
        rcases Nat.lt_or_ge i es.size with h | h
        · have e : es.size - i = (es.size - (i + 1)) + 1 := by omega
          rw [e, List.range'_succ] at hr; exact nomatch hr
        · exact Nat.le_antisymm hi h
      refine wpAny_pure ?_
      rw [hin, ← hla, List.drop_length] at hpre
      cases hpre
      exact h'
theorem rcH_dicts {a b : Addr} {ka kb : List (K × Addr × Value)} {r : Bool} (hk : knd.room A.in1) (ha : (a == sysModules) = false) (hb : (b == sysModules) = false)
    (da : s.heap.DictOfH knd a ka) (db : s.heap.DictOfH knd b kb) (hu : A.units < cLine) (hits : ka.length = kb.length → HitsH prog w A.in1 s kb ka r) (E Q : Value → Shared → Prop) (h : Q (.bool (ka.length == kb.length && r)) s) : wpAny (model prog w) A (richCompare .Eq (.ref a) (.ref b)) Q E s := by
  refine wpAny_richCompare_same_room (op := .Eq) da.typeIs db.typeIs PySem.F.slot_dict_eq (wpAny_call_entry PySem.F.slot_dict_eq da.typeIs PySem.F.entry_dict_eq ?_ (PySem.F.args_dict_eq_2 _ _)) hu
  show wpAny _ _ (Builtin.Dict.dictSlotArgs "__eq__" ⟨[.ref a, .ref b], []⟩ >>= _) _ _ s
  refine wpAny_bind ?_
  unfold Builtin.Dict.dictSlotArgs
  refine wpAny_bind (wpAny_notOrdered_dict da.typeIs ?_)
  show wpAny _ _ (pure (Value.ref a, Value.ref b)) _ _ s
  refine wpAny_pure ?_
  refine wpAny_bind (wpAny_isInstance (T := "dict") db.typeIs PySem.F.sub_dict_dict ?_)
  simp only [Bool.not_true, Bool.false_eq_true, if_false]
  refine wpAny_bind (wpAny_pure (wpAny_bind (wpAny_pure ?_)))
  refine wpAny_bind (samePairsH hk ha hb da db hits ?_)
  refine wpAny_pure ⟨_, rfl, ?_, ?_⟩
  · exact fun x => nomatch x
  · simpa using h
end
section
variable {κ : Type} [DecidableEq κ] {T : KT κ} {X : Cx} {pins : List (Addr × Obj)} {σ : L2.St} {H : Hp} {s : Shared}
/-- the two dicts have equal values at equal keys; dv, dw: the values' data -/
def sameD (dv dw : κ → PyData) (es fs : List (κ × Addr × V)) : Bool := es.all fun e => (fs.any fun f => decide (f.1 = e.1)) && PyData.eqv (dv e.1) (dw e.1)
/-- the values are plain data -/
def ValsD (K : PySem.W.Frag) (H : Hp) (dv : κ → PyData) (es : List (κ × Addr × V)) : Prop := ∀ e ∈ es, Dp K H e.2.2 (dv e.1) ∧ (dv e.1).plain = true ∧ (dv e.1).depth ≤ 40
theorem hits_of {A : Around} (hu : A.units + 41 < cLine) (I : Inv X pins σ H s) {dv dw : κ → PyData} {fs : List (κ × Addr × V)} {vs : List Value} (hv : Vals (fs.map (·.2.2)) vs) (hf : ValsD X.K H dw fs) :
    ∀ {es : List (κ × Addr × V)} {us : List Value}, Vals (es.map (·.2.2)) us → ValsD X.K H dv es → HitsH X.prog X.w A s (rowsN T fs vs) (rowsN T es us) (sameD dv dw es fs)
  | [], _, .nil, _ => .nil
  | e :: es, u :: us, .cons r t, hd => by
    show HitsH _ _ _ _ _ ((keyN (T.enc e.1), e.2.1, u) :: rowsN T es us) _
    unfold sameD
    rw [List.all_cons]
    rcases rows_find (T := T) (k := e.1) hv with ⟨e1, e2⟩ | ⟨f, y, e1, e2, ry⟩
    · have : (fs.any fun f => decide (f.1 = e.1)) = false := by
        rw [← Bool.not_eq_true, List.any_eq_true]
        rintro ⟨f, hf1, hf2⟩
        exact absurd hf2 (by rw [List.find?_eq_none] at e2; exact e2 f hf1)
      rw [this, Bool.false_and, Bool.false_and]
      exact .miss e1
    · have hm := List.mem_of_find?_eq_some e1
      have hk : f.1 = e.1 := of_decide_eq_true (List.find?_some (p := fun f : κ × Addr × V => decide (f.1 = e.1)) e1)
      have : (fs.any fun f => decide (f.1 = e.1)) = true := List.any_eq_true.mpr ⟨f, hm, decide_eq_true hk⟩
      rw [this, Bool.true_and]
      obtain ⟨p1, p2, p3⟩ := hd e List.mem_cons_self
      obtain ⟨q1, q2, q3⟩ := hf f hm
      obtain ⟨as, ra⟩ := Dp.reads I _ _ u p1 r
      obtain ⟨bs, rb⟩ := Dp.reads I _ _ y q1 ry
      rw [hk] at q2 q3 rb
      exact .hit e2 (SeqAt.EqAt.eqP (SeqAt.eqAt_plain _ _ A s u y as bs ra rb p2 q2 (by omega))) (hits_of hu I hv hf t fun x hx => hd x (List.mem_cons_of_mem _ hx))
/-- d == e -/
def rEqN (T : KT κ) (P : Program) (w : World) (K : PySem.W.Frag) : R2 := fun x y H Q => ∃ (a b : Addr) (es fs : List (κ × Addr × V)) (dv dw : κ → PyData), x = .ref a ∧ y = .ref b ∧ Rd H a (dNO T P w a es) ∧ Rd H b (dNO T P w b fs) ∧ KeysAt T K H es ∧ KeysAt T K H fs ∧ ValsD K H dv es ∧ ValsD K H dw fs ∧ Q (.bl (es.length == fs.length && sameD dv dw es fs)) H
theorem op_eqN (hu : X.A.units + 64 < cLine) : OpR X (compareOp .Eq) (rEqN T X.prog X.w X.K) := fun pins s σ H x y v u Q I rx ry h => by
  obtain ⟨a, b, es, fs, dv, dw, rfl, rfl, ha, hb, ka, kb, va, vb, q⟩ := h
  cases rx
  cases ry
  obtain ⟨z1, l1, us, hv1, hm1⟩ := dict_of I ha ka
  obtain ⟨z2, l2, vs, hv2, hm2⟩ := dict_of I hb kb
  have ls1 : (rowsN T es us).length = es.length := by
    unfold rowsN
    rw [List.length_map, List.length_zip, ← hv1.length, List.length_map, Nat.min_self]
  have ls2 : (rowsN T fs vs).length = fs.length := by
    unfold rowsN
    rw [List.length_map, List.length_zip, ← hv2.length, List.length_map, Nat.min_self]
  refine rcH_dicts (knd := nestedKind X.prog X.w) (r := sameD dv dw es fs) (by show X.A.units + 1 + 8 < cLine; omega) z1 z2 hm1 hm2 (by omega) (fun _ => hits_of (by show X.A.units + 1 + 41 < cLine; omega) I hv2 vb hv1 va) _ _ ?_
  rw [ls1, ls2]
  exact ⟨.bl _, H, I, rfl, q⟩
end
end GX
/-! a method of a dict keyed by nested tuples; entries of a list as pairs -/
namespace GX
open PySem PySem.Spec PyProof.Rows L2 GxR
section
variable {κ : Type} [DecidableEq κ] {T : KT κ} {X : Cx}
def tBMN (T : KT κ) (P : Program) (w : World) (r : V → List V → Hp → VK → Prop) (to : TE) (t : TA) : TE := fun σ H Q => to σ H fun x H1 => (∃ a es, x = .ref a ∧ Rd H1 a (dNO T P w a es)) ∧ t σ H1 fun xs H2 => r x xs H2 Q
theorem pe_bmN {o e : Expr} {es : List Expr} {to : TE} {t : TA} {name : Str} {apos cpos : Pos} {id : String} {r : V → List V → Hp → VK → Prop} (pa : PlainAttrs "dict") (slot : Slot "dict" name id) (hty : typeOf (.builtin id) = pure (.type "method_descriptor")) (hm : MtR X id r) (ho : PE X o to) (ha : PA X (e :: es) t)
    (hbase : attributeBase o name X.env (eval o X.env) = eval o X.env := by rfl)
    (hfew : ((backTo cpos (starEach (e :: es) X.env)).all (fun x => !x.1) && (backToKw cpos (keywordEach [] X.env)).all (fun x => x.1.isSome)
      && decide ((e :: es).length + ([] : List Keyword).length + (if ([] : List Keyword).isEmpty then 0 else 1) < 30)) = true := by rfl)
    (hline : (apos.endLine == cpos.line) = true := by rfl) (hs : starEach (e :: es) X.env = (false, eval e X.env) :: starEach es X.env := by rfl) (hplain : (backTo cpos (starEach es X.env)).any (·.1) = false := by rfl) :
    PE X (.Call (.Attribute o name apos) (e :: es) [] cpos) (tBMN T X.prog X.w r to t) := by
  refine ⟨fun pins s σ H Q I h => ?_⟩
  refine wpAny_Call_method_late hbase hfew hline rfl (thn (ho.run pins s σ H _ I h) fun v s1 ⟨x, H1, I1, r1, ⟨a, es', ex, ty⟩, q1⟩ => ?_)
  have h12 : s1.TypeIs v "dict" ∧ ∀ a, v = .ref a → ∃ ob, s1.heap.get? a = some ob ∧ ob.dict = none := by
    subst ex
    obtain rfl : v = Value.ref a := r1
    obtain ⟨z, l, n, o, ds, ep, us, ho, hx, _⟩ := dn0_of I1 ty
    exact ⟨⟨o, ho, hx.1⟩, fun b e => by cases e; exact ⟨o, ho, hx.2.1⟩⟩
  refine ⟨"dict", id, pa, slot, hty, h12.1, h12.2, ?_⟩
  have hA := ha.run cpos pins s1 σ H1 _ I1 q1
  rw [hs] at hA ⊢
  refine Calls.callWith_builtin (by show (false || (backTo cpos (starEach es X.env)).any (·.1)) = false; rw [hplain] <;> rfl) (Calls.evalArgs_plain ?_)
  exact thn hA fun us s2 ⟨vs, H2, I2, r2, q2⟩ => hm pins s2 σ H2 x vs v us Q I2 r1 r2 q2
end
/-- a dict comprehension over a walk -/
theorem dg_it {J : It} {n : Nat} {G : Hp → Prop} {Y : Nat → Hp → V → Hp → Prop} (w : Walk J n G Y) {o0 : Addr → HO} {put : Addr → V → V → Hp → (Hp → Prop) → Prop} {g : TG} {tt : TT} {tk tv : TE} {vs : List Nat} {σ : L2.St} {H1 : Hp} {D : Addr} {Qd : Hp → Prop} (Pv : Nat → Hp → Prop) (h0 : Pv 0 (upd H1 D (o0 D))) (hG : ∀ i H, i ≤ n → Pv i H → G H)
    (hs : ∀ i x H H', i < n → Pv i H → Y i H x H' → g x (wipe σ vs) H' fun σ2 H2 => wipe σ2 vs = wipe σ vs ∧ tt σ2 H2 fun b H3 =>
      if b = true then tk σ2 H3 fun y H4 => tv σ2 H4 fun z H5 => put D y z H5 (Pv (i + 1)) else Pv (i + 1) H3) (hd : ∀ H, Pv n H → Qd H) :
    ∃ W : Nat → Nat → Hp → Prop, (∃ m, W 0 m (upd H1 D (o0 D))) ∧ ∀ i m H, W i m H →
      (J.stop i H ∧ Qd H) ∨ (J.go i H ∧ ∃ Nx : Hp → Prop, (∀ H', Nx H' → ∃ m', m' < m ∧ W (i + 1) m' H') ∧ ∀ x H', J.yld i H x H' → g x (wipe σ vs) H' fun σ2 H2 => wipe σ2 vs = wipe σ vs ∧ tt σ2 H2 fun b H3 =>
        if b = true then tk σ2 H3 fun y H4 => tv σ2 H4 fun z H5 => put D y z H5 Nx else Nx H3) := by
  refine ⟨fun i m H => m = n - i ∧ i ≤ n ∧ Pv i H, ⟨n, by simp, Nat.zero_le _, h0⟩, ?_⟩
  rintro i m H ⟨rfl, hi, p⟩
  have q := hG i H hi p
  by_cases hlt : i < n
  · exact .inr ⟨w.goes i H hlt q, Pv (i + 1), fun H' p' => ⟨n - (i + 1), by omega, rfl, hlt, p'⟩, fun x H' y => hs i x H H' hlt p (w.yields i H x H' hlt q y)⟩
  · have e : i = n := by omega
    subst e
    exact .inl ⟨w.stops H q, hd H p⟩
end GX
/-! sorted(d, key=lambda k: 0 - k[1]) of a dict keyed by tuples -/
namespace GX
open PySem PySem.Spec PyProof.Rows L2 GxR
open LamX (TabS CodeO inv_table among_app)
/-- the table at P may have grown, all else that is tracked stays -/
def LExt (P : Addr) (H H' : Hp) : Prop := ∀ b o, b ≠ P → H b = some o → H' b = some o
/-- c is a code object of the table at P -/
def Cds (H : Hp) (P c : Addr) : Prop := ∃ ps pos, H P = some (.tbl ps) ∧ codeAmong pos ps.toList = some (.ref c)
/-- the codes of the table: those that were there, and new objects -/
def CNew (P : Addr) (H H' : Hp) : Prop := ∀ c, Cds H' P c → Cds H P c ∨ H c = none
abbrev lamS : Str := Str.ofString "<lambda>"
section
variable {X : Cx} {pins : List (Addr × Obj)} {σ : L2.St} {H : Hp} {s : Shared}
theorem lam_mk {c P : Addr} {params : Arguments} {body : Expr} {scope : Scope} {pos : Pos} {E Q : Value → Shared → Prop} (I : Inv X pins σ H s) (TB : TabB X.base X.mg c P) (hcode : X.env.code = .ref c) (hT : TabS H P (X.env.qual ++ lamS))
    (hd : defaultsOf params X.env = ([], [])) (hcl : closureFor scope X.env = pure [])
    (h : ∀ (f c' : Addr) (pm ctv : Value) (H1 : Hp) (s' : Shared), Inv X pins σ H1 s' → LExt P H H1 → TabS H1 P (X.env.qual ++ lamS) → CNew P H H1 → s'.heap.get? f = some (W.kla_obj lamS (X.env.qual ++ lamS) params body scope [] pm c' ctv) → H1 c' = some (CodeO c' (X.env.qual ++ lamS)) → Q (.ref f) s') :
    wpAny (model X.prog X.w) X.A (eval (.Lambda params body scope pos) X.env) Q E s := by
  obtain ⟨ps, hP, hok, hall⟩ := hT
  have tb0 : s.heap.get? P = some (W.tabObj ps) := I.hok P _ hP
  have code1 : W.CodeHd s.heap c P := TB.code.keeps fun b o e => I.bk b o e
  have hns : s.heap.Ns mainGlobals X.mg := I.mod.glob.keeps I.bk
  obtain ⟨bm, om, m1, m2, m3, m4, m5, m6, m7, m8⟩ := TB.bm
  have bmS : s.heap.BuiltinsAt X.mg P := ⟨bm, om, m1, m2, m3, m4, I.bk _ _ m5, m6, m7, m8⟩
  refine W.kla_eval hd ?_
  cases hcd : codeAmong pos ps.toList with
  | some cv =>
    obtain ⟨c', rfl, hc'⟩ := hall pos cv hcd
    exact W.kla_makeFunctionHit hcl I.ok.glob hns hcode code1 tb0 hok hcd bmS fun ctv h' tk hk hsz =>
      h _ c' _ ctv H _ (I.kept (t' := tk) fun b u e => Heap.get?_push_of_some _ (hk b u e)) (fun _ _ _ e => e) ⟨ps, hP, hok, hall⟩ (fun _ h => .inl h) (Heap.get?_push_size _ rfl) hc'
  | none =>
    refine W.kla_makeFunction hcl I.ok.glob hns hcode code1 tb0 hok hcd TB.gP bmS fun c' ctv h' tk ext ge lt cr tab' => ?_
    obtain ⟨c1, o1, vs, t, e1, e2, e3, e4⟩ := cr
    cases e1
    have I' := inv_table (q := X.env.qual ++ lamS) (h' := h'.push (W.kla_obj lamS (X.env.qual ++ lamS) params body scope [] ((X.mg (Str.ofString "__name__")).getD Value.none) c' ctv)) (t' := tk) I hP (fun b o nb e => Heap.get?_push_of_some _ (ext b o nb e)) (Heap.get?_push_of_some _ tab') ge ⟨o1, vs, t, Heap.get?_push_of_some _ e2, e3, e4⟩
    have nc : c' ≠ P := fun z => by
      rw [z] at ge
      exact Nat.lt_irrefl _ (Nat.lt_of_lt_of_le (Heap.lt_size tb0) ge)
    have fc : H c' = none := I.hok.fresh ge
    refine h _ c' _ ctv _ _ I' (fun b o nb e => ?_) ⟨_, by rw [upd_ne (Ne.symm nc), upd_same], ?_, fun p' cv hcv => ?_⟩ (fun c2 h2 => ?_) (Heap.get?_push_size _ rfl) upd_same
    · rw [upd_ne (ne_of_none e fc), upd_ne nb]
      exact e
    · rw [Array.toList_append]
      exact TriplesOk_snoc _ _ _ _ hok
    · rw [Array.toList_append] at hcv
      rcases among_app _ hok hcv with z | rfl
      · obtain ⟨c2, rfl, hc2⟩ := hall p' cv z
        refine ⟨c2, rfl, ?_⟩
        rw [upd_ne (ne_of_none hc2 fc), upd_ne fun z => by rw [z, hP] at hc2; cases hc2]
        exact hc2
      · exact ⟨c', rfl, upd_same⟩
    · obtain ⟨ps2, pos2, h3, h4⟩ := h2
      rw [upd_ne (Ne.symm nc), upd_same] at h3
      cases h3
      rw [Array.toList_append] at h4
      rcases among_app _ hok h4 with z | z
      · exact .inl ⟨ps, pos2, hP, z⟩
      · rw [Value.ref.inj z]
        exact .inr fc
end
/-- the lambda's body: 0 - k[1] -/
abbrev keyS : Str := Str.ofString "key"
def lamArgs (p0 : Pos) : Arguments := { posonlyargs := [], args := [{ arg := keyS, annotation := none, pos := p0 }], vararg := none, kwonlyargs := [], kw_defaults := [], kwarg := none, defaults := [] }
def lamBody (p1 p2 p3 p4 p5 : Pos) : Expr := .BinOp (.Constant (.int 0) 0 p1) .Sub (.Subscript (.Name keyS p2) (.Constant (.int 1) 0 p3) p4) p5
def lamSc : Scope := { kind := .function, names := [(keyS, .local)], isGenerator := false, isCoroutine := false, more := [] }
theorem lam_key {prog : Program} {w : World} {A : Around} {s : Shared} {f t c' : Addr} {q : Str} {p0 p1 p2 p3 p4 p5 : Pos} {pm ctv : Value} {xs : List Value} {i : Int} {tk0 : Tok} (hdp : A.depth < recursionLimit)
    (hf : s.heap.get? f = some (W.kla_obj lamS q (lamArgs p0) (lamBody p1 p2 p3 p4 p5) lamSc [] pm c' ctv)) (hc : s.heap.CodeRec (.ref c') q) (hl : s.heap.NoLimit)
    (ht : IsTup s.heap t xs.toArray) (hx : xs[1]? = some (.int i tk0)) :
    wpAny (model prog w) A (call (.ref f) [.ref t]) (W.KeyPure (.int (0 - i)) s) (fun _ _ => False) s := by
  refine wpAny_call (W.kla_callFunE hdp hf rfl rfl rfl rfl hc ?_)
  have hb : bindArgs (W.kla_fn lamS q (lamArgs p0) (lamBody p1 p2 p3 p4 p5) lamSc [] pm (.ref c') ctv) { pos := [.ref t] } = pure [(keyS, .ref t)] := by rfl
  rw [hb]
  refine wpAny_pure (wpAny_newFunctionEnv_cells rfl (fun x hx => ?_) fun env he s1 x => ?_)
  · rw [List.mem_singleton.mp hx]
    exact .inl (show List.lookup keyS lamSc.names = some .local by decide +kernel)
  · subst he
    refine ⟨hl.keeps x.toInCall.keep, W.kla_codeExpr ?_⟩
    unfold lamBody
    obtain ⟨⟨⟨h1, tk1, e1⟩, xn, xk, xf⟩, xc, xa, xb⟩ := id x
    have st : ∀ tk, InCallC s _ _ _ _ { heap := s1.heap, gens := s1.gens, drawn := s1.drawn, toks := tk, os := s1.os } := fun tk => ⟨⟨⟨h1, tk, by rw [e1]⟩, xn, xk, xf⟩, xc, xa, xb⟩
    refine wpAny_BinOp (lit_int _ fun a tka ha => ?_)
    obtain ⟨ta, rfl⟩ : ∃ ta, a = .int 0 ta := by
      have := ha s.heap
      cases this
      exact ⟨_, rfl⟩
    refine Subscript_ (NameLC (st tka) rfl (show List.lookup keyS lamSc.names = some .local by decide +kernel) (v := .ref t) (by rfl) (lit_int _ fun b tkb hb => ?_) (by decide +kernel))
    obtain ⟨tb, rfl⟩ : ∃ tb, b = .int 1 tb := by
      have := hb s.heap
      cases this
      exact ⟨_, rfl⟩
    have ln : 1 < xs.length := (List.getElem?_eq_some_iff.mp hx).1
    obtain ⟨o, ho, hcl, n, hd⟩ := ht
    refine item_tupleT (l := xs) (j := 1) (x := .int i tk0) ⟨o, xk _ _ ho, hcl, n, hd⟩ (by decide) (by decide) (by
      unfold seqIndex?
      simp
      omega) hx (sub_int ?_)
    refine ⟨s1.heap, tkb + 1, ?_, xk, ?_⟩
    · rw [e1]
    · exact .int _ _

section
variable {κ : Type} [DecidableEq κ] {T : KT κ} {X : Cx}
/-- the entries by their numbers, the greatest first -/
def sortK (num : κ → Int) (es : List (κ × Addr × V)) : List (κ × Addr × V) := es.mergeSort (PySem.W.dataLe false fun e => PyData.int (0 - num e.1))
/-- the second items of the keys -/
def NumsOf (K : PySem.W.Frag) (H : Hp) (num : κ → Int) (es : List (κ × Addr × V)) : Prop := ∀ e ∈ es, ∃ xs, SqT K H e.2.1 xs ∧ xs[1]? = some (.int (num e.1))
def tSK (T : KT κ) (P : Program) (w : World) (K : PySem.W.Frag) (Pt : Addr) (q : Str) (num : κ → Int) (ta : TA) : TE := fun σ H Q => ta σ H fun xs H1 => ∃ (a : Addr) (es : List (κ × Addr × V)), xs = [.ref a] ∧ Rd H1 a (dNO T P w a es) ∧ KeysAt T K H1 es ∧ NumsOf K H1 num es ∧ TabS H1 Pt q ∧
  ∀ H2 p, LExt Pt H1 H2 → TabS H2 Pt q → CNew Pt H1 H2 → H2 p = none → Q (.ref p) (upd H2 p (.lst ((sortK num es).map fun e => V.ref e.2.1)))
theorem pe_sortedLam {k : Nat} {e : Expr} {ta : TA} {c Pt : Addr} {num : κ → Int} {p p0 p1 p2 p3 p4 p5 lpos kpos pos : Pos} (hr : Room (k + 1) X.A) (hcalm : X.calm = true) (hgl : Gl X "sorted") (hm : X.mg "sorted" = none) (TB : TabB X.base X.mg c Pt) (hcode : X.env.code = .ref c)
    (ha : PA X [e] ta) (hst : backTo pos (starEach [e] X.env) = (false, eval e X.env) :: backTo pos (starEach [] X.env) := by rfl) :
    PE X (.Call (.Name "sorted" p) [e] [⟨some "key", .Lambda (lamArgs p0) (lamBody p1 p2 p3 p4 p5) lamSc lpos, kpos⟩] pos) (tSK T X.prog X.w X.K Pt (X.env.qual ++ lamS) num ta) := by
  refine ⟨fun pins s σ H Q I h => ?_⟩
  have dp := hr.dp
  have hun := hr.un
  refine wpAny_Call_Name_kw (ld_blt I hgl hm (show bootBuiltins "sorted" = some (.builtin "sorted") by decide +kernel) ?_)
  refine callWith_builtin_kwB (by rw [hst]; rfl) rfl ?_
  have hpa := ha.run pos pins s σ H
  rw [hst] at hpa ⊢
  refine evalArgs_kwB (by rfl) ?_
  refine thn (hpa _ I h) fun us s1 J => ?_
  obtain ⟨vs, H1, I1, rv, a, es, ex, hd, hk, hn, hT, q⟩ := J
  subst ex
  obtain ⟨u, eu, rx⟩ := vals1 rv
  subst eu
  cases rx
  show wpAny _ _ (evalAll [(do let v ← eval (.Lambda (lamArgs p0) (lamBody p1 p2 p3 p4 p5) lamSc lpos) X.env; standAt pos; pure v)]) _ _ _
  refine evalAll_cons (wpAny_bind (lam_mk I1 TB hcode hT (by rfl) (by rfl) fun f c' pm ctv H2 s2 I2 le T2 cn hf hc => wpAny_bind (wpAny_standAt (wpAny_pure (evalAll_nil ?_)))))
  show wpAny _ _ (call (Value.builtin "sorted") [.ref a] [(keyS, .ref f)]) _ _ _
  have nd : ∀ b xs, SqT X.K H1 b xs → SqT X.K H2 b xs := fun b xs h => by
    refine h.imp (fun r => ?_) id
    obtain ⟨ps, hP, _⟩ := hT
    rcases r with r | ⟨o, r⟩
    · exact .inl (le b _ (fun z => by rw [z, hP] at r; cases r) r)
    · exact .inr ⟨o, le b _ (fun z => by rw [z, hP] at r; cases r) r⟩
  have hd2 : Rd H2 a (dNO T X.prog X.w a es) := by
    obtain ⟨ps, hP, _⟩ := hT
    rcases hd with r | ⟨o, r⟩
    · exact .inl (le a _ (fun z => by rw [z, hP] at r; cases r) r)
    · exact .inr ⟨o, le a _ (fun z => by rw [z, hP] at r; cases r) r⟩
  obtain ⟨z, l, ds, ep, raw, ld, hkk⟩ := dn_raw I2 hd2
  refine call_function_entry_kw PyProof.Rows.kind_sorted PyProof.Rows.plain_sorted PyProof.Rows.entry_sorted (by rfl) ?_
  unfold Builtin.«sorted»
  refine wpAny_bind (m := checkCount "sorted" 1 1 _) (wpAny_pure ?_)
  refine wpAny_bind (PySem.W.kdu_collect (A := X.A.in1) (KdlSrc.rawDict (es := ds) (ep := ep) z) (I2.ok.hd hcalm) raw (by rw [ld]; exact l) fun h' tk acc hk' hacc => ?_)
  have ea := raw_keys ld hkk hacc.1 hacc.2
  have I3 : Inv X pins σ H2 { s2 with heap := h', toks := tk } := I2.kept hk'
  have hla : acc.toList.length = es.length := by rw [ea, List.length_map]
  refine wpAny_bind (wpAny_newList ?_ (by rw [hla]; exact l))
  have hoL : (h'.push (seqObj "list" acc.toList.toArray 0)).get? h'.objs.size = some (seqObj "list" acc.toList.toArray 0) := Heap.get?_push_size _ rfl
  have hE : PySem.W.EachIs (fun (u : Value) (e : κ × Addr × V) => u = Value.ref e.2.1) acc.toList es := by rw [ea]; exact each_keys es
  show wpAny _ _ _ _ _ { s2 with heap := h'.push (seqObj "list" acc.toList.toArray 0), toks := tk }
  refine wpAny_bind (wpAny_holding (PySem.W.list_sort_key_data (f := .ref f) (kw := [(keyS, .ref f)]) (b := false) (s := { s2 with heap := h'.push (seqObj "list" acc.toList.toArray 0), toks := tk }) (fun e => PyData.int (0 - num e.1)) hoL hE
    (PySem.W.AllAlike.of fun b b' => rfl) (.inr fun d hd => ?_) l (fun b hb => ?_) (by rfl) (by rfl) (fun v e hv he h1 tk1 kb => ?_) fun out c1 h1 tk1 kb ho lo eo => ?_))
  · obtain ⟨e, _, rfl⟩ := List.mem_map.mp hd
    exact ⟨(fun z => nomatch z), fun _ z => nomatch z⟩
  · show X.A.units + 1 + 1 + 0 < cLine
    omega
  · subst hv
    have kp : ∀ b o, h'.get? b = some o → h1.get? b = some o := fun b o e => kb b o (Nat.ne_of_lt (Heap.lt_size e)) (Heap.get?_push_of_some _ e)
    have I4 : Inv X pins σ H2 { s2 with heap := h1, toks := tk1 } := I3.kept kp
    obtain ⟨xs, hx, hx1⟩ := hn e he
    obtain ⟨its, rv, ht, _⟩ := I4.tuple (nd _ _ hx)
    obtain ⟨u, hu, ru⟩ := rv.get hx1
    obtain ⟨tk0, rfl⟩ := ru
    have hdp2 : X.A.in1.in1.depth < recursionLimit := by
      show X.A.depth < recursionLimit
      omega
    refine lam_key (xs := its) hdp2 (kp _ _ (hk' _ _ hf)) ?_ I4.nolimit ht hu
    obtain ⟨oc, ws, t, g1, g2, g3⟩ := (I4.hok c' _ hc).1
    exact ⟨c', oc, ws, t, rfl, g1, g2, g3⟩
  · have eo' : out = (sortK num es).map fun e => Value.ref e.2.1 := keys_each eo
    have hlen : ((sortK num es).map fun e => V.ref e.2.1).length ≤ sizeLine := by
      rw [List.length_map, sortK, List.length_mergeSort]
      exact l
    have kp : ∀ b o, h'.get? b = some o → h1.get? b = some o := fun b o e => kb b o (Nat.ne_of_lt (Heap.lt_size e)) (Heap.get?_push_of_some _ e)
    exact wpAny_pure ⟨_, rfl, .ref h'.objs.size, upd H2 h'.objs.size (.lst ((sortK num es).map fun e => V.ref e.2.1)), I3.laid (t' := tk1) kp (Nat.le_refl _)
      (show ObjOk X.prog X.w _ _ _ (.lst ((sortK num es).map fun e => V.ref e.2.1)) from ⟨hlen, out, c1, by rw [eo']; exact refs_keys _, ho⟩), rfl, q _ _ le T2 cn (I3.hok.fresh (Nat.le_refl _))⟩
end
end GX
/-! repr(d) of a dict keyed by tuples whose values are ints, texts and tuples of such -/
namespace GX
open PySem PySem.Spec PyProof.Rows L2 GxR
section
variable {X : Cx} {pins : List (Addr × Obj)} {σ : L2.St} {H : Hp} {s : Shared}
mutual
theorem reads0 (I : Inv X pins σ H s) : ∀ (d : PyData) (v : V) (u : Value), Dp X.K H v d → kd d = true → RelV v u → Reads s.heap u d []
  | .int i, _, _, h, _, r => by
    cases h
    obtain ⟨t, rfl⟩ := r
    exact .int i t
  | .str x, _, _, h, _, r => by
    cases h
    obtain ⟨t, rfl⟩ := r
    exact .str x t
  | .tuple ds, _, _, h, k, r => by
    cases h with
    | tup hs ha =>
      cases r
      obtain ⟨its, rv, ⟨o, ho, hc, n, hd⟩, _⟩ := I.tuple hs
      rw [kd] at k
      exact .tuple ho hc hd (reads0All I ds _ its ha k rv)
  | .none, _, _, _, k, _ => by simp [kd] at k
  | .bool _, _, _, _, k, _ => by simp [kd] at k
  | .list _, _, _, _, k, _ => by simp [kd] at k
  | .dict _, _, _, _, k, _ => by simp [kd] at k
theorem reads0All (I : Inv X pins σ H s) : ∀ (ds : List PyData) (vs : List V) (us : List Value), DpAll X.K H vs ds → kdAll ds = true → Vals vs us → ReadsAll s.heap us ds []
  | [], _, _, h, _, r => by
    cases h
    cases r
    exact .nil
  | d :: ds, _, _, h, k, r => by
    cases h with
    | cons h1 h2 =>
      cases r with
      | cons r1 r2 =>
        rw [kdAll, Bool.and_eq_true] at k
        exact ReadsAll.cons (as := []) (bs := []) (reads0 I d _ _ h1 k.1 r1) (reads0All I ds _ _ h2 k.2 r2)
end
end
section
variable {κ : Type} [DecidableEq κ] {T : KT κ} {X : Cx} {pins : List (Addr × Obj)} {σ : L2.St} {H : Hp} {s : Shared}
/-- the dict's data -/
def dictD (T : KT κ) (dv : κ → PyData) (es : List (κ × Addr × V)) : PyData := .dict (es.map fun e => (T.enc e.1, dv e.1))
/-- the values are data of ints, texts and tuples -/
def ValsK (K : PySem.W.Frag) (H : Hp) (dv : κ → PyData) (es : List (κ × Addr × V)) : Prop := ∀ e ∈ es, Dp K H e.2.2 (dv e.1) ∧ kd (dv e.1) = true
theorem reads_rows (I : Inv X pins σ H s) {dv : κ → PyData} : ∀ {es : List (κ × Addr × V)} {us : List Value}, Vals (es.map (·.2.2)) us → KeysAt T X.K H es → ValsK X.K H dv es →
    ReadsAll s.heap (((rowsN T es us).map (entryOfKey (nestedKind X.prog X.w))).map fun x => x.key) (es.map fun e => T.enc e.1) [] ∧ ReadsAll s.heap (((rowsN T es us).map (entryOfKey (nestedKind X.prog X.w))).map fun x => x.val) (es.map fun e => dv e.1) []
  | [], _, .nil, _, _ => ⟨.nil, .nil⟩
  | e :: es, u :: us, .cons r t, hk, hv => by
    obtain ⟨a, b⟩ := reads_rows I t (fun e he => hk e (List.mem_cons_of_mem _ he)) fun e he => hv e (List.mem_cons_of_mem _ he)
    have h1 := reads0 I _ (V.ref e.2.1) (.ref e.2.1) (hk e List.mem_cons_self) (T.kd _) rfl
    obtain ⟨h2, h3⟩ := hv e List.mem_cons_self
    exact ⟨ReadsAll.cons (as := []) (bs := []) h1 a, ReadsAll.cons (as := []) (bs := []) (reads0 I _ _ u h2 h3 r) b⟩
theorem cr_reprN (hg : X.A.guards = some []) (hu : X.A.units + 64 < cLine) : CallR X (.builtin "repr") (fun xs H Q => ∃ (a : Addr) (es : List (κ × Addr × V)) (dv : κ → PyData), xs = [.ref a] ∧ Rd H a (dNO T X.prog X.w a es) ∧ KeysAt T X.K H es ∧ ValsK X.K H dv es ∧
    (dictD T dv es).showable = true ∧ (dictD T dv es).depth ≤ 60 ∧ (dictD T dv es).shown.length ≤ sizeLine ∧ Q (.str (dictD T dv es).shown) H) := by
  intro pins s σ H xs us Q I r ⟨a, es, dv, ex, hd, hk, hv, h1, h3, h4, q⟩
  subst ex
  obtain ⟨u, rfl, rx⟩ := vals1 r
  obtain rfl : u = Value.ref a := rx
  obtain ⟨z, l, n, o, ds, ep, us, ho, hx, hda, hvs, hr⟩ := dn0_of I hd
  obtain ⟨e1, e2⟩ := reads_rows (T := T) I hvs hk hv
  have rd : Reads s.heap (.ref a) (dictD T dv es) [a] := by
    have := Reads.dict (h := s.heap) (a := a) (o := o) (es := ds) (n := ep) (kvs := es.map fun e => (T.enc e.1, dv e.1)) (as := []) (bs := []) ho (hx.1) hda (by rw [hr, show (es.map fun e => (T.enc e.1, dv e.1)).map (fun x => x.1) = es.map fun e => T.enc e.1 from by rw [List.map_map]; rfl]; exact e1) (by rw [hr, show (es.map fun e => (T.enc e.1, dv e.1)).map (fun x => x.2) = es.map fun e => dv e.1 from by rw [List.map_map]; rfl]; exact e2)
    exact this
  exact repr_of_reads' (hsz := h4) rd h1 (fun _ z1 => by
    rw [← List.mem_singleton.mp z1] at z
    simp at z) hg (by omega) (fun _ _ e => e) fun h' u tk hk => ⟨.str (dictD T dv es).shown, H, I.kept (t' := tk) hk, ⟨u, rfl⟩, q⟩
end
end GX
/-! d != e of dicts keyed by nested tuples -/
namespace GX
open PySem PySem.Spec PyProof.Rows PyProof.V L2 GxR
section
variable {prog : Program} {w : World} {K : Type} [DecidableEq K] {knd : HeapKind prog w K} {A : Around} {E : Value → Shared → Prop} {s : Shared}
theorem rcH_dictsNe {a b : Addr} {ka kb : List (K × Addr × Value)} {r : Bool} (hk : knd.room A.in1) (ha : (a == sysModules) = false) (hb : (b == sysModules) = false)
    (da : s.heap.DictOfH knd a ka) (db : s.heap.DictOfH knd b kb) (hu : A.units < cLine) (hits : ka.length = kb.length → HitsH prog w A.in1 s kb ka r) (E Q : Value → Shared → Prop) (h : Q (.bool (!(ka.length == kb.length && r))) s) : wpAny (model prog w) A (richCompare .NotEq (.ref a) (.ref b)) Q E s := by
  refine wpAny_richCompare_same_room (op := .NotEq) da.typeIs db.typeIs PySem.F.slot_dict_ne (wpAny_call_entry PySem.F.slot_dict_ne da.typeIs PySem.F.entry_dict_ne ?_ (PySem.F.args_dict_ne_2 _ _)) hu
  show wpAny _ _ (Builtin.Dict.dictSlotArgs "__ne__" ⟨[.ref a, .ref b], []⟩ >>= _) _ _ s
  refine wpAny_bind ?_
  unfold Builtin.Dict.dictSlotArgs
  refine wpAny_bind (wpAny_notOrdered_dict da.typeIs ?_)
  show wpAny _ _ (pure (Value.ref a, Value.ref b)) _ _ s
  refine wpAny_pure ?_
  refine wpAny_bind (wpAny_isInstance (T := "dict") db.typeIs PySem.F.sub_dict_dict ?_)
  simp only [Bool.not_true, Bool.false_eq_true, if_false]
  refine wpAny_bind (wpAny_pure (wpAny_bind (wpAny_pure ?_)))
  refine wpAny_bind (samePairsH hk ha hb da db hits ?_)
  refine wpAny_pure ⟨_, rfl, ?_, ?_⟩
  · exact fun x => nomatch x
  · simpa using h
end
section
variable {κ : Type} [DecidableEq κ] {T : KT κ} {X : Cx} {pins : List (Addr × Obj)} {σ : L2.St} {H : Hp} {s : Shared}
/-- d != e -/
def rNeN (T : KT κ) (P : Program) (w : World) (K : PySem.W.Frag) : R2 := fun x y H Q => ∃ (a b : Addr) (es fs : List (κ × Addr × V)) (dv dw : κ → PyData), x = .ref a ∧ y = .ref b ∧ Rd H a (dNO T P w a es) ∧ Rd H b (dNO T P w b fs) ∧ KeysAt T K H es ∧ KeysAt T K H fs ∧ ValsD K H dv es ∧ ValsD K H dw fs ∧ Q (.bl (!(es.length == fs.length && sameD dv dw es fs))) H
theorem op_neN (hu : X.A.units + 64 < cLine) : OpR X (compareOp .NotEq) (rNeN T X.prog X.w X.K) := fun pins s σ H x y v u Q I rx ry h => by
  obtain ⟨a, b, es, fs, dv, dw, rfl, rfl, ha, hb, ka, kb, va, vb, q⟩ := h
  cases rx
  cases ry
  obtain ⟨z1, l1, us, hv1, hm1⟩ := dict_of I ha ka
  obtain ⟨z2, l2, vs, hv2, hm2⟩ := dict_of I hb kb
  have ls1 : (rowsN T es us).length = es.length := by
    unfold rowsN
    rw [List.length_map, List.length_zip, ← hv1.length, List.length_map, Nat.min_self]
  have ls2 : (rowsN T fs vs).length = fs.length := by
    unfold rowsN
    rw [List.length_map, List.length_zip, ← hv2.length, List.length_map, Nat.min_self]
  refine rcH_dictsNe (knd := nestedKind X.prog X.w) (r := sameD dv dw es fs) (by show X.A.units + 1 + 8 < cLine; omega) z1 z2 hm1 hm2 (by omega) (fun _ => hits_of (by show X.A.units + 1 + 41 < cLine; omega) I hv2 vb hv1 va) _ _ ?_
  rw [ls1, ls2]
  exact ⟨.bl _, H, I, rfl, q⟩
end
end GX
namespace QR
open PySem PySem.Spec PyProof.Rows L2
section
variable {X : Cx}
/-! ### xs[::-1] of a list: a new list -/
def tRev (K : PySem.W.Frag) (te ts : TE) : TE := fun σ H Q => te σ H fun x H1 => ts σ H1 fun z H2 => z = .int (-1) ∧ ∃ a xs, x = .ref a ∧ SqL K H2 a xs ∧ ∀ p, H2 p = none → Q (.ref p) (upd H2 p (.lst xs.reverse))
theorem vals_rev {xs : List V} {us : List Value} (r : Vals xs us) : Vals xs.reverse us.reverse := by
  induction r with
  | nil => exact .nil
  | cons p q ih =>
    rw [List.reverse_cons, List.reverse_cons]
    exact ih.append (.cons p .nil)
theorem pe_rev {e st : Expr} {te ts : TE} {p2 pos : Pos} (he : PE X e te) (hs : PE X st ts) : PE X (.Subscript e (.Slice none none (some st) p2) pos) (tRev X.K te ts) := by
  refine ⟨fun pins s σ H Q I h => ?_⟩
  refine Subscript_ (thn (he.run pins s σ H _ I h) fun v s1 ⟨x, H1, I1, r1, q1⟩ => ?_)
  refine wpAny_Slice ?_
  rw [evalPart_none]
  refine wpAny_pure (wpAny_pure ?_)
  rw [evalPart_some]
  refine thn (hs.run pins s1 σ H1 _ I1 q1) fun vu s3 ⟨z, H3, I3, rz, ez, q3⟩ => ?_
  subst ez
  obtain ⟨tz, rfl⟩ := rz
  obtain ⟨a, xs, ex, hx, q⟩ := q3
  subst ex
  cases r1
  have I4 : Inv X pins σ H3 { s3 with heap := s3.heap.push { cls := .type "slice", data := .fields #[.none, .none, .int (-1) tz] } } := I3.kept (t' := s3.toks) fun b ob q => Heap.get?_push_of_some _ q
  obtain ⟨its, r, ht, hz⟩ := I4.list hx
  have hlen := r.length
  show wpAny (model X.prog X.w) X.A (subscriptTail e (.Slice none none (some st) p2) (.ref a) (.ref s3.heap.objs.size)) (EP X pins σ Q) X.xe { s3 with heap := s3.heap.push { cls := .type "slice", data := .fields #[.none, .none, .int (-1) tz] } }
  refine tail_any (ops := [.ref a, .ref s3.heap.objs.size]) ht.isList.typeIs slot_list_getitem.lookup ?_ (by with_unfolding_all rfl)
  refine wpAny_getItem_list_slice ht.isList (Heap.IsSliceOf.new ..) .none .none (.int (-1) tz) (by simp) ?_ (by rw [List.size_toArray]; omega)
  rw [PySem.W.krv_pick]
  refine ⟨.ref _, _, I4.laid (t' := s3.toks) (o := .lst xs.reverse) (fun b ob q => Heap.get?_push_of_some _ q) (Nat.le_refl _) ?_, rfl, q _ (I4.hok.fresh (Nat.le_refl _))⟩
  exact ⟨by rw [List.length_reverse]; exact hz, _, 0, vals_rev r, Heap.get?_push_size _ rfl⟩
end
end QR
namespace K20
open PySem PySem.Spec PyProof.Rows L2 QR
open GxR (TabB TabG Tabbed GenS)
/-! ### the text -/
def topS (i : Nat) : Stmt := PySem.Challenge.pw_quiltward_k40_records_in_any_order.main.body.getD i (.Pass ⟨0, 0, 0, 0⟩)
abbrev sWord : Stmt := topS 7
theorem scWord : FnScope ["text", "signs", "most"] ["text", "signs", "most"] (defScope sWord) := ⟨rfl, rfl, rfl, by decide +kernel, rfl, by decide +kernel, by decide +kernel⟩

/-! ### what the defs compute -/
def wordB (t z : Str) (m : Int) : Bool := decide ((1 : Int) ≤ (t.length : Int)) && (decide ((t.length : Int) ≤ m) && t.cps.toList.all fun c => decide (c ∈ z.cps.toList))
theorem tabbed_refl {P : Addr} {H : Hp} (h : TabG H P) : Tabbed P H H := ⟨h, fun _ _ => rfl⟩
theorem tabbed_trans {P : Addr} {H H1 H2 : Hp} (a : Tabbed P H H1) (b : Tabbed P H1 H2) : Tabbed P H H2 := ⟨b.1, fun x ne => (b.2 x ne).trans (a.2 x ne)⟩

section
variable {P : Program} {w : World} {K : PySem.W.Frag} {mg : Str → Option Value} {base : Heap}
/-! ### is_word -/
def spWord (T : Addr) : Sp := fun vs H Q _ => ∃ (t z : Str) (m : Int), vs = [.str t, .str z, .int m] ∧ t.length ≤ sizeLine ∧ TabG H T ∧ ∀ H', Tabbed T H H' → Q (.bl (wordB t z m)) H'
theorem ok_word {c T f : Addr} {oc kV doc pm ct : Value} {od an : Option Addr} {osl : Array (Option Value)} (lk : K.lookup f = some ⟨oc, od, .func (PySem.W.fnOf "is_word" "is_word" (defArgs sWord) (defBody sWord) (defScope sWord) .none kV doc pm an (.ref c) ct), osl⟩)
    (hcd : PySem.W.codeIn K (.ref c) "is_word" = true) (TB : TabB base mg c T) (ml : mg "len" = none) (ma : mg "all" = none) :
    FnOk P w K mg base CX0 1 f (PySem.W.fnOf "is_word" "is_word" (defArgs sWord) (defBody sWord) (defScope sWord) .none kV doc pm an (.ref c) ct) ["text", "signs", "most"] (spWord T) := by
  refine fn_of lk hcd scWord (fun vs H Q E h => ?_) fun A outer s H vs Q E hr h => ?_
  · obtain ⟨t, z, m, rfl, _⟩ := h
    rfl
  · obtain ⟨t, z, m, rfl, hl, hT, q⟩ := h
    refine ⟨_, pss_one (ps_ret (pe_and (pe_chain op_le op_le pe_int (pe_callB call_len_str (by rfl) ml PySem.boot_len (pa_cons (pv 0) pa_nil)) (pv 2))
      (pe_one (pe_allIn (i := 1) hr (by rfl) ma TB rfl ⟨rfl, rfl, by decide +kernel, by decide +kernel, by decide +kernel, ?fr⟩ (pv 0) (fun _ => rfl) rfl rfl rfl ?cl)))), ?_⟩
    case fr =>
      intro y hy e
      rcases List.mem_cons.mp hy with rfl | hy
      · cases e
      rcases List.mem_cons.mp hy with rfl | hy
      · cases e
      rcases List.mem_cons.mp hy with rfl | hy
      · exact ⟨_, rfl⟩
      · cases hy
    case cl => rfl
    refine ⟨_, rfl, t, rfl, hl, 1, (t.length : Int), rfl, rfl, _, rfl, ?_⟩
    refine ite2 (fun h1 => ?_) (fun h1 => ?_)
    · refine ⟨_, rfl, _, m, rfl, rfl, _, rfl, ite2 (fun h2 => ?_) (fun h2 => ?_)⟩
      · refine ⟨_, rfl, t, z, rfl, rfl, hT, fun H2 t2 => ?_⟩
        have e : wordB t z m = t.cps.toList.all fun c => decide (c ∈ z.cps.toList) := by
          unfold wordB
          rw [h1, h2, Bool.true_and, Bool.true_and]
        rw [← e]
        exact q H2 t2
      · have e : wordB t z m = false := by
          unfold wordB
          rw [Bool.eq_false_iff.mpr h2, Bool.false_and, Bool.and_false]
        have z0 := q H (tabbed_refl hT)
        rw [e] at z0
        exact z0
    · have e : wordB t z m = false := by
        unfold wordB
        rw [Bool.eq_false_iff.mpr h1, Bool.false_and]
      have z0 := q H (tabbed_refl hT)
      rw [e] at z0
      exact ⟨_, rfl, iteF z0⟩
end
end K20
namespace K20
open PySem PySem.Spec PyProof.Rows L2 TL TR QR
abbrev sState : Stmt := topS 22
abbrev nState : List Str := ["script", "cells", "cell"]
theorem scState : FnScope nState ["script"] (defScope sState) := ⟨rfl, rfl, rfl, by decide +kernel, rfl, by decide +kernel, by decide +kernel⟩
abbrev sT : Stmt := topS 23
abbrev nT : List Str := ["state", "most", "cells", "at", "cell", "mixed"]
theorem scT : FnScope nT ["state", "most"] (defScope sT) := ⟨rfl, rfl, rfl, by decide +kernel, rfl, by decide +kernel, by decide +kernel⟩
/-- the state of the draws: a number and a list -/
structure StateAt (H : Hp) (p c : Addr) : Prop where
  ex : ∃ (n : Int) (ms : List Int), H p = some (.lst [.int n, .ref c]) ∧ H c = some (.lst (ms.map V.int)) ∧ 0 < ms.length ∧ ms.length ≤ 63 ∧ (∀ m ∈ ms, 0 ≤ m) ∧ 0 ≤ n
  ne : p ≠ c
def Drawn (p c : Addr) (H H' : Hp) : Prop := ∀ b, b ≠ p → b ≠ c → H' b = H b
theorem drawn_refl {p c : Addr} {H : Hp} : Drawn p c H H := fun _ _ _ => rfl
theorem drawn_trans {p c : Addr} {H H1 H2 : Hp} (a : Drawn p c H H1) (b : Drawn p c H1 H2) : Drawn p c H H2 := fun x h1 h2 => (b x h1 h2).trans (a x h1 h2)
theorem StateAt.mono {H H' : Hp} {p c : Addr} (s : StateAt H p c) (hp : ∀ o, H p = some o → H' p = some o) (hc : ∀ o, H c = some o → H' c = some o) : StateAt H' p c := by
  obtain ⟨⟨n, ms, h1, h2, h3⟩, ne⟩ := s
  exact ⟨⟨n, ms, hp _ h1, hc _ h2, h3⟩, ne⟩
theorem zl : 2000000 ≤ sizeLine := by
  rw [sizeLine_eq]
  decide
theorem same_new {a : Addr} {H : Hp} {o : HO} (e : H a = none) : Same H (upd H a o) := fun b o' e' => by
  rw [upd_ne (ne_of_none e' e)]
  exact e'
theorem abs_nn (z : Int) : 0 ≤ (if z < 0 then -z else z) := by
  split <;> omega
theorem cutV_nn (xs : List V) (k : Nat) : cutV xs none (some (k : Int)) = xs.take k := by
  unfold cutV
  have e1 : HT.sIx xs.length 0 none = 0 := by
    unfold HT.sIx
    simp
  have e2 : HT.sIx xs.length xs.length (some (k : Int)) = min k xs.length := by
    unfold HT.sIx
    simp
    omega
  rw [e1, e2, List.drop_zero, Nat.sub_zero]
  by_cases h : k ≤ xs.length
  · rw [Nat.min_eq_left h]
  · rw [Nat.min_eq_right (by omega), List.take_of_length_le (Nat.le_refl _), List.take_of_length_le (by omega)]
section
variable {P : Program} {w : World} {K : PySem.W.Frag} {mg : Str → Option Value} {base : Heap}
def spState (K : PySem.W.Frag) : Sp := fun vs H Q _ => ∃ (a : Addr) (ns : List Int), vs = [.ref a] ∧ SqL K H a (ns.map V.int) ∧ ns.length ≤ 63 ∧
  ∀ H' p c, Same H H' → H p = none → H c = none → StateAt H' p c → Q (.ref p) H'
theorem ok_state {f : Addr} {fd : FuncData} (F : Fun K "_law_state" "_law_state" sState f fd) (m_len : mg "len" = none) (m_abs : mg "abs" = none) : FnOk P w K mg base CX0 1 f fd ["script"] (spState K) := by
  refine F.ok scState (fun vs H Q E h => ?_) (fun cdv A outer s H vs Q E hr h => ?_)
  · obtain ⟨a, ns, rfl, _⟩ := h
    rfl
  · obtain ⟨a, ns, rfl, hS, hl, q⟩ := h
    have zl := zl
    refine ⟨_, (pss_cons (ps_setLc (i := 1) (own := [("cell", 2)]) (g := gName 2) (tt := tYes) (te := _) rfl scState.nd rfl rfl (sw_true rfl rfl rfl (by decide +kernel)) (pi_list (pe_slice sl_list (pv 0) (po_none) (po_some (pe_int)))) (blkOk_by (N := nState) (sc := defScope sState) (by decide +kernel)) (fun _ _ _ _ _ => by exact pg_name (i := 2) scState.nd rfl (.inl rfl)) (fun _ _ _ _ _ => pts_nil) (fun _ _ _ _ _ => by exact pe_callB call_abs (by rfl) m_abs (by decide +kernel) (pa_cons (pv 2) pa_nil)))
      (pss_cons (ps_if (pt_cmpR op_eq (pe_callB call_len_seq (by rfl) m_len PySem.boot_len (pa_cons (pv 1) pa_nil)) (pe_int) (nomark _))
      (pss_one (ps_set (i := 1) scState.nd rfl (.inl rfl) (pe_lst (pa_cons (pe_int) pa_nil)))) pss_nil)
      (pss_one (ps_ret (pe_lst (pa_cons (pe_int) (pa_cons (pv 1) pa_nil))))))), ?_⟩
    refine ⟨_, rfl, _, rfl, a, _, rfl, hS, fun D0 n0 => ⟨D0, rfl, ⟨_, SqL.of upd_same⟩, fun D nD => ?_⟩⟩
    have ec : cutV (ns.map V.int) none (some 63) = ns.map V.int := (cutV_nn (ns.map V.int) 63).trans (List.take_of_length_le (by rw [List.length_map]; exact hl))
    rw [ec] at nD ⊢
    have s0 : Same H (upd H D0 (.lst (ns.map V.int))) := same_new n0
    have e0 : (upd H D0 (.lst (ns.map V.int))) D0 = some (.lst (ns.map V.int)) := upd_same
    have nD0 : H D = none := by
      cases e : H D with
      | none => rfl
      | some o =>
        rw [s0 _ _ e] at nD
        cases nD
    generalize upd H D0 (.lst (ns.map V.int)) = H1 at s0 e0 nD
    refine lc_list (xs := ns.map V.int) (fun i H2 => H2 = upd H1 D (.lst (((ns.take i).map fun n => if n < 0 then -n else n).map V.int))) rfl ?_ ?_ ?_
    · rintro i H2 _ rfl
      exact SqL.of (same_new nD _ _ e0)
    · rintro i x H2 hx rfl
      rw [List.getElem?_map] at hx
      obtain ⟨n, hn, rfl⟩ := Option.map_eq_some_iff.mp hx
      refine ⟨rfl, ?_⟩
      refine ⟨_, rfl, n, rfl, _, upd_same, ?_, ?_⟩
      · rw [List.length_map, List.length_map, List.length_take]
        omega
      · rw [upd_upd, List.take_add_one, hn, List.map_append, List.map_append]
        rfl
    · rintro H2 rfl
      rw [List.length_map, List.take_length]
      have eD : (upd H1 D (.lst ((ns.map fun n => if n < 0 then -n else n).map V.int))) D = some (.lst ((ns.map fun n => if n < 0 then -n else n).map V.int)) := upd_same
      have sD : Same H (upd H1 D (.lst ((ns.map fun n => if n < 0 then -n else n).map V.int))) := fun b o e => same_new nD _ _ (s0 b o e)
      have nn : ∀ m ∈ (ns.map fun n => if n < 0 then -n else n), 0 ≤ m := fun m hm => by
        obtain ⟨n, _, rfl⟩ := List.mem_map.mp hm
        exact abs_nn n
      have ll : (ns.map fun n => if n < 0 then -n else n).length = ns.length := List.length_map _
      generalize upd H1 D (.lst ((ns.map fun n => if n < 0 then -n else n).map V.int)) = H2 at eD sD
      generalize (ns.map fun n => if n < 0 then -n else n) = ms at eD nn ll
      dsimp only [tNext, tSeq, tIfS, tAsg, gName, tC]
      have fin : ∀ (H3 : Hp) (c : Addr) (ks : List Int), Same H H3 → H c = none → H3 c = some (.lst (ks.map V.int)) → 0 < ks.length → ks.length ≤ 63 → (∀ m ∈ ks, 0 ≤ m) → ∀ p, H3 p = none → Q (.ref p) (upd H3 p (.lst [.int 0, .ref c])) := by
        intro H3 c ks s3 nc ec k0 k1 kn p np
        have ncp : p ≠ c := fun z => by rw [z, ec] at np; cases np
        have np0 : H p = none := by
          cases e : H p with
          | none => rfl
          | some o =>
            rw [s3 _ _ e] at np
            cases np
        refine q _ p c (fun b o e => same_new np _ _ (s3 b o e)) np0 nc ⟨⟨0, ks, upd_same, ?_, k0, k1, kn, Int.le_refl _⟩, ncp⟩
        rw [upd_ne (Ne.symm ncp)]
        exact ec
      refine ⟨_, rfl, D, _, rfl, .inl (SqL.of eD), rfl, _, rfl, ite2 (fun h1 => ?_) (fun h1 => ?_)⟩
      · refine ⟨by show 1 ≤ sizeLine; omega, fun D2 n2 => ?_⟩
        have n20 : H D2 = none := by
          cases e : H D2 with
          | none => rfl
          | some o =>
            rw [sD _ _ e] at n2
            cases n2
        refine ⟨_, rfl, by show 2 ≤ sizeLine; omega, fun p np => ?_⟩
        exact fin (upd H2 D2 (.lst [.int 0])) D2 [0] (fun b o e => same_new n2 _ _ (sD b o e)) n20 upd_same (by decide) (by decide) (fun m hm => by rw [List.mem_singleton.mp hm]; exact Int.le_refl _) p np
      · refine ⟨_, rfl, by show 2 ≤ sizeLine; omega, fun p np => ?_⟩
        refine fin H2 D ms sD nD0 eD ?_ (by omega) nn p np
        cases ms with
        | nil => exact absurd (decide_eq_true rfl) h1
        | cons x r => exact Nat.succ_pos _
def spTake : Sp := fun vs H Q _ => ∃ (p c : Addr) (m : Nat), vs = [.ref p, .int (m : Int)] ∧ m < 1000000000 ∧ StateAt H p c ∧
  ∀ H' (r : Nat), (m = 0 → r = 0) → (0 < m → r < m) → StateAt H' p c → Drawn p c H H' → Q (.int (r : Int)) H'
theorem ok_T {f : Addr} {fd : FuncData} (F : Fun K "_law_take" "_law_take" sT f fd) (m_len : mg "len" = none) (m_int : mg "int" = none) : FnOk P w K mg base CX0 1 f fd ["state", "most"] spTake := by
  refine F.ok scT (fun vs H Q E h => ?_) (fun cdv A outer s H vs Q E hr h => ?_)
  · obtain ⟨p, c, m, rfl, _⟩ := h
    rfl
  · obtain ⟨p, c, m, rfl, hm, ⟨⟨n, ms, hp, hc, hl0, hl, h0, n0⟩, npc⟩, q⟩ := h
    have zl := zl
    refine ⟨_, (pss_cons (ps_if (pt_cmpR op_lt (pv 1) (pe_int) (nomark _))
      (pss_one (ps_ret (pe_int))) pss_nil)
      (pss_cons (ps_set (i := 2) scT.nd rfl (.inl rfl) (pe_ix ix_list (pv 0) (pe_int) (fun _ _ => rfl)))
      (pss_cons (ps_set (i := 3) scT.nd rfl (.inl rfl) (pe_op op_mod (pe_ix ix_list (pv 0) (pe_int) (fun _ _ => rfl)) (pe_callB call_len_seq (by rfl) m_len PySem.boot_len (pa_cons (pv 2) pa_nil))))
      (pss_cons (ps_set (i := 4) scT.nd rfl (.inl rfl) (pe_ix ix_list (pv 2) (pv 3) (fun _ _ => rfl)))
      (pss_cons (ps_if (pt_cmpR op_ge (pv 4) (pe_int) (nomark _))
      (pss_cons (ps_asg (pe_op op_fdiv (pv 4) (pv 1)) (pg_sub (pv 2) (pv 3) set_list))
      (pss_one (ps_ret (pe_op op_mod (pv 4) (pv 1))))) pss_nil)
      (pss_cons (ps_asg (pe_op op_add (pe_ix ix_list (pv 0) (pe_int) (fun _ _ => rfl)) (pe_int)) (pg_sub (pv 0) (pe_int) set_list))
      (pss_cons (ps_set (i := 5) scT.nd rfl (.inl rfl) (pe_op op_mod (pe_callTy call_int1 (by rfl) m_int (by decide +kernel) (pa_cons (pe_op op_add (pe_op op_mul (pv 4) (pe_int)) (pe_op op_mul (pe_ix ix_list (pv 0) (pe_int) (fun _ _ => rfl)) (pe_int))) pa_nil)) (pe_int)))
      (pss_cons (ps_set (i := 5) scT.nd rfl (.inl rfl) (pe_op op_mod (pe_callTy call_int1 (by rfl) m_int (by decide +kernel) (pa_cons (pe_op op_add (pe_op op_mul (pv 5) (pe_int)) (pe_op op_mul (pe_ix ix_list (pv 0) (pe_int) (fun _ _ => rfl)) (pe_int))) pa_nil)) (pe_int)))
      (pss_one (ps_ret (pe_op op_mod (pe_op op_fdiv (pv 5) (pe_int)) (pv 1)))))))))))), ?_⟩
    dsimp only [tNext, tSeq, tIfS, tAsg, gName, tC]
    refine ⟨_, rfl, _, _, rfl, rfl, _, rfl, ite2 (fun h1 => ?_) (fun h1 => ?_)⟩
    · have m0 : m = 0 := by
        have := of_decide_eq_true h1
        omega
      exact q H 0 (fun _ => rfl) (fun z => by omega) ⟨⟨n, ms, hp, hc, hl0, hl, h0, n0⟩, npc⟩ drawn_refl
    have mp : 0 < m := by
      have : ¬ ((m : Nat) : Int) < 1 := fun z => h1 (decide_eq_true z)
      omega
    refine ⟨_, rfl, p, _, 1, _, rfl, rfl, SqL.of hp, atI_nat (j := 1) rfl, ?_⟩
    refine ⟨_, rfl, p, _, 0, _, rfl, rfl, SqL.of hp, atI_nat (j := 0) rfl, _, rfl, c, _, rfl, .inl (SqL.of hc), _, _, rfl, rfl, by rw [List.length_map]; omega, ?_⟩
    dsimp only
    simp only [List.length_map]
    have hat := Int.emod_lt_of_pos n (show (0 : Int) < (ms.length : Int) by omega)
    have hat0 := Int.emod_nonneg n (show ((ms.length : Nat) : Int) ≠ 0 by omega)
    obtain ⟨i, hi⟩ : ∃ i : Nat, n % (ms.length : Int) = (i : Int) := ⟨_, (Int.toNat_of_nonneg hat0).symm⟩
    rw [hi] at hat
    simp only [hi]
    have li : i < ms.length := by omega
    have gi := List.getElem?_eq_getElem li
    have ci := h0 _ (List.getElem_mem li)
    generalize ms[i] = cell at gi ci
    have gv : (ms.map V.int)[i]? = some (.int cell) := by rw [List.getElem?_map, gi]; rfl
    refine ⟨_, rfl, _, rfl, c, _, _, _, rfl, rfl, SqL.of hc, atI_nat gv, ?_⟩
    have res : ∀ (x : Int), 0 ≤ x → ∃ r : Nat, x % (m : Int) = (r : Int) ∧ r < m := fun x hx => by
      have e1 := Int.emod_nonneg x (show (m : Int) ≠ 0 by omega)
      have e2 := Int.emod_lt_of_pos x (show (0 : Int) < (m : Int) by omega)
      exact ⟨(x % (m : Int)).toNat, (Int.toNat_of_nonneg e1).symm, by omega⟩
    refine ⟨_, rfl, _, _, rfl, rfl, _, rfl, ite2 (fun h2 => ?_) (fun h2 => ?_)⟩
    · refine ⟨_, rfl, _, rfl, _, _, rfl, rfl, ⟨by omega, by omega⟩, _, rfl, _, rfl, c, _, _, i, rfl, rfl, hc, ?_, ?_⟩
      · rw [List.length_map]
        unfold ixN
        rw [if_pos (by omega), if_pos (by omega), Int.toNat_natCast]
      refine ⟨_, rfl, _, rfl, _, _, rfl, rfl, by show (0 : Int) < (m : Int); omega, ?_⟩
      obtain ⟨r, hr, lr⟩ := res cell ci
      show Q (V.int (cell % (m : Int))) _
      rw [hr]
      refine q _ r (fun z => by omega) (fun _ => lr) ⟨⟨n, ms.set i (cell / (m : Int)), ?_, ?_, by rw [List.length_set]; exact hl0, by rw [List.length_set]; exact hl, ?_, n0⟩, npc⟩ ?_
      · rw [upd_ne npc]
        exact hp
      · rw [upd_same, List.map_set]
      · intro x hx
        rcases List.mem_or_eq_of_mem_set hx with hx | rfl
        · exact h0 x hx
        · exact Int.ediv_nonneg ci (by omega)
      · intro b z1 z2
        rw [upd_ne z2]
    · have c18 : cell < 1000000000000000000 := by
        have : ¬ (1000000000000000000 : Int) ≤ cell := fun z => h2 (decide_eq_true z)
        omega
      refine ⟨_, rfl, p, _, 0, _, rfl, rfl, SqL.of hp, atI_nat (j := 0) rfl, _, _, rfl, rfl, _, rfl, p, _, 0, 0, rfl, rfl, hp, rfl, ?_⟩
      have ep : (upd H p (.lst [.int (n + 1), .ref c])) p = some (.lst [.int (n + 1), .ref c]) := upd_same
      have ec : (upd H p (.lst [.int (n + 1), .ref c])) c = some (.lst (ms.map V.int)) := by rw [upd_ne (Ne.symm npc)]; exact hc
      have dr : Drawn p c H (upd H p (.lst [.int (n + 1), .ref c])) := fun b z1 z2 => upd_ne z1
      refine ⟨_, rfl, _, _, rfl, rfl, .inl ⟨by omega, by omega⟩, _, rfl, p, _, 0, _, rfl, rfl, SqL.of ep, atI_nat (j := 0) rfl, _, _, rfl, rfl, .inr ⟨by decide, by decide⟩, _, _, rfl, rfl, .inl ⟨_, rfl, _, _, rfl, rfl, by show (0 : Int) < 2147483647; decide, ?_⟩⟩
      have a0 := Int.emod_nonneg (cell * 48271 + (n + 1) * 69621) (show (2147483647 : Int) ≠ 0 by decide)
      have a1 := Int.emod_lt_of_pos (cell * 48271 + (n + 1) * 69621) (show (0 : Int) < 2147483647 by decide)
      dsimp only
      generalize hx1 : (cell * 48271 + (n + 1) * 69621) % 2147483647 = x1 at a0 a1
      refine ⟨_, rfl, _, _, rfl, rfl, .inl ⟨by omega, by omega⟩, _, rfl, p, _, 0, _, rfl, rfl, SqL.of ep, atI_nat (j := 0) rfl, _, _, rfl, rfl, .inr ⟨by decide, by decide⟩, _, _, rfl, rfl, .inl ⟨_, rfl, _, _, rfl, rfl, by show (0 : Int) < 1000000007; decide, ?_⟩⟩
      have b0 := Int.emod_nonneg (x1 * 16807 + (n + 1) * 7919) (show (1000000007 : Int) ≠ 0 by decide)
      have b1 := Int.emod_lt_of_pos (x1 * 16807 + (n + 1) * 7919) (show (0 : Int) < 1000000007 by decide)
      dsimp only
      generalize hx2 : (x1 * 16807 + (n + 1) * 7919) % 1000000007 = x2 at b0 b1
      refine ⟨_, rfl, _, _, rfl, rfl, ⟨by show (0 : Int) < 7; decide, by show (7 : Int) < 1073741824; decide⟩, _, rfl, _, _, rfl, rfl, by show (0 : Int) < (m : Int); omega, ?_⟩
      obtain ⟨r, hr, lr⟩ := res (x2 / 7) (Int.ediv_nonneg b0 (by decide))
      show Q (V.int (x2 / 7 % (m : Int))) _
      rw [hr]
      exact q _ r (fun z => by omega) (fun _ => lr) ⟨⟨n + 1, ms, ep, ec, hl0, hl, h0, by omega⟩, npc⟩ dr
end
end K20
namespace GX
open PySem PySem.Spec PyProof.Rows L2 GxR
theorem wk_str {d : Bool} {x : Str} {g : TG} {tt : TT} {te : TE} {vs : List Nat} {σ : L2.St} {Qe Qd : Hp → Prop} {H0 : Hp} (Pv : Nat → Hp → Prop) (h0 : Pv 0 H0)
    (hs : ∀ i c H, x.cps.toList[i]? = some c → Pv i H → g (.str ⟨#[c]⟩) (wipe σ vs) H fun σ2 H2 => wipe σ2 vs = wipe σ vs ∧ tt σ2 H2 fun b H3 =>
      if b = true then te σ2 H3 fun y H4 => ∃ c, y = .bl c ∧ if c = d then Qd H4 else Pv (i + 1) H4 else Pv (i + 1) H3) (hd : ∀ H, Pv x.cps.toList.length H → Qe H) :
    ∃ W : Nat → Nat → Hp → Prop, (∃ m, W 0 m H0) ∧ Wk d (Its x) g tt te vs σ W Qe Qd := by
  refine ⟨fun i m H => m = x.cps.size - i ∧ i ≤ x.cps.size ∧ Pv i H, ⟨x.cps.size, by simp, Nat.zero_le _, h0⟩, ?_⟩
  rintro i m H ⟨rfl, hi, p⟩
  by_cases hlt : i < x.cps.size
  · refine .inr ⟨hlt, Pv (i + 1), fun H' p' => ⟨x.cps.size - (i + 1), by omega, rfl, hlt, p'⟩, fun v H' y => ?_⟩
    obtain ⟨rfl, c, hc, rfl⟩ := y
    exact hs i c _ (by rw [Array.getElem?_toList]; exact hc) p
  · have e : i = x.cps.size := by omega
    subst e
    exact .inl ⟨Nat.le_refl _, hd H p⟩
theorem wk_tup {d : Bool} {K : PySem.W.Frag} {a : Addr} {xs : List V} {g : TG} {tt : TT} {te : TE} {vs : List Nat} {σ : L2.St} {Qe Qd : Hp → Prop} {H0 : Hp} (Pv : Nat → Hp → Prop) (h0 : Pv 0 H0) (hl : ∀ i H, i ≤ xs.length → Pv i H → SqT K H a xs)
    (hs : ∀ i x H, xs[i]? = some x → Pv i H → g x (wipe σ vs) H fun σ2 H2 => wipe σ2 vs = wipe σ vs ∧ tt σ2 H2 fun b H3 =>
      if b = true then te σ2 H3 fun y H4 => ∃ c, y = .bl c ∧ if c = d then Qd H4 else Pv (i + 1) H4 else Pv (i + 1) H3) (hd : ∀ H, Pv xs.length H → Qe H) :
    ∃ W : Nat → Nat → Hp → Prop, (∃ m, W 0 m H0) ∧ Wk d (Itt K a) g tt te vs σ W Qe Qd := by
  refine ⟨fun i m H => m = xs.length - i ∧ i ≤ xs.length ∧ Pv i H, ⟨xs.length, by simp, Nat.zero_le _, h0⟩, ?_⟩
  rintro i m H ⟨rfl, hi, p⟩
  have q := hl i H hi p
  by_cases hlt : i < xs.length
  · refine .inr ⟨⟨xs, xs[i], q, by simp [hlt]⟩, Pv (i + 1), fun H' p' => ⟨xs.length - (i + 1), by omega, rfl, hlt, p'⟩, fun x H' y => ?_⟩
    obtain ⟨rfl, e⟩ := y
    exact hs i x _ (e xs q) p
  · have e : i = xs.length := by omega
    subst e
    exact .inl ⟨⟨xs, q, Nat.le_refl _⟩, hd H p⟩
end GX
namespace K20
open PySem PySem.Spec PyProof.Rows L2 TL TR QR
open GxR (TabB TabG Tabbed)
theorem same_upd {a : Addr} {H H1 : Hp} {o : HO} (e : H a = none) (s : Same H H1) : Same H (upd H1 a o) := fun b o' e' => by
  rw [upd_ne (ne_of_none e' e)]
  exact s b o' e'
theorem same_trans {H H1 H2 : Hp} (a : Same H H1) (b : Same H1 H2) : Same H H2 := fun x o e => b x o (a x o e)
theorem same_none {H H' : Hp} {a : Addr} (s : Same H H') (n : H' a = none) : H a = none := by
  cases e : H a with
  | none => rfl
  | some o =>
    rw [s a o e] at n
    cases n
theorem same_refl {H : Hp} : Same H H := fun _ _ e => e
theorem ixN_nat {n j : Nat} (h : j < n) : ixN n (j : Int) = some j := by
  unfold ixN
  rw [if_pos (by omega), if_pos (by omega), Int.toNat_natCast]
theorem atI_s {α : Type} {xs : List α} {j : Nat} {v : α} (h : xs[j + 1]? = some v) : atI xs ((j : Int) + 1) = some v := by
  have := atI_nat h
  rw [Int.natCast_add] at this
  exact this
theorem atI_end {α : Type} {xs : List α} {v : α} (h : xs[xs.length - 1]? = some v) : atI xs (-1) = some v := by
  have l := (List.getElem?_eq_some_iff.mp h).1
  have e : ixN xs.length (-1) = some (xs.length - 1) := by
    unfold ixN
    rw [if_neg (by decide), if_pos (by omega)]
    congr 1
    omega
  unfold atI
  rw [e]
  exact h
def lnV : Option Str → V
  | none => .non
  | some s => .str s
theorem scal_ln (x : Option Str) (y : Str) : scal (lnV x) (.str y) = true := by
  cases x <;> rfl
theorem dec_ln (x : Option Str) (y : Str) : decide (lnV x = V.str y) = decide (x = some y) := by
  cases x with
  | none => rfl
  | some s =>
    rw [Bool.eq_iff_iff]
    simp [lnV]
theorem get_map {α β : Type} {l : List α} {i : Nat} {x : α} (f : α → β) (h : l[i]? = some x) : (l.map f)[i]? = some (f x) := by
  rw [List.getElem?_map, h]
  rfl
theorem map_get {α β : Type} {l : List α} {i : Nat} {y : β} {f : α → β} (h : (l.map f)[i]? = some y) : ∃ x, l[i]? = some x ∧ f x = y := by
  rw [List.getElem?_map] at h
  exact Option.map_eq_some_iff.mp h
theorem flat_rep {α : Type} (n : Nat) (v : α) : (List.replicate n [v]).flatten = (List.range n).map fun _ => v := by
  induction n with
  | zero => rfl
  | succ n ih =>
    rw [List.replicate_succ', List.flatten_append, ih, List.range_succ, List.map_append]
    rfl
theorem upd_self {H : Hp} {a : Addr} {o : HO} (h : H a = some o) : upd H a o = H := by
  funext b
  by_cases e : b = a
  · rw [e, upd_same, h]
  · rw [upd_ne e]
theorem to_dec {R : Bool → Hp → Prop} {H : Hp} {x y : Bool} (e : x = y) (h : R y H) : R x H := e ▸ h
/-- a test of two parts; the parts may lay new objects -/
theorem and_dec {tA tB : TT} {σ : L2.St} {H : Hp} {Q : Bool → Hp → Prop} {p q : Prop} [Decidable p] [Decidable q] (hA : ∀ R : Bool → Hp → Prop, (∀ H1, Same H H1 → R (decide p) H1) → tA σ H R)
    (hB : p → ∀ H1, Same H H1 → ∀ R : Bool → Hp → Prop, (∀ H2, Same H1 H2 → R (decide q) H2) → tB σ H1 R) (h : ∀ H2, Same H H2 → Q (decide (p ∧ q)) H2) : tAnd tA tB σ H Q := by
  refine hA _ fun H1 s1 => ?_
  by_cases hp : p
  · show if decide p = true then tB σ H1 Q else Q false H1
    rw [decide_eq_true hp]
    refine hB hp H1 s1 Q fun H2 s2 => ?_
    have := h H2 (same_trans s1 s2)
    rw [show decide (p ∧ q) = decide q from decide_eq_decide.mpr ⟨fun z => z.2, fun z => ⟨hp, z⟩⟩] at this
    exact this
  · show if decide p = true then tB σ H1 Q else Q false H1
    rw [decide_eq_false hp]
    have := h H1 s1
    rw [decide_eq_false (fun z => hp z.1)] at this
    exact this
theorem or_dec {tA tB : TT} {σ : L2.St} {H : Hp} {Q : Bool → Hp → Prop} {p q : Prop} [Decidable p] [Decidable q] (hA : ∀ R : Bool → Hp → Prop, (∀ H1, Same H H1 → R (decide p) H1) → tA σ H R)
    (hB : ¬ p → ∀ H1, Same H H1 → ∀ R : Bool → Hp → Prop, (∀ H2, Same H1 H2 → R (decide q) H2) → tB σ H1 R) (h : ∀ H2, Same H H2 → Q (decide (p ∨ q)) H2) : tOr tA tB σ H Q := by
  refine hA _ fun H1 s1 => ?_
  by_cases hp : p
  · show if decide p = true then Q true H1 else tB σ H1 Q
    rw [decide_eq_true hp]
    have := h H1 s1
    rw [decide_eq_true (Or.inl hp)] at this
    exact this
  · show if decide p = true then Q true H1 else tB σ H1 Q
    rw [decide_eq_false hp]
    refine hB hp H1 s1 Q fun H2 s2 => ?_
    have := h H2 (same_trans s1 s2)
    rw [show decide (p ∨ q) = decide q from decide_eq_decide.mpr ⟨fun z => z.resolve_left hp, fun z => .inr z⟩] at this
    exact this
theorem dec_lt {α : Type} {i : Nat} {l : List α} {f : α → V} : decide ((i : Int) < ((l.map f).length : Int)) = decide (i < l.length) := by
  rw [List.length_map]
  exact decide_eq_decide.mpr Int.ofNat_lt
theorem dec_nat {i j : Nat} : decide ((V.int (i : Int)) = V.int (j : Int)) = decide (i = j) := by
  refine decide_eq_decide.mpr ⟨fun z => ?_, fun z => by rw [z]⟩
  have := V.int.inj z
  omega
/-- draws were made, objects laid: the state stands, the others stand as before -/
structure Dr (p c : Addr) (H H' : Hp) : Prop where
  st : StateAt H' p c
  ou : ∀ b o, b ≠ p → b ≠ c → H b = some o → H' b = some o
theorem StateAt.some {H : Hp} {p c : Addr} (s : StateAt H p c) : (∃ o, H p = Option.some (.lst o)) ∧ ∃ o, H c = Option.some (.lst o) := by
  obtain ⟨⟨seed, ms, h1, h2, _⟩, _⟩ := s
  exact ⟨⟨_, h1⟩, ⟨_, h2⟩⟩
theorem StateAt.same {H H' : Hp} {p c : Addr} (s : StateAt H p c) (k : Same H H') : StateAt H' p c := s.mono (fun o e => k _ _ e) (fun o e => k _ _ e)
theorem Dr.refl {p c : Addr} {H : Hp} (s : StateAt H p c) : Dr p c H H := ⟨s, fun _ _ _ _ e => e⟩
theorem Dr.trans {p c : Addr} {H H1 H2 : Hp} (a : Dr p c H H1) (b : Dr p c H1 H2) : Dr p c H H2 := ⟨b.st, fun x o n1 n2 e => b.ou x o n1 n2 (a.ou x o n1 n2 e)⟩
theorem Dr.same {p c : Addr} {H H1 H2 : Hp} (a : Dr p c H H1) (b : Same H1 H2) : Dr p c H H2 := ⟨a.st.same b, fun x o n1 n2 e => b _ _ (a.ou x o n1 n2 e)⟩
theorem Dr.drawn {p c : Addr} {H H1 H2 : Hp} (a : Dr p c H H1) (s : StateAt H2 p c) (b : Drawn p c H1 H2) : Dr p c H H2 := ⟨s, fun x o n1 n2 e => (b x n1 n2).trans (a.ou x o n1 n2 e)⟩
theorem Dr.none {p c : Addr} {H H1 : Hp} {x : Addr} (a : Dr p c H H1) (n : H1 x = none) : H x = none := by
  obtain ⟨⟨_, e1⟩, ⟨_, e2⟩⟩ := a.st.some
  cases e : H x with
  | none => rfl
  | some o =>
    have n1 : x ≠ p := fun z => by rw [z, e1] at n; cases n
    have n2 : x ≠ c := fun z => by rw [z, e2] at n; cases n
    rw [a.ou x o n1 n2 e] at n
    cases n
theorem StateAt.new {H : Hp} {p c x : Addr} (s : StateAt H p c) (n : H x = none) : x ≠ p ∧ x ≠ c := by
  obtain ⟨⟨_, e1⟩, ⟨_, e2⟩⟩ := s.some
  exact ⟨fun z => (by rw [z, e1] at n; cases n), fun z => (by rw [z, e2] at n; cases n)⟩
theorem StateAt.upd {H : Hp} {p c x : Addr} {o : HO} (s : StateAt H p c) (n : x ≠ p ∧ x ≠ c) : StateAt (L2.upd H x o) p c :=
  s.mono (fun q e => by rw [upd_ne (Ne.symm n.1)]; exact e) (fun q e => by rw [upd_ne (Ne.symm n.2)]; exact e)
theorem tab_ne {H : Hp} {T b : Addr} {o : HO} (g : TabG H T) (e : H b = some o) (n : ∀ ps, o ≠ .tbl ps) : b ≠ T := fun z => by
  obtain ⟨ps, e1, _⟩ := g
  rw [z, e1] at e
  exact n ps (Option.some.inj e).symm
theorem tab_same {H H' : Hp} {T : Addr} (g : TabG H T) (s : Same H H') : TabG H' T := by
  obtain ⟨ps, e1, e2⟩ := g
  exact ⟨ps, s _ _ e1, e2⟩
/-- the tables stand -/
def TG (Ts : List Addr) (H : Hp) : Prop := ∀ T ∈ Ts, TabG H T
/-- what stood stands, but for the tables -/
structure Tbs (Ts : List Addr) (H H' : Hp) : Prop where
  sm : ∀ b o, b ∉ Ts → H b = some o → H' b = some o
  tg : TG Ts H'
theorem TG.same {Ts : List Addr} {H H' : Hp} (g : TG Ts H) (s : Same H H') : TG Ts H' := fun T hT => tab_same (g T hT) s
theorem Tbs.refl {Ts : List Addr} {H : Hp} (g : TG Ts H) : Tbs Ts H H := ⟨fun _ _ _ e => e, g⟩
theorem Tbs.trans {Ts : List Addr} {H H1 H2 : Hp} (a : Tbs Ts H H1) (b : Tbs Ts H1 H2) : Tbs Ts H H2 := ⟨fun x o n e => b.sm x o n (a.sm x o n e), b.tg⟩
theorem Tbs.same {Ts : List Addr} {H H1 H2 : Hp} (a : Tbs Ts H H1) (s : Same H1 H2) : Tbs Ts H H2 := ⟨fun x o n e => s _ _ (a.sm x o n e), a.tg.same s⟩
theorem Tbs.tab {Ts : List Addr} {H H1 H2 : Hp} {T : Addr} (a : Tbs Ts H H1) (t : Tabbed T H1 H2) (hT : T ∈ Ts) : Tbs Ts H H2 := by
  refine ⟨fun x o n e => (t.2 x fun z => n (z ▸ hT)).trans (a.sm x o n e), fun T' h' => ?_⟩
  by_cases z : T' = T
  · rw [z]
    exact t.1
  · obtain ⟨ps, e1, e2⟩ := a.tg T' h'
    exact ⟨ps, (t.2 T' z).trans e1, e2⟩
theorem Tbs.at_ {Ts : List Addr} {H H' : Hp} (h : Tbs Ts H H') (g : TG Ts H) {b : Addr} {o : HO} (e : H b = some o) (n : ∀ ps, o ≠ .tbl ps) : H' b = some o := h.sm b o (fun z => tab_ne (g b z) e n rfl) e
theorem Tbs.tup {Ts : List Addr} {H H' : Hp} (h : Tbs Ts H H') (g : TG Ts H) {b : Addr} {xs : List V} (e : H b = some (.tup xs)) : H' b = some (.tup xs) := h.at_ g e fun _ z => nomatch z
theorem Tbs.lst {Ts : List Addr} {H H' : Hp} (h : Tbs Ts H H') (g : TG Ts H) {b : Addr} {xs : List V} (e : H b = some (.lst xs)) : H' b = some (.lst xs) := h.at_ g e fun _ z => nomatch z
end K20
namespace K20
open PySem PySem.Spec PyProof.Rows L2 TL TR QR
open GxR (TabB TabG Tabbed)
abbrev sTO : Stmt := topS 9
abbrev nTO : List Str := ["value", "size"]
theorem scTO : FnScope nTO ["value", "size"] (defScope sTO) := ⟨rfl, rfl, rfl, by decide +kernel, rfl, by decide +kernel, by decide +kernel⟩
abbrev sWI : Stmt := topS 10
abbrev nWI : List Str := ["number", "least", "most"]
theorem scWI : FnScope nWI ["number", "least", "most"] (defScope sWI) := ⟨rfl, rfl, rfl, by decide +kernel, rfl, by decide +kernel, by decide +kernel⟩
abbrev sIL : Stmt := topS 11
abbrev nIL : List Str := ["label", "marks", "k", "mark"]
theorem scIL : FnScope nIL ["label"] (defScope sIL) := ⟨rfl, rfl, rfl, by decide +kernel, rfl, by decide +kernel, by decide +kernel⟩
abbrev sIH : Stmt := topS 12
abbrev nIH : List Str := ["name"]
theorem scIH : FnScope nIH ["name"] (defScope sIH) := ⟨rfl, rfl, rfl, by decide +kernel, rfl, by decide +kernel, by decide +kernel⟩
theorem or_decG {Rel : Hp → Hp → Prop} (tr : ∀ a b c, Rel a b → Rel b c → Rel a c) {tA tB : TT} {σ : L2.St} {H : Hp} {Q : Bool → Hp → Prop} {p q : Prop} [Decidable p] [Decidable q] (hA : ∀ R : Bool → Hp → Prop, (∀ H1, Rel H H1 → R (decide p) H1) → tA σ H R)
    (hB : ¬ p → ∀ H1, Rel H H1 → ∀ R : Bool → Hp → Prop, (∀ H2, Rel H1 H2 → R (decide q) H2) → tB σ H1 R) (h : ∀ H2, Rel H H2 → Q (decide (p ∨ q)) H2) : tOr tA tB σ H Q := by
  refine hA _ fun H1 s1 => ?_
  by_cases hp : p
  · show if decide p = true then Q true H1 else tB σ H1 Q
    rw [decide_eq_true hp]
    have := h H1 s1
    rw [decide_eq_true (Or.inl hp)] at this
    exact this
  · show if decide p = true then Q true H1 else tB σ H1 Q
    rw [decide_eq_false hp]
    refine hB hp H1 s1 Q fun H2 s2 => ?_
    have := h H2 (tr _ _ _ s1 s2)
    rw [show decide (p ∨ q) = decide q from decide_eq_decide.mpr ⟨fun z => z.resolve_left hp, fun z => .inr z⟩] at this
    exact this
def optV : Option Nat → V
  | none => .non
  | some n => .int (n : Int)
def LabO (H : Hp) (la ma : Addr) (a : Option Nat) (ms : List (Option Nat)) : Prop := H la = some (.tup [.str "label", optV a, .ref ma]) ∧ H ma = some (.tup (ms.map optV))
def withinB : Option Nat → Nat → Nat → Bool
  | none, _, _ => false
  | some k, l, m => decide (l ≤ k ∧ k ≤ m)
def ascB (l : List (Option Nat)) : Bool := (List.range (l.length - 1)).all fun k => decide ((l.getD k none).getD 0 < (l.getD (k + 1) none).getD 0)
def labB (a : Option Nat) (ms : List (Option Nat)) : Bool := withinB a 0 7 && (ms.all (fun m => withinB m 0 5) && ascB ms)
section
variable {P : Program} {w : World} {K : PySem.W.Frag} {mg : Str → Option Value} {base : Heap}
def spTO : Sp := fun vs H Q _ => ∃ (v : V) (n : Nat), vs = [v, .int (n : Int)] ∧ ((v = .non ∧ Q (.bl false) H) ∨ (∃ a xs, v = .ref a ∧ H a = some (.tup xs) ∧ Q (.bl (decide (xs.length = n))) H))
theorem ok_TO {f : Addr} {fd : FuncData} (F : Fun K "is_tuple_of" "is_tuple_of" sTO f fd)
    (m_len : mg "len" = none) (m_isinstance : mg "isinstance" = none) (m_tuple : mg "tuple" = none) : FnOk P w K mg base CX0 1 f fd ["value", "size"] spTO := by
  refine F.ok scTO (fun vs H Q E h => ?_) (fun cdv A outer s H vs Q E hr h => ?_)
  · obtain ⟨v, n, rfl, _⟩ := h
    rfl
  · obtain ⟨v, n, rfl, h⟩ := h
    have hu := hr.units
    have hu1 := hu_of hr
    have zl := zl
    refine ⟨_, (pss_one (ps_ret (pe_and (pe_callB call_isi (by rfl) m_isinstance (by decide +kernel) (pa_cons (pv 0) (pa_cons (pe_bltn (v := V.ty "tuple") (u := .type "tuple") (by rfl) m_tuple (by decide +kernel) rfl) pa_nil))) (pe_one (pe_cmpR op_eq (pe_callB call_len_seq (by rfl) m_len PySem.boot_len (pa_cons (pv 0) pa_nil)) (pv 1) (nomark _)))))), ?_⟩
    rcases h with ⟨rfl, q⟩ | ⟨a, xs, rfl, ha, q⟩
    · exact ⟨_, rfl, _, _, _, _, false, rfl, .ty _, .base .non, kit_ty (by decide +kernel), _, rfl, ite2 (fun z => absurd z (by decide)) (fun _ => q)⟩
    · refine ⟨_, rfl, _, _, _, _, true, rfl, .ty _, .base (.tup ha), kit_ty (by decide +kernel), _, rfl, ite2 (fun _ => ⟨_, rfl, a, _, rfl, .inr (SqT.of ha), _, rfl, rfl, ?_⟩) (fun z => absurd rfl z)⟩
      rw [dec_nat]
      exact q
def spWI : Sp := fun vs H Q _ => ∃ (o : Option Nat) (l m : Nat), vs = [optV o, .int (l : Int), .int (m : Int)] ∧ Q (.bl (withinB o l m)) H
theorem ok_WI {f : Addr} {fd : FuncData} (F : Fun K "is_within" "is_within" sWI f fd)
    (m_int : mg "int" = none) (m_isinstance : mg "isinstance" = none) : FnOk P w K mg base CX0 1 f fd ["number", "least", "most"] spWI := by
  refine F.ok scWI (fun vs H Q E h => ?_) (fun cdv A outer s H vs Q E hr h => ?_)
  · obtain ⟨o, l, m, rfl, _⟩ := h
    rfl
  · obtain ⟨o, l, m, rfl, q⟩ := h
    have hu := hr.units
    have hu1 := hu_of hr
    have zl := zl
    refine ⟨_, (pss_one (ps_ret (pe_and (pe_callB call_isi (by rfl) m_isinstance (by decide +kernel) (pa_cons (pv 0) (pa_cons (pe_bltn (v := V.ty "int") (u := .type "int") (by rfl) m_int (by decide +kernel) rfl) pa_nil))) (pe_one (pe_chain op_le op_le (pv 1) (pv 0) (pv 2)))))), ?_⟩
    cases o with
    | none => exact ⟨_, rfl, _, _, _, _, false, rfl, .ty _, .base .non, kit_ty (by decide +kernel), _, rfl, ite2 (fun z => absurd z (by decide)) (fun _ => q)⟩
    | some k =>
      refine ⟨_, rfl, _, _, _, _, true, rfl, .ty _, .base (.int _), kit_ty (by decide +kernel), _, rfl, ite2 (fun _ => ⟨_, rfl, _, rfl, _, _, rfl, rfl, _, rfl, ite2 (fun h => ⟨_, rfl, _, _, rfl, rfl, ?_⟩) (fun h => ?_)⟩) (fun z => absurd rfl z)⟩
      · have h := of_decide_eq_true h
        have e : decide ((k : Int) ≤ (m : Int)) = withinB (some k) l m := decide_eq_decide.mpr ⟨fun z => ⟨by omega, by omega⟩, fun z => by omega⟩
        show Q (V.bl (decide ((k : Int) ≤ (m : Int)))) H
        rw [e]
        exact q
      · have h : ¬ (l : Int) ≤ (k : Int) := fun z => h (decide_eq_true z)
        have e : withinB (some k) l m = false := decide_eq_false fun z => h (by omega)
        rw [e] at q
        exact q
def spIH (T : Addr) : Sp := fun vs H Q _ => ∃ (t : Str), vs = [.str t] ∧ t.length ≤ sizeLine ∧ TabG H T ∧ ∀ H', Tabbed T H H' → Q (.bl (wordB t "abcdefghijklmnopqrstuvwxyz" 8)) H'
theorem ok_IH {T1 f fW : Addr} {fd fdW : FuncData} {kLE : Tok} (F : Fun K "is_hand" "is_hand" sIH f fd)
    (GW : FnOk P w K mg base CX0 1 fW fdW ["text", "signs", "most"] (spWord T1)) (bW : Binds K fdW ["text", "signs", "most"] []) (gW : mg "is_word" = some (.ref fW)) (kW : PySem.W.keepIn K (.ref fW) = true)
    (gLE : mg "LETTERS" = some (.str "abcdefghijklmnopqrstuvwxyz" kLE)) (m_isinstance : mg "isinstance" = none) (m_str : mg "str" = none) : FnOk P w K mg base CX0 2 f fd ["name"] (spIH T1) := by
  refine F.ok scIH (fun vs H Q E h => ?_) (fun cdv A outer s H vs Q E hr h => ?_)
  · obtain ⟨t, rfl, _⟩ := h
    rfl
  · obtain ⟨t, rfl, ht, hT, q⟩ := h
    have hu := hr.units
    have hu1 := hu_of hr
    have hr1 : Room 1 _ := hr.mono (by decide)
    have zl := zl
    refine ⟨_, (pss_one (ps_ret (pe_and (pe_callB call_isi (by rfl) m_isinstance (by decide +kernel) (pa_cons (pv 0) (pa_cons (pe_bltn (v := V.ty "str") (u := .type "str") (by rfl) m_str (by decide +kernel) rfl) pa_nil))) (pe_one (pe_call GW hr1 (by rfl) gW kW bW .nil pass0 (pa_cons (pv 0) (pa_cons (pe_glob (v := V.str "abcdefghijklmnopqrstuvwxyz") (by rfl) gLE ⟨_, rfl⟩) (pa_cons (pe_int) pa_nil)))))))), ?_⟩
    exact ⟨_, rfl, _, _, _, _, true, rfl, .ty _, .base (.str _), kit_ty (by decide +kernel), _, rfl, ite2 (fun _ => ⟨_, rfl, t, _, 8, rfl, ht, hT, q⟩) (fun z => absurd rfl z)⟩
def spIL (Ts : List Addr) : Sp := fun vs H Q _ => ∃ (v : V), vs = [v] ∧ TG Ts H ∧ ((v = .non ∧ ∀ H', Tbs Ts H H' → Q (.bl false) H') ∨ (∃ la ma a ms, v = .ref la ∧ LabO H la ma a ms ∧ ms.length ≤ 100000 ∧ ∀ H', Tbs Ts H H' → Q (.bl (labB a ms)) H'))
theorem ok_IL {T2 c f fTO fWI : Addr} {Ts : List Addr} {oc kV doc pm ct : Value} {od an : Option Addr} {osl : Array (Option Value)} {fdTO fdWI : FuncData} (hT2 : T2 ∈ Ts) (lk : K.lookup f = some ⟨oc, od, .func (PySem.W.fnOf "is_label" "is_label" (defArgs sIL) (defBody sIL) (defScope sIL) .none kV doc pm an (.ref c) ct), osl⟩)
    (hcd : PySem.W.codeIn K (.ref c) "is_label" = true) (TB : TabB base mg c T2)
    (GTO : FnOk P w K mg base CX0 1 fTO fdTO ["value", "size"] spTO) (bTO : Binds K fdTO ["value", "size"] []) (gTO : mg "is_tuple_of" = some (.ref fTO)) (kTO : PySem.W.keepIn K (.ref fTO) = true)
    (GWI : FnOk P w K mg base CX0 1 fWI fdWI ["number", "least", "most"] spWI) (bWI : Binds K fdWI ["number", "least", "most"] []) (gWI : mg "is_within" = some (.ref fWI)) (kWI : PySem.W.keepIn K (.ref fWI) = true)
    (m_isinstance : mg "isinstance" = none) (m_tuple : mg "tuple" = none) (m_all : mg "all" = none) (m_range : mg "range" = none) (m_len : mg "len" = none) :
    FnOk P w K mg base CX0 3 f (PySem.W.fnOf "is_label" "is_label" (defArgs sIL) (defBody sIL) (defScope sIL) .none kV doc pm an (.ref c) ct) ["label"] (spIL Ts) := by
  refine fn_of lk hcd scIL (fun vs H Q E h => ?_) fun A outer s H vs Q E hr h => ?_
  · obtain ⟨v, rfl, _⟩ := h
    rfl
  · obtain ⟨v, rfl, g, h⟩ := h
    have hu := hr.units
    have hu1 := hu_of hr
    have hr1 : Room 1 _ := hr.mono (by decide)
    have zl := zl
    have hrX := hr
    refine ⟨_, (pss_cons (ps_if (PW.pt (pw_or (pt_not (pt_val (pe_call GTO hr1 (by rfl) gTO kTO bTO .nil pass0 (pa_cons (pv 0) (pa_cons (pe_int) pa_nil))))) (pw_or (pt_cmpR op_ne (pe_ix ix_tup (pv 0) (pe_int) (fun _ _ => rfl)) (pe_str) (nomark _)) (pw_or1 (pt_not (pt_val (pe_call GWI hr1 (by rfl) gWI kWI bWI .nil pass0 (pa_cons (pe_ix ix_tup (pv 0) (pe_int) (fun _ _ => rfl)) (pa_cons (pe_int) (pa_cons (pe_int) pa_nil))))))))))
      (pss_one (ps_ret (pe_bl))) pss_nil)
      (pss_cons (ps_set (i := 1) scIL.nd rfl (.inr rfl) (pe_ix ix_tup (pv 0) (pe_int) (fun _ _ => rfl)))
      (pss_cons (ps_if (PW.pt (pw_or (pt_not (pt_val (pe_callB call_isi (by rfl) m_isinstance (by decide +kernel) (pa_cons (pv 1) (pa_cons (pe_bltn (v := V.ty "tuple") (u := .type "tuple") (by rfl) m_tuple (by decide +kernel) rfl) pa_nil))))) (pw_or1 (pt_not (pt_truth (GX.pe_allG (k := 1) (own := [("mark", 3)]) (g := gName 3) (tt := tYes) (te := tCall spWI [] E0 (tCons (tVar 3) (tCons (tC (.int 0)) (tCons (tC (.int 5)) tNil)))) hrX rfl scIL.nd (by rfl) m_all ⟨blkOk_by (N := nIL) (sc := defScope sIL) (by decide +kernel), by decide +kernel, rfl, rfl, TB, rfl⟩ (pi_tup (pv 1)) (fun _ _ _ _ _ _ hrG => by exact pg_name (i := 3) scIL.nd rfl (.inl rfl)) (fun _ _ _ _ _ _ hrG => pts_nil) (fun _ _ _ _ _ _ hrG => by exact pe_call GWI (hrG.mono (by decide)) (by rfl) gWI kWI bWI .nil pass0 (pa_cons (pv 3) (pa_cons (pe_int) (pa_cons (pe_int) pa_nil)))) (fun _ => rfl)) (by intro _; rfl))))))
      (pss_one (ps_ret (pe_bl))) pss_nil)
      (pss_one (ps_ret (GX.pe_allG (k := 1) (own := [("k", 2)]) (g := gName 2) (tt := tYes) (te := tOp (rI0 fun i j => .bl (decide (i < j))) (tOp (rIxT K) (tVar 1) (tVar 2)) (tOp (rIxT K) (tVar 1) (tOp (rI0 fun i j => .int (i + j)) (tVar 2) (tC (.int 1))))) hrX rfl scIL.nd (by rfl) m_all ⟨blkOk_by (N := nIL) (sc := defScope sIL) (by decide +kernel), by decide +kernel, rfl, rfl, TB, rfl⟩ (pi_range1 (by rfl) m_range (pa_cons (pe_op op_sub (pe_callB call_len_seq (by rfl) m_len PySem.boot_len (pa_cons (pv 1) pa_nil)) (pe_int)) pa_nil)) (fun _ _ _ _ _ _ hrG => by exact pg_name (i := 2) scIL.nd rfl (.inl rfl)) (fun _ _ _ _ _ _ hrG => pts_nil) (fun _ _ _ _ _ _ hrG => by exact pe_cmpR op_lt (pe_ix ix_tup (pv 1) (pv 2) (fun _ _ => rfl)) (pe_ix ix_tup (pv 1) (pe_op op_add (pv 2) (pe_int)) (fun _ _ => rfl)) (nomark _)) (fun _ => rfl))))))), ?_⟩
    dsimp only [tNext, tSeq, tIfS, tAsg, gName, tC]
    rcases h with ⟨rfl, q⟩ | ⟨la, ma, a, ms, rfl, hL, hl, q⟩
    · refine or_dec (p := True) (q := False) (fun R k => ⟨_, rfl, _, 3, rfl, .inl ⟨rfl, _, rfl, to_dec (by simp) (k _ same_refl)⟩⟩) (fun z => absurd trivial z) fun H2 s2 => ite2 (fun _ => q _ ((Tbs.refl g).same s2)) (fun h => absurd (decide_eq_true (.inl trivial)) h)
    · have no : ∀ H', Tbs Ts H H' → labB a ms = false → Q (.bl false) H' := fun H' t e => by
        have := q H' t
        rw [e] at this
        exact this
      have hml : (ms.map optV).length = ms.length := List.length_map _
      refine or_dec (p := False) (q := False ∨ ¬ withinB a 0 7 = true) (fun R k => ⟨_, rfl, _, 3, rfl, .inr ⟨la, _, rfl, hL.1, _, rfl, to_dec (by simp) (k _ same_refl)⟩⟩)
        (fun _ H1 s1 R k => or_dec (p := False) (q := ¬ withinB a 0 7 = true) (fun R k => ⟨_, rfl, la, _, _, _, rfl, rfl, SqT.of (s1 _ _ hL.1), atI_nat (j := 0) rfl, rfl, _, rfl, to_dec (by simp) (k _ same_refl)⟩)
          (fun _ H2 s2 R k => ⟨_, rfl, la, _, _, _, rfl, rfl, SqT.of (s2 _ _ (s1 _ _ hL.1)), atI_nat (j := 1) rfl, a, 0, 7, rfl, _, rfl, to_dec (by cases withinB a 0 7 <;> simp) (k _ same_refl)⟩) k) fun H1 s1 => ite2 (fun h => ?_) (fun h => ?_)
      · have h := of_decide_eq_true h
        refine no _ ((Tbs.refl g).same s1) ?_
        unfold labB
        rw [show withinB a 0 7 = false from Bool.eq_false_iff.mpr (by simpa using h), Bool.false_and]
      have h7 : withinB a 0 7 = true := Decidable.byContradiction fun z => h (decide_eq_true (.inr (.inr z)))
      have t1 : Tbs Ts H H1 := (Tbs.refl g).same s1
      have e1 := s1 _ _ hL.1
      have m1 := s1 _ _ hL.2
      refine ⟨_, rfl, la, _, _, _, rfl, rfl, SqT.of e1, atI_nat (j := 2) rfl, ?_⟩
      dsimp only [tNext, tSeq, tIfS, tAsg, gName, tC]
      refine or_decG (Rel := Tbs Ts) (fun _ _ _ => Tbs.trans) (p := False) (q := ¬ (ms.all fun m => withinB m 0 5) = true) (fun R k => ⟨_, rfl, _, _, _, _, true, rfl, .ty _, .base (.tup m1), kit_ty (by decide +kernel), _, rfl, to_dec (by simp) (k _ (Tbs.refl t1.tg))⟩)
        (fun _ H2 t2 R k => ⟨_, rfl, ma, rfl, ⟨_, SqT.of (t2.tup t1.tg m1)⟩, t2.tg T2 hT2, fun H3 t3 => ?_⟩) fun H2 t2 => ite2 (fun h => ?_) (fun h => ?_)
      · have m2 := t2.tup t1.tg m1
        have b3 := (Tbs.refl t2.tg).tab t3 hT2
        refine GX.wk_tup (xs := ms.map optV) (fun i H' => Tbs Ts H2 H' ∧ ∀ m o, m < i → ms[m]? = some o → withinB o 0 5 = true) ⟨b3, fun m o h => by omega⟩ ?_ ?_ ?_
        · rintro i H' _ ⟨t5, _⟩
          exact SqT.of (t5.tup t2.tg m2)
        · rintro i y H5 hy ⟨t5, hm⟩
          obtain ⟨o, go, rfl⟩ := map_get hy
          refine ⟨rfl, _, rfl, o, 0, 5, rfl, _, rfl, ?_⟩
          by_cases hw : withinB o 0 5 = true
          · rw [if_neg (by rw [hw]; decide)]
            refine ⟨t5, fun m o' h e => ?_⟩
            by_cases hmk : m = i
            · subst hmk
              rw [go] at e
              cases e
              exact hw
            · exact hm m o' (by omega) e
          · rw [if_pos (Bool.eq_false_iff.mpr hw)]
            have ha : (ms.all fun m => withinB m 0 5) = false := by
              rw [List.all_eq_false]
              exact ⟨o, List.mem_of_getElem? go, hw⟩
            exact ⟨_, rfl, to_dec (by rw [ha]; rfl) (k _ t5)⟩
        · rintro H5 ⟨t5, hm⟩
          rw [hml] at hm
          have ha : (ms.all fun m => withinB m 0 5) = true := by
            rw [List.all_eq_true]
            intro o ho
            obtain ⟨m, e⟩ := List.mem_iff_getElem?.mp ho
            exact hm m o (List.getElem?_eq_some_iff.mp e).1 e
          exact ⟨_, rfl, to_dec (by rw [ha]; rfl) (k _ t5)⟩
      · have h := of_decide_eq_true h
        refine no _ (t1.trans t2) ?_
        unfold labB
        rw [Bool.eq_false_iff.mpr (h.resolve_left id), Bool.false_and, Bool.and_false]
      have ha : (ms.all fun m => withinB m 0 5) = true := Decidable.byContradiction fun z => h (decide_eq_true (.inr z))
      have t12 := t1.trans t2
      have m2 := t2.tup t1.tg m1
      have yes : ∀ H', Tbs Ts H H' → Q (.bl (ascB ms)) H' := fun H' t => by
        have := q H' t
        unfold labB at this
        rw [h7, ha] at this
        exact this
      have isS : ∀ i, i < ms.length → ∃ n, ms[i]? = some (some n) := fun i hi => by
        have ge := List.getElem?_eq_getElem hi
        have := List.all_eq_true.mp ha _ (List.getElem_mem hi)
        generalize ms[i] = o at ge this
        cases o with
        | none => cases this
        | some n => exact ⟨n, ge⟩
      refine ⟨_, rfl, ma, _, rfl, .inr (SqT.of m2), _, _, rfl, rfl, _, rfl, by rw [hml]; omega, by rw [hml]; omega, t2.tg T2 hT2, fun H3 t3 => ?_⟩
      have b3 := (Tbs.refl t2.tg).tab t3 hT2
      have en : (((ms.map optV).length : Nat) : Int) - 1 = ((ms.length : Nat) : Int) - 1 := by rw [hml]
      refine GX.wk_range (lo := 0) (n := ((((ms.map optV).length : Nat) : Int) - 1).toNat) (fun i H' => Tbs Ts H2 H' ∧ ∀ m, m < i → (ms.getD m none).getD 0 < (ms.getD (m + 1) none).getD 0) ⟨b3, fun m h => by omega⟩ ?_ ?_
      · rintro i H5 hi ⟨t5, hm⟩
        rw [en] at hi
        obtain ⟨n1, g1⟩ := isS i (by omega)
        obtain ⟨n2, g2⟩ := isS (i + 1) (by omega)
        have m5 := t5.tup t2.tg m2
        rw [show (0 : Int) + (i : Int) = ((i : Nat) : Int) from Int.zero_add _]
        refine ⟨rfl, _, rfl, _, rfl, ma, _, _, .int (n1 : Int), rfl, rfl, SqT.of m5, atI_nat (get_map _ g1), _, rfl, _, rfl, _, _, rfl, rfl, ma, _, _, .int (n2 : Int), rfl, rfl, SqT.of m5, atI_s (get_map _ g2), _, _, rfl, rfl, _, rfl, ?_⟩
        have d1 : (ms.getD i none).getD 0 = n1 := by rw [List.getD_eq_getElem?_getD, g1]; rfl
        have d2 : (ms.getD (i + 1) none).getD 0 = n2 := by rw [List.getD_eq_getElem?_getD, g2]; rfl
        by_cases hw : n1 < n2
        · rw [if_neg (by rw [decide_eq_true (Int.ofNat_lt.mpr hw)]; decide)]
          refine ⟨t5, fun m h => ?_⟩
          by_cases hmk : m = i
          · subst hmk
            rw [d1, d2]
            exact hw
          · exact hm m (by omega)
        · rw [if_pos (decide_eq_false (fun z => hw (Int.ofNat_lt.mp z)))]
          have := yes H5 (t12.trans t5)
          rw [show ascB ms = false by
            unfold ascB
            rw [List.all_eq_false]
            exact ⟨i, List.mem_range.mpr (by omega), by rw [d1, d2, decide_eq_true_eq]; exact hw⟩] at this
          exact this
      · rintro H5 ⟨t5, hm⟩
        rw [en] at hm
        have := yes H5 (t12.trans t5)
        rw [show ascB ms = true by
          unfold ascB
          rw [List.all_eq_true]
          intro i hi
          exact decide_eq_true (hm i (by have := List.mem_range.mp hi; omega))] at this
        exact this
end
end K20
namespace K20
open PySem PySem.Spec PyProof.Rows L2 TL TR QR
open GxR (TabB TabG Tabbed)
abbrev sII : Stmt := topS 13
abbrev nII : List Str := ["name"]
theorem scII : FnScope nII ["name"] (defScope sII) := ⟨rfl, rfl, rfl, by decide +kernel, rfl, by decide +kernel, by decide +kernel⟩
abbrev Lab := Nat × List Nat
abbrev Nm := Lab × List Nat × Nat
abbrev Vx := Nm × Nat × Nat
abbrev Path := List (List Nat)
abbrev strV (ps : Path) : List V := ps.map fun l => V.str (Sg l)
def LabAt (H : Hp) (v : V) (l : Lab) : Prop := ∃ la ma, v = .ref la ∧ H la = some (.tup [.str "label", .int (l.1 : Int), .ref ma]) ∧ H ma = some (.tup (l.2.map fun m : Nat => V.int (m : Int)))
def NmAt (H : Hp) (v : V) (n : Nm) : Prop := ∃ na lv, v = .ref na ∧ H na = some (.tup [lv, .str (Sg n.2.1), .int (n.2.2 : Int)]) ∧ LabAt H lv n.1
def VxAt (H : Hp) (v : V) (x : Vx) : Prop := ∃ va nv, v = .ref va ∧ H va = some (.tup [nv, .int (x.2.1 : Int), .int (x.2.2 : Int)]) ∧ NmAt H nv x.1
def PathAt (H : Hp) (v : V) (ps : Path) : Prop := ∃ a, v = .ref a ∧ H a = some (.tup (strV ps))
def OptR {α : Type} (R : Hp → V → α → Prop) (H : Hp) (v : V) : Option α → Prop
  | none => v = .non
  | some a => R H v a
/-- tuples stay -/
def TS (H H' : Hp) : Prop := ∀ b xs, H b = some (.tup xs) → H' b = some (.tup xs)
theorem TS.refl {H : Hp} : TS H H := fun _ _ e => e
theorem TS.trans {H H1 H2 : Hp} (a : TS H H1) (b : TS H1 H2) : TS H H2 := fun x o e => b x o (a x o e)
theorem Same.ts {H H' : Hp} (s : Same H H') : TS H H' := fun b _ e => s b _ e
theorem Tbs.ts {Ts : List Addr} {H H' : Hp} (t : Tbs Ts H H') (g : TG Ts H) : TS H H' := fun b _ e => t.tup g e
theorem Dr.ts {p c : Addr} {H H' : Hp} (st : StateAt H p c) (d : Dr p c H H') : TS H H' := fun b xs e => by
  obtain ⟨⟨_, e1⟩, ⟨_, e2⟩⟩ := st.some
  exact d.ou b _ (fun z => by rw [z, e1] at e; cases e) (fun z => by rw [z, e2] at e; cases e) e
theorem LabAt.ts {H H' : Hp} {v : V} {l : Lab} (s : TS H H') : LabAt H v l → LabAt H' v l := fun ⟨la, ma, e, a, b⟩ => ⟨la, ma, e, s _ _ a, s _ _ b⟩
theorem NmAt.ts {H H' : Hp} {v : V} {l : Nm} (s : TS H H') : NmAt H v l → NmAt H' v l := fun ⟨na, lv, e, a, b⟩ => ⟨na, lv, e, s _ _ a, b.ts s⟩
theorem VxAt.ts {H H' : Hp} {v : V} {l : Vx} (s : TS H H') : VxAt H v l → VxAt H' v l := fun ⟨na, lv, e, a, b⟩ => ⟨na, lv, e, s _ _ a, b.ts s⟩
theorem PathAt.ts {H H' : Hp} {v : V} {l : Path} (s : TS H H') : PathAt H v l → PathAt H' v l := fun ⟨a, e, h⟩ => ⟨a, e, s _ _ h⟩
theorem OptR.ts {α : Type} {R : Hp → V → α → Prop} {H H' : Hp} {v : V} {o : Option α} (s : TS H H') (h : ∀ a, R H v a → R H' v a) : OptR R H v o → OptR R H' v o := fun z => by
  cases o with
  | none => exact z
  | some a => exact h a z
def okLab (l : Lab) : Bool := labB (some l.1) (l.2.map some)
def okWord (w : List Nat) : Bool := wordB (Sg w) "abcdefghijklmnopqrstuvwxyz" 8
def digitsS : Str := "0123456789"
def letS : Str := Str.ofString "abcdefghijklmnopqrstuvwxyz" ++ digitsS
def okPath (ps : Path) : Bool := decide (1 ≤ ps.length ∧ ps.length ≤ 4) && ps.all fun l => wordB (Sg l) letS 8
def idB (lo : Option Lab) (w : List Nat) (k : Option Nat) : Bool := (match lo with | none => false | some l => okLab l) && (okWord w && withinB k 1 99999)
def okNm (n : Nm) : Bool := okLab n.1 && (okWord n.2.1 && withinB (some n.2.2) 1 99999)
def vxB (o : Option Nm) (a b : Option Nat) : Bool := (match o with | none => false | some n => okNm n) && (withinB a 0 11 && withinB b 0 199)
section
variable {P : Program} {w : World} {K : PySem.W.Frag} {mg : Str → Option Value} {base : Heap}
def spII (Ts : List Addr) : Sp := fun vs H Q _ => ∃ (v : V), vs = [v] ∧ TG Ts H ∧ ((v = .non ∧ ∀ H', Tbs Ts H H' → Q (.bl false) H') ∨
  (∃ na lv wd k lo, v = .ref na ∧ H na = some (.tup [lv, .str (Sg wd), optV k]) ∧ wd.length ≤ 100000 ∧ OptR LabAt H lv lo ∧ (∀ l, lo = some l → l.2.length ≤ 1000) ∧ ∀ H', Tbs Ts H H' → Q (.bl (idB lo wd k)) H'))
theorem ok_II {T1 f fTO fIL fIH fWI : Addr} {Ts : List Addr} {fd fdTO fdIL fdIH fdWI : FuncData} (hT1 : T1 ∈ Ts) (F : Fun K "is_id" "is_id" sII f fd)
    (GTO : FnOk P w K mg base CX0 1 fTO fdTO ["value", "size"] spTO) (bTO : Binds K fdTO ["value", "size"] []) (gTO : mg "is_tuple_of" = some (.ref fTO)) (kTO : PySem.W.keepIn K (.ref fTO) = true)
    (GIL : FnOk P w K mg base CX0 3 fIL fdIL ["label"] (spIL Ts)) (bIL : Binds K fdIL ["label"] []) (gIL : mg "is_label" = some (.ref fIL)) (kIL : PySem.W.keepIn K (.ref fIL) = true)
    (GIH : FnOk P w K mg base CX0 2 fIH fdIH ["name"] (spIH T1)) (bIH : Binds K fdIH ["name"] []) (gIH : mg "is_hand" = some (.ref fIH)) (kIH : PySem.W.keepIn K (.ref fIH) = true)
    (GWI : FnOk P w K mg base CX0 1 fWI fdWI ["number", "least", "most"] spWI) (bWI : Binds K fdWI ["number", "least", "most"] []) (gWI : mg "is_within" = some (.ref fWI)) (kWI : PySem.W.keepIn K (.ref fWI) = true) :
    FnOk P w K mg base CX0 4 f fd ["name"] (spII Ts) := by
  refine F.ok scII (fun vs H Q E h => ?_) (fun cdv A outer s H vs Q E hr h => ?_)
  · obtain ⟨v, rfl, _⟩ := h
    rfl
  · obtain ⟨v, rfl, g, h⟩ := h
    have hu := hr.units
    have hu1 := hu_of hr
    have hr1 : Room 1 _ := hr.mono (by decide)
    have hr2 : Room 2 _ := hr.mono (by decide)
    have hr3 : Room 3 _ := hr.mono (by decide)
    have zl := zl
    refine ⟨_, (pss_one (ps_ret (pe_and (pe_call GTO hr1 (by rfl) gTO kTO bTO .nil pass0 (pa_cons (pv 0) (pa_cons (pe_int) pa_nil))) (pe_and (pe_call GIL hr3 (by rfl) gIL kIL bIL .nil pass0 (pa_cons (pe_ix ix_tup (pv 0) (pe_int) (fun _ _ => rfl)) pa_nil)) (pe_and (pe_call GIH hr2 (by rfl) gIH kIH bIH .nil pass0 (pa_cons (pe_ix ix_tup (pv 0) (pe_int) (fun _ _ => rfl)) pa_nil)) (pe_one (pe_call GWI hr1 (by rfl) gWI kWI bWI .nil pass0 (pa_cons (pe_ix ix_tup (pv 0) (pe_int) (fun _ _ => rfl)) (pa_cons (pe_int) (pa_cons (pe_int) pa_nil)))))))))), ?_⟩
    rcases h with ⟨rfl, q⟩ | ⟨na, lv, wd, k, lo, rfl, hn, hw, hl, hm, q⟩
    · exact ⟨_, rfl, _, 3, rfl, .inl ⟨rfl, _, rfl, ite2 (fun z => absurd z (by decide)) (fun _ => q _ (Tbs.refl g))⟩⟩
    · have zl := zl
      refine ⟨_, rfl, _, 3, rfl, .inr ⟨na, _, rfl, hn, _, rfl, ite2 (fun _ => ?_) (fun z => absurd rfl z)⟩⟩
      cases lo with
      | none =>
        have ev : lv = .non := hl
        subst ev
        refine ⟨_, rfl, na, _, _, _, rfl, rfl, SqT.of hn, atI_nat (j := 0) rfl, .non, rfl, g, .inl ⟨rfl, fun H1 t1 => ⟨_, rfl, ite2 (fun z => absurd z (by decide)) (fun _ => q H1 t1)⟩⟩⟩
      | some l =>
        have hl2 := hl
        obtain ⟨la, ma, rfl, e1, e2⟩ := hl
        refine ⟨_, rfl, na, _, _, _, rfl, rfl, SqT.of hn, atI_nat (j := 0) rfl, .ref la, rfl, g, .inr ⟨la, ma, some l.1, l.2.map some, rfl, ⟨e1, by rw [List.map_map]; exact e2⟩, by rw [List.length_map]; exact Nat.le_trans (hm l rfl) (by decide), fun H1 t1 => ⟨_, rfl, ite2 (fun h1 => ?_) (fun h1 => ?_)⟩⟩⟩
        · have h1 : okLab l = true := h1
          refine ⟨_, rfl, na, _, _, _, rfl, rfl, SqT.of (t1.tup g hn), atI_nat (j := 1) rfl, Sg wd, rfl, by show wd.length ≤ _; omega, t1.tg T1 hT1, fun H2 t2 => ?_⟩
          have b2 : Tbs Ts H H2 := t1.tab t2 hT1
          refine ⟨_, rfl, ite2 (fun h2 => ?_) (fun h2 => ?_)⟩
          · have h2 : okWord wd = true := h2
            refine ⟨_, rfl, na, _, _, _, rfl, rfl, SqT.of (b2.tup g hn), atI_nat (j := 2) rfl, k, 1, 99999, rfl, ?_⟩
            have := q H2 b2
            unfold idB at this
            simp only [h1, h2, Bool.true_and] at this
            exact this
          · have h2 : okWord wd = false := Bool.eq_false_iff.mpr h2
            have := q H2 b2
            unfold idB at this
            rw [h2, Bool.false_and, Bool.and_false] at this
            exact this
        · have h1 : okLab l = false := Bool.eq_false_iff.mpr h1
          have := q H1 t1
          unfold idB at this
          simp only [h1, Bool.false_and] at this
          exact this
end
end K20
namespace PySem
namespace TextX
open PySem.W PySem.Calls PyProof.Rows PySem.HandSPX
/-! ### the text of __init__ -/
def iA (p1 p2 : Pos) : Arguments := { posonlyargs := [], args := [{ arg := "self", annotation := none, pos := p1 }, { arg := "place", annotation := none, pos := p2 }], vararg := none, kwonlyargs := [], kw_defaults := [], kwarg := none, defaults := [] }
def iB (q1 q2 q3 q4 : Pos) : List Stmt := [.Assign [.Attribute (.Name "self" q1) "place" q2] (.Name "place" q3) q4]
def iS : Scope := { kind := .function, names := [(PySem.Str.ofString "self", .local), (PySem.Str.ofString "place", .local)], isGenerator := false, isCoroutine := false, more := [] }
/-- what the written part says of Low, at C, and of its __init__, at fI -/
structure TextTxt (K : Frag) (mg : Str → Option Value) (C fI : Addr) : Prop where
  gC : mg "VouchError" = some (.ref C)
  cls : ∃ nm q N bs bm sn sub ab col dd k0 k1 k2 k3 k5, K.lookup C = some (excClassObj nm q C N bs bm true sn sub ab col dd k0 k1 k2 k3 k5 "ValueError.__new__") ∧ refsVE bm = true
  sa : findIn K (.ref C) "__setattr__" = some (some (.builtin "object.__setattr__"))
  ga : findIn K (.ref C) "__getattribute__" = some (some (.builtin "BaseException.__getattribute__"))
  gg : findIn K (.ref C) "__getattr__" = some none
  noN : findIn K (.ref C) "place" = some none
  iC : findIn K (.ref C) "__init__" = some (some (.ref fI))
  tC : typeIn K (.ref fI) = some (.type "function")
  kC : keepIn K (.ref C) = true
  exC : subIn K (.ref C) (.type "BaseException") = some true
  tyC : typeIn K (.ref C) = some (.type "type")
  hdC : hasDictIn K C = true
  te : exmOne K (.ref C) (.ref C) = some true
  fn : ∃ (oc : Value) (od : Option Addr) (doc pm : Value) (an : Option Addr) (cdv ct : Value) (osl : Array (Option Value)) (p1 p2 q1 q2 q3 q4 : Pos),
    K.lookup fI = some ⟨oc, od, .func (fnOf "__init__" "VouchError.__init__" (iA p1 p2) (iB q1 q2 q3 q4) iS .none .none doc pm an cdv ct), osl⟩ ∧ codeIn K cdv "VouchError.__init__" = true
theorem one_size (v : Value) : [v].length ≤ sizeLine := by
  rw [sizeLine_eq]
  exact (by decide : 1 ≤ 16777216)
theorem kept_but {K : Frag} {h h' : Heap} {x : Addr} (X : K.In h) (hx : K.lookup x = none) (k : ∀ b o, b ≠ x → h.get? b = some o → h'.get? b = some o) : K.In h' := fun a o e =>
  k a o (fun z => by rw [z, hx] at e; cases e) (X a o e)
theorem ldC {M : Model} {s : Shared} {name : Str} {scope : Scope} {L a : Addr} {cd : Value} {m : Str → Option Value} {x : Str} {pos : Pos} {v : Value} {Q : Value → Shared → Prop} {A : Around} {E : Value → Shared → Prop} (hn : s.heap.Ns L m) (hv : m x = some v) (h : Q v s)
    (hk : scope.kind = .function := by rfl) (hl : (envOfC name scope L a cd).kindOf x = some .local := by rfl) (hd : (x == ("__debug__" : Str)) = false := by decide) :
    wpAny M A (eval (.Name x pos) (envOfC name scope L a cd)) Q E s := wpAny_Name (wpAny_loadName_local hk hl hn hv h) hd
/-- what __init__ leaves of a fresh exception at x -/
structure InitEnd (h h' : Heap) (x C dx t1 : Addr) (v : Value) : Prop where
  keep : ∀ b o, b ≠ x → h.get? b = some o → h'.get? b = some o
  obj : h'.get? x = some { cls := .ref C, dict := some dx, data := .fields #[.ref t1, .none, .none, .none, .bool false, .none] }
  dbig : h.objs.size ≤ dx
  dne : dx ≠ x
  ns : h'.Ns1 dx (fun y => if y = "place" then some v else none)
/-- a made Low -/
structure OwnMade (h h' : Heap) (e C d : Addr) (v : Value) : Prop where
  keep : ∀ b o, h.get? b = some o → h'.get? b = some o
  new : h.objs.size ≤ e
  obj : ∃ oe vs, h'.get? e = some oe ∧ oe.cls = .ref C ∧ oe.dict = some d ∧ oe.data = .fields vs ∧ vs[1]? = some .none
  dbig : h.objs.size ≤ d
  dne : d ≠ e
  ns : h'.Ns1 d (fun y => if y = "place" then some v else none)
section
variable {prog : Program} {w : World} {A : Around} {E : Value → Shared → Prop} {R : Result → Shared → Prop} {s : Shared} {K : Frag} {mg : Str → Option Value} {C fI : Addr}
theorem step_init (T : TextTxt K mg C fI) {x t0 : Addr} {v : Value} (X : K.In s.heap) (hlim : s.heap.NoLimit) (hx : s.heap.get? x = some (excO C t0)) (hnx : K.lookup x = none) (hroom : A.depth < recursionLimit)
    (hq : ∀ h' tk dx, InitEnd s.heap h' x C dx t0 v → R (.ok (.ret .none)) { s with heap := h', toks := tk }) :
    codeAny (model prog w) A (.call (.ref fI) ⟨[.ref x, v], []⟩) R s := by
  obtain ⟨oc, od, doc, pm, an, cdv, ct, osl, p1, p2, q1, q2, q3, q4, ho, hcd⟩ := T.fn
  obtain ⟨nm, q, N, bs, bm, sn, sub, ab, col, dd, k0, k1, k2, k3, k5, hC, hbm⟩ := T.cls
  have hcl : clsIn K C = some { name := nm, bases := bs, mro := .ref C :: bm, ns := N, qualname := q, hasDict := true, slotNames := sn, subclasses := sub, abstract := ab, collection := col, hasDel := false } := by unfold clsIn; rw [hC] <;> rfl
  refine Att.call_fn (binds := [("self", .ref x), ("place", v)]) X hlim ho hcd hroom (BindsTo.of_eq (by first | rfl | with_unfolding_all rfl)) (by first | rfl | decide | with_unfolding_all rfl) (fun s₁ IC => ?_) rfl rfl rfl
  obtain ⟨h₁, tk₁, rfl⟩ := IC.toInCall.same
  have k : ∀ b o, s.heap.get? b = some o → h₁.get? b = some o := IC.toInCall.keep
  have hn := IC.toInCall.ns
  have hxL : s.heap.objs.size ≠ x := Nat.ne_of_gt (Heap.lt_size hx)
  have X₁ : K.In h₁ := X.keeps k
  have hx₁ := k _ _ hx
  -- self.by = by
  show wpAny _ _ (execs _ _) _ _ _
  refine wpAny_execs_cons (plainObj_wpAny_Assign_Attribute ?_)
  refine ldC (v := v) hn (by first | rfl | with_unfolding_all rfl | kernel_rfl) (ldC (v := .ref x) hn (by first | rfl | with_unfolding_all rfl | kernel_rfl) ?_)
  refine set_plain X₁ (ox := excO C t0) (od := none) ⟨hx₁, rfl, rfl, trivial⟩ T.sa ?_
  refine exc_osa X₁ hx₁ hcl (show refsVE (.ref C :: bm) = true from hbm) rfl T.noN (fun h₃ tk₃ dx k₃ dn dne hx₃ hn₃ => ?_)
  show wpAny _ _ (execs _ _) _ _ _
  have z : s.heap.objs.size < h₁.objs.size := hn.lt
  exact wpAny_execs_nil (hq h₃ tk₃ dx ⟨fun b o hb e => k₃ b o hb (k b o e), hx₃, Nat.le_of_lt (Nat.lt_of_lt_of_le z dn), dne, hn₃⟩)
theorem step_made (T : TextTxt K mg C fI) {v : Value} (X : K.In s.heap) (hlim : s.heap.NoLimit) (hroom : A.depth + 1 < recursionLimit)
    (hq : ∀ h' tk e d, OwnMade s.heap h' e C d v → R (.ok (.ret (.ref e))) { s with heap := h', toks := tk }) :
    codeAny (model prog w) A (.call (.ref C) ⟨[v], []⟩) R s := by
  obtain ⟨nm, q, N, bs, bm, sn, sub, ab, col, dd, k0, k1, k2, k3, k5, hC, hbm⟩ := T.cls
  obtain ⟨hp, g, dr, tk, os⟩ := s
  have k : ∀ b o, hp.get? b = some o → ((hp.push (kdv_tup [v])).push (excO C hp.objs.size)).get? b = some o := fun b o e => Heap.get?_push_of_some _ (Heap.get?_push_of_some _ e)
  have hget : ((hp.push (kdv_tup [v])).push (excO C hp.objs.size)).get? (hp.objs.size + 1) = some (excO C hp.objs.size) := by heap_get
  have hnx : K.lookup (hp.objs.size + 1) = none := by
    cases e : K.lookup (hp.objs.size + 1) with
    | none => rfl
    | some o =>
      have z : hp.get? (hp.objs.size + 1) = some o := X _ _ e
      exact absurd (Nat.lt_of_succ_lt (Heap.lt_size z)) (Nat.lt_irrefl _)
  refine call_own F.excBase_ValueError (fun X => refsVE_contains X bm hbm) (X _ _ hC) (looks_findIn X T.iC) (fun self => bind_fn X self T.tC) (one_size v) ?_
  refine step_init (s := ⟨(hp.push (kdv_tup [v])).push (excO C hp.objs.size), g, dr, tk, os⟩) T (X.keeps k) (hlim.keeps k) hget hnx ?_ fun h' tk' dx ⟨k', hx, dn, dne, hns⟩ => ?_
  · show A.depth + 1 < recursionLimit
    exact hroom
  · have old : ∀ b o, hp.get? b = some o → h'.get? b = some o := fun b o e => k' b o (Nat.ne_of_lt (Nat.lt_succ_of_lt (Heap.lt_size e))) (k b o e)
    have z : hp.objs.size + 1 + 1 ≤ dx := by
      first
        | (simpa only [Heap.size_push] using dn)
        | exact dn
        | (have q := dn; rw [Heap.size_push, Heap.size_push] at q; exact q)
    exact ⟨rfl, hq h' tk' (hp.objs.size + 1) dx ⟨old, Nat.le_succ _, ⟨_, _, hx, rfl, rfl, rfl, rfl⟩, Nat.le_trans (Nat.le_trans (Nat.le_succ _) (Nat.le_succ _)) z, dne, hns⟩⟩
end
end TextX
end PySem
namespace L2
open PySem PySem.Spec PyProof.Rows
theorem relO_step {v : V} {v' : Value} (r : RelV v v') (f : Str) : RelO (List.lookup f [(("place" : Str), v)]) (if f = "place" then some v' else none) := by
  by_cases hw : f = "place"
  · subst hw
    rw [if_pos rfl]
    have q : List.lookup ("place" : Str) [(("place" : Str), v)] = some v := by simp [List.lookup]
    rw [q]
    exact r
  · rw [if_neg hw]
    have qw : (f == ("place" : Str)) = false := by simpa using hw
    have q2 : List.lookup f [(("place" : Str), v)] = none := by simp [List.lookup, qw]
    rw [q2]
    trivial
section
variable {X : Cx} {C fI : Addr}
/-- Low(e) -/
def tMkStep (C : Addr) (ta : TA) : St → Hp → XK → Prop := fun σ H Q => ta σ H fun vs H1 => ∃ v, vs = [v] ∧ ∀ d, H1 d = none → Q (.ref C) (some d) (upd H1 d (.xd [(("place" : Str), v)]))
theorem pmk_step {a : Expr} {ta : TA} {p pos : Pos} {k : Nat} (T : PySem.TextX.TextTxt X.K X.mg C fI) (hr : Room k X.A) (ha : PA X [a] ta) (hg : Gl X "VouchError" := by rfl)
    (he : starEach (a :: []) X.env = (false, eval a X.env) :: starEach [] X.env := by rfl) (hpl : (backTo pos (starEach [] X.env)).any (·.1) = false := by rfl) :
    PMk X (.Call (.Name "VouchError" p) [a] [] pos) (tMkStep C ta) := by
  intro pins s σ H Q I h
  refine wpAny_Call_Name_kw (ld_glob I hg T.gC ?_)
  refine PySem.W.callWith_K (h₀ := X.base) I.ok.mod.kin T.kC (thn (ha.run pos pins s σ H _ I h) fun us s1 hh => ?_) he hpl
  obtain ⟨vs, H1, I1, r1, v, ev, q1⟩ := hh
  subst ev
  refine ⟨I1.kIn, ?_⟩
  cases r1 with
  | cons rv rn =>
    rename_i v' us'
    cases rn
    show wpAny _ _ (call (.ref C) [v']) _ _ _
    have hlim := I1.nolimit
    obtain ⟨hp, g, dr, tk, os⟩ := s1
    refine wpAny_call (PySem.TextX.step_made T I1.kIn hlim (by have := hr.dp; omega) fun h' tk' e d M => ?_)
    show MkP X pins σ Q (.ref e) ⟨h', g, dr, tk', os⟩
    obtain ⟨oe, fv, hoe, hc, hd, hdat, h1⟩ := M.obj
    have hns := M.ns
    obtain ⟨G', g1, g2⟩ := restrict h' fun b => decide (b ≠ e)
    have gk : ∀ b, b ≠ e → G'.get? b = h'.get? b := fun b hb => g1 b (decide_eq_true hb)
    have ge : G'.get? e = none := g2 e (by simp)
    have old : ∀ b o, hp.get? b = some o → G'.get? b = some o := fun b o q => (gk b (Nat.ne_of_lt (Nat.lt_of_lt_of_le (Heap.lt_size q) M.new))).trans (M.keep b o q)
    have ob : ObjOk X.prog X.w (upd H1 d (.xd [(("place" : Str), v)])) G' d (.xd [(("place" : Str), v)]) :=
      ⟨_, hns.at (fun o q => (gk d M.dne).trans q), fun f => relO_step rv f⟩
    have J : Inv X pins σ (upd H1 d (.xd [(("place" : Str), v)])) ⟨G', g, dr, tk', os⟩ := I1.laid (t' := tk') old M.dbig ob
    refine ⟨e, oe, fv, ⟨G', g, dr, tk', os⟩, _, .ref C, some d, rfl, J, fun b o q => ?_, ge, hoe, ⟨hc, hd⟩, hdat, h1, ?_, rfl, I1.bare, raises_own T.exC T.tyC, q1 d (I1.hok.fresh M.dbig)⟩
    · by_cases hb : b = e
      · have q' : G'.get? b = some o := q
        rw [hb, ge] at q'; cases q'
      · exact (gk b hb).symm.trans q
    · rw [upd_ne (Ne.symm M.dne)]
      exact I1.hok.fresh M.new
/-- raise Low(e) -/
def tRaiseStep (C : Addr) (W : WX) (ta : TA) : TS := fun _ σ H => tMkStep C ta σ H fun cls d H' => W cls d σ H'
theorem ps_raiseText {a : Expr} {ta : TA} {W : WX} {p pos pos2 : Pos} {k : Nat} (hc : X.calm = true) (T : PySem.TextX.TextTxt X.K X.mg C fI) (hr : Room k X.A) (tk : Takes X W) (ha : PA X [a] ta) (hg : Gl X "VouchError" := by rfl)
    (he : starEach (a :: []) X.env = (false, eval a X.env) :: starEach [] X.env := by rfl) (hpl : (backTo pos (starEach [] X.env)).any (·.1) = false := by rfl) :
    PS X (.Raise (some (.Call (.Name "VouchError" p) [a] [] pos)) none pos2) (tRaiseStep C W ta) := ps_raise hc tk (pmk_step T hr ha hg he hpl)
/-- low.by, low the exception that the suite holds (at a; its class cls, its dict d) -/
def tStepOf (C : Addr) (a : Addr) (cls : Value) (d : Option Addr) (te : TE) : TE := fun σ H Q => te σ H fun x H1 => x = .ref a ∧ cls = .ref C ∧ ∃ (dd : Addr) (v : V), d = some dd ∧ H1 dd = some (.xd [(("place" : Str), v)]) ∧ Q v H1
theorem pe_atOf {a : Addr} {oe : Obj} {cls : Value} {d : Option Addr} {pn : List (Addr × Obj)} {e : Expr} {te : TE} {pos : Pos} (T : PySem.TextX.TextTxt X.K X.mg C fI) (hz : Zc cls d oe) (hf : ∃ vs, oe.data = .fields vs) (he : PE (X.suite a ((a, oe) :: pn)) e te)
    (hb : attributeBase e "place" X.env (eval e X.env) = eval e X.env := by rfl) :
    PE (X.suite a ((a, oe) :: pn)) (.Attribute e "place" pos) (tStepOf C a cls d te) := by
  refine ⟨fun pins s σ H Q I h => ?_⟩
  refine attr_of hb (thn (he.run pins s σ H _ I h) fun u s1 hh => ?_)
  obtain ⟨x, H1, I1, rx, ex, ec, dd, v, ed, ea, q⟩ := hh
  subst ex
  obtain rfl : u = Value.ref a := rx
  subst ec
  subst ed
  obtain ⟨ha, _⟩ := I1.pin (a, oe) (List.mem_append_left _ List.mem_cons_self)
  obtain ⟨vs, hd⟩ := hf
  have hx : ObjOk X.prog X.w H1 s1.heap dd (.xd [(("place" : Str), v)]) := I1.hok dd _ ea
  obtain ⟨mA, hns, hr⟩ := hx
  obtain ⟨od, ho, hl⟩ := lookIn_ns hns
  have l : List.lookup ("place" : Str) [(("place" : Str), v)] = some v := by simp [List.lookup]
  obtain ⟨u, hu, ru⟩ := RelO.some_of (v := v) (o := mA "place") (by rw [← l]; exact hr "place")
  have J : PySem.W.InstAt s1.heap a oe C (some od) := ⟨ha, hz.1, by unfold PySem.W.notCls; rw [hd] <;> rfl, by rw [hz.2]; exact ho⟩
  exact HandSPX.exc_get I1.kIn J T.ga T.gg T.exC (PySem.W.findObj_own T.hdC T.noN rfl (by rw [hl, hu])) (handed_of ru) ⟨v, H1, I1.tok _, ru, q⟩
end
end L2
namespace K71E
open PySem PySem.Spec PyProof.Rows L2
def rIsD (K : PySem.W.Frag) (D a : Addr) (cls : Value) (d : Option Addr) : List V → Hp → VK → Prop := fun xs H Q => ∃ (c : V) (cv : Value) (b : Bool) (dd : Addr) (fs : List (Str × V)), xs = [.ref a, c] ∧ cls = .ref D ∧ d = some dd ∧
  (∀ u, RelV c u → u = cv) ∧ PySem.W.kitOne K (.ref D) cv = some b ∧ H dd = some (.xd fs) ∧ Q (.bl b) H
theorem call_isD {X : Cx} {a D : Addr} {oe : Obj} {cls : Value} {d : Option Addr} {pn : List (Addr × Obj)} (C : ExcC X.K D) (hz : Zc cls d oe) (hf : ∃ vs, oe.data = .fields vs) : CallR (X.suite a ((a, oe) :: pn)) (.builtin "isinstance") (rIsD X.K D a cls d) := by
  rintro pins s σ H xs us Q I r ⟨c, cv, b, dd, fs, rfl, rfl, rfl, hcv, e, hx, q⟩
  cases r with
  | cons rx rr =>
    cases rr with
    | cons rt rr =>
      cases rr
      cases rx
      obtain rfl := hcv _ rt
      have hget := (I.pin (a, oe) (List.mem_append_left _ List.mem_cons_self)).1
      obtain ⟨vs, hv⟩ := hf
      have hD : ObjOk X.prog X.w H s.heap dd (.xd fs) := I.hok dd _ hx
      obtain ⟨mA, hns, _⟩ := hD
      obtain ⟨od, ho, _⟩ := lookIn_ns hns
      have J : PySem.W.InstAt s.heap a oe D (some od) := ⟨hget, hz.1, by unfold PySem.W.notCls; rw [hv] <;> rfl, by rw [hz.2]; exact ho⟩
      have cl : (PySem.W.clsIn X.K D).isSome = true := by
        have h := C.hd
        unfold PySem.W.hasDictIn at h
        cases hc : PySem.W.clsIn X.K D with
        | none =>
          rw [hc] at h
          cases h
        | some cd => rfl
      refine PySem.W.kia_one (PySem.W.kitx_exc (od := some od) cl C.hg C.hk C.hs C.ha C.hn C.ht C.hm) I.kIn J e (fun z => nomatch z) fun tk => ?_
      exact ⟨.bl b, H, I.kept (t' := tk) fun _ _ z => z, rfl, q⟩
def tMethE (C : Addr) (m : Str) (sp : Sp) (E : L2.St → XK) (ta : TE) (t : TA) : TE := fun σ H Q => ta σ H fun x H1 => ∃ a dx fs, x = .ref a ∧ H1 a = some (.ins C dx fs) ∧ fs.lookup m = none ∧ t σ H1 fun vs H2 => sp (x :: vs) H2 Q (E σ)
section
variable {X : Cx} {CX : CXT} {k : Nat} {f C : Addr} {fd : FuncData} {ps : List Str} {sp : Sp} {E : L2.St → XK} {m : Str} {pos apos : Pos} {e o : Expr} {es : List Expr} {ta : TE} {t : TA}
theorem pe_methE {pl : Sem Bool} (he : PE X o ta) (c : Cls X.K C) (hm : Meth X.K C m f) (G : FnOk X.prog X.w X.K X.mg X.base CX k f fd ps sp) (hr : Room k X.A) (hb : Binds X.K fd ps []) (hx : ∀ σ, PassesAt CX X σ (E σ)) (ha : PA X (e :: es) t)
    (hst : starEach (e :: es) X.env = (false, eval e X.env) :: starEach es X.env := by rfl) (hpl : (backTo pos (starEach es X.env)).any (·.1) = false := by rfl)
    (ht : eval (.Call (.Attribute o m apos) (e :: es) [] pos) X.env = (do
      let ov ← eval o X.env; standAt apos.atName; let (f, first) ← holding [ov] (getMethod ov m pl); callWith pos f first (backTo pos (starEach (e :: es) X.env)) (backToKw pos (keywordEach [] X.env))) := by rfl) :
    PE X (.Call (.Attribute o m apos) (e :: es) [] pos) (tMethE C m sp E ta t) := by
  constructor
  intro pins s σ H Q I h
  refine PySem.W.methodCall_KW (pl := pl) (thn (he.run pins s σ H _ I h) ?_) ht
  rintro u s1 ⟨x, H1, I1, rx, a, dx, fs, rfl, ea, l, q⟩
  obtain rfl : u = Value.ref a := rx
  refine getmeth_ok I1 ea c hm l (PySem.W.callWith_K (first := [.ref a]) (h₀ := X.base) I.ok.mod.kin hm.kp (thn (ha.run pos pins s1 σ H1 _ I1 q) ?_) hst hpl)
  rintro us s2 ⟨vs, H2, I2, r, q2⟩
  exact ⟨I2.kIn, run_fnS (us := .ref a :: us) (vs := .ref a :: vs) G hr hb (hx σ) I2 (.cons rfl r) q2⟩
theorem pe_methE0 {pl : Sem Bool} (he : PE X o ta) (c : Cls X.K C) (hm : Meth X.K C m f) (G : FnOk X.prog X.w X.K X.mg X.base CX k f fd ps sp) (hr : Room k X.A) (hb : Binds X.K fd ps []) (hx : ∀ σ, PassesAt CX X σ (E σ))
    (ht : eval (.Call (.Attribute o m apos) [] [] pos) X.env = (do
      let ov ← eval o X.env; standAt apos.atName; let (f, first) ← holding [ov] (getMethod ov m pl); callWith pos f first (backTo pos (starEach [] X.env)) (backToKw pos (keywordEach [] X.env))) := by rfl) :
    PE X (.Call (.Attribute o m apos) [] [] pos) (tMethE C m sp E ta tNil) := by
  constructor
  intro pins s σ H Q I h
  refine PySem.W.methodCall_KW (pl := pl) (thn (he.run pins s σ H _ I h) ?_) ht
  rintro u s1 ⟨x, H1, I1, rx, a, dx, fs, rfl, ea, l, q⟩
  obtain rfl : u = Value.ref a := rx
  exact getmeth_ok I1 ea c hm l (PySem.W.callWith_K0 (first := [.ref a]) I1.kIn hm.kp (run_fnS (us := [.ref a]) (vs := [.ref a]) G hr hb (hx σ) I1 (.cons rfl .nil) q))
end
end K71E
/-! records: their keys and what they say, as data; their order -/
namespace K20
open PySem PySem.Spec PyProof.Rows L2 TL TR QR
open GX (KT kd kdAll dNO KeysAt)
open PySem.W (dataLt dataLe alike alikeAll AllAlike Sortable)
abbrev Key := Fin 4 × Nat
def hdS : Fin 4 → Str := fun i => match i with
  | 0 => "ann"
  | 1 => "bob"
  | 2 => "cy"
  | 3 => "dee"
theorem hd_inj : ∀ i j : Fin 4, hdS i = hdS j → i = j := by decide +kernel
theorem hd_lt : ∀ i j : Fin 4, dataLt (.str (hdS i)) (.str (hdS j)) = decide (i.1 < j.1) := by decide +kernel
theorem hd_eqv : ∀ i j : Fin 4, PyData.eqv (.str (hdS i)) (.str (hdS j)) = decide (i = j) := by decide +kernel
theorem hd_cps : ∀ i j : Fin 4, decide ((hdS i).cps.toList < (hdS j).cps.toList) = decide (i.1 < j.1) := by decide +kernel
def encK (k : Key) : PyData := .tuple [.str (hdS k.1), .int (k.2 : Int)]
def ktK : KT Key where
  enc := encK
  kd := fun _ => rfl
  inj := fun {a b} h => by
    unfold encK at h
    simp only [PyData.tuple.injEq, List.cons.injEq, PyData.str.injEq, PyData.int.injEq, and_true] at h
    exact Prod.ext (hd_inj _ _ h.1) (by omega)
  dp := fun k => by
    simp [encK, PyData.depth, PyData.depthAll]
def kle (a b : Key) : Bool := decide (a.1.1 < b.1.1 ∨ (a.1.1 = b.1.1 ∧ a.2 ≤ b.2))
theorem kle_total (a b : Key) : (kle a b || kle b a) = true := by
  unfold kle
  rw [Bool.or_eq_true, decide_eq_true_iff, decide_eq_true_iff]
  omega
theorem kle_trans (a b c : Key) (h1 : kle a b = true) (h2 : kle b c = true) : kle a c = true := by
  unfold kle at *
  rw [decide_eq_true_iff] at *
  omega
theorem kle_anti {a b : Key} (h1 : kle a b = true) (h2 : kle b a = true) : a = b := by
  unfold kle at *
  rw [decide_eq_true_iff] at *
  exact Prod.ext (Fin.ext (by omega)) (by omega)
theorem lt_K (a b : Key) : dataLt (encK a) (encK b) = decide (a.1.1 < b.1.1 ∨ (a.1.1 = b.1.1 ∧ a.2 < b.2)) := by
  unfold encK
  have e : ∀ l, PyProof.Rows.lexLt PyProof.Rows.itemOrd l l = false := fun l => PyProof.Rows.lex_irrefl l
  rw [PySem.W.dataLt_tuple, PySem.W.dataLt_cons (by simp [alike]), hd_eqv, PySem.W.dataLt_cons (by simp [alike]), e, PySem.W.dataLt_int, hd_lt]
  by_cases h : a.1 = b.1
  · rw [h]
    by_cases h2 : a.2 = b.2
    · simp [h2, PyData.eqv]
    · have : ¬ ((a.2 : Int) = (b.2 : Int)) := by omega
      simp [PyData.eqv, this]
  · have h' : ¬ a.1.1 = b.1.1 := fun z => h (Fin.ext z)
    simp [h, h']
theorem le_K {β : Type} (f : β → Key) : (dataLe false fun b => encK (f b)) = fun p q => kle (f p) (f q) := by
  funext p q
  rw [PySem.W.dataLe_eq]
  show (!dataLt (encK (f q)) (encK (f p))) = _
  rw [lt_K]
  unfold kle
  rw [← decide_not]
  exact decide_eq_decide.mpr (by omega)
theorem able_K {β : Type} (f : β → Key) (es : List β) : AllAlike (es.map fun e => encK (f e)) ∧ Sortable (es.map fun e => encK (f e)) :=
  ⟨AllAlike.of fun b b' => rfl, Sortable.tuples fun b => ⟨_, _, rfl⟩⟩
/-- the keys in their order -/
def sortL (ks : List Key) : List Key := ks.mergeSort kle
theorem sortL_pw (ks : List Key) : (sortL ks).Pairwise fun a b => kle a b = true := List.pairwise_mergeSort kle_trans kle_total ks
theorem sortL_perm (ks : List Key) : (sortL ks).Perm ks := List.mergeSort_perm _ _
theorem sortL_of {l ks : List Key} (hp : l.Perm ks) (hw : l.Pairwise fun a b => kle a b = true) : l = sortL ks :=
  List.Perm.eq_of_pairwise (le := fun a b => kle a b = true) (fun a b _ _ h1 h2 => kle_anti h1 h2) hw (sortL_pw ks) (hp.trans (sortL_perm ks).symm)
theorem sortN_keys (es : List (Key × Addr × V)) : (GX.sortN ktK es).map (·.1) = sortL (es.map (·.1)) := by
  unfold GX.sortN sortL
  rw [show (dataLe false fun e : Key × Addr × V => ktK.enc e.1) = fun p q => kle p.1 q.1 from le_K (fun e : Key × Addr × V => e.1)]
  exact List.map_mergeSort fun a _ b _ => rfl
theorem sortL_filter (p : Key → Bool) (ks : List Key) : sortL (ks.filter p) = (sortL ks).filter p :=
  (sortL_of ((sortL_perm ks).filter p) ((sortL_pw ks).filter p)).symm
/-! ### what records say -/
abbrev What := Nat ⊕ (Bool × Fin 6)
def auL : Fin 6 → List Nat := fun i => match i with
  | 0 => [97, 110, 110]
  | 1 => [98, 111, 98]
  | 2 => [98, 111, 98]
  | 3 => [122, 101, 100]
  | 4 => [122, 101, 100]
  | 5 => [101, 118, 101]
def nuN : Fin 6 → Nat := fun i => match i with
  | 0 => 1
  | 1 => 1
  | 2 => 2
  | 3 => 9
  | 4 => 8
  | 5 => 4
def lab3 : Lab := (3, [0, 5])
def nmOf (i : Fin 6) : Nm := (lab3, auL i, nuN i)
def wdS (b : Bool) : Str := if b then "agree" else "refuse"
def idD (i : Fin 6) : PyData := .tuple [.tuple [.str "label", .int 3, .tuple [.int 0, .int 5]], .str (Sg (auL i)), .int (nuN i : Int)]
def encW : What → PyData
  | .inl n => .tuple [.str "withdraw", .int (n : Int)]
  | .inr (b, i) => .tuple [.str (wdS b), idD i]
theorem au_inj : ∀ i j : Fin 6, Sg (auL i) = Sg (auL j) → nuN i = nuN j → i = j := by decide +kernel
theorem wd_inj : ∀ a b : Bool, wdS a = wdS b → a = b := by decide +kernel
theorem id_inj {i j : Fin 6} (h : idD i = idD j) : i = j := by
  unfold idD at h
  simp only [PyData.tuple.injEq, List.cons.injEq, PyData.str.injEq, PyData.int.injEq, and_true, true_and] at h
  exact au_inj i j h.1 (by omega)
theorem encW_inj {x y : What} (h : encW x = encW y) : x = y := by
  rcases x with n | ⟨b, i⟩ <;> rcases y with m | ⟨c, j⟩
  · simp only [encW, PyData.tuple.injEq, List.cons.injEq, PyData.int.injEq, and_true, true_and] at h
    rw [show n = m by omega]
  · simp [encW, idD] at h
  · simp [encW, idD] at h
  · simp only [encW, PyData.tuple.injEq, List.cons.injEq, PyData.str.injEq, and_true] at h
    rw [wd_inj _ _ h.1, id_inj h.2]
theorem encW_kd : ∀ x : What, kd (encW x) = true
  | .inl _ => rfl
  | .inr (_, _) => rfl
theorem encW_dep : ∀ x : What, (encW x).depth ≤ 8
  | .inl _ => by simp [encW, PyData.depth, PyData.depthAll]
  | .inr (_, _) => by simp [encW, idD, PyData.depth, PyData.depthAll]
def ktW : KT What where
  enc := encW
  kd := encW_kd
  inj := encW_inj
  dp := encW_dep
/-! ### what stands in the heap -/
def KeyO (H : Hp) (a : Addr) (k : Key) : Prop := H a = some (.tup [.str (hdS k.1), .int (k.2 : Int)])
def WhatAt (H : Hp) (v : V) : What → Prop
  | .inl n => ∃ a, v = .ref a ∧ H a = some (.tup [.str "withdraw", .int (n : Int)])
  | .inr (b, i) => ∃ a iv, v = .ref a ∧ H a = some (.tup [.str (wdS b), iv]) ∧ NmAt H iv (nmOf i)
/-- tuples stay, dicts can be read -/
structure Fm (H H' : Hp) : Prop where
  ts : TS H H'
  rd : ∀ a g, Rd H a (.ext g) → Rd H' a (.ext g)
theorem Fm.refl {H : Hp} : Fm H H := ⟨TS.refl, fun _ _ h => h⟩
theorem Fm.trans {H H1 H2 : Hp} (a : Fm H H1) (b : Fm H1 H2) : Fm H H2 := ⟨a.ts.trans b.ts, fun x g h => b.rd x g (a.rd x g h)⟩
theorem fm_nt {H H' : Hp} (h : ∀ b o, (∀ ps, o ≠ .tbl ps) → (∀ xs, o ≠ .lst xs) → H b = some o → H' b = some o) : Fm H H' :=
  ⟨fun b xs e => h b _ (fun _ z => nomatch z) (fun _ z => nomatch z) e, fun a g r => r.imp (h a _ (fun _ z => nomatch z) (fun _ z => nomatch z)) fun ⟨o, e⟩ => ⟨o, h a _ (fun _ z => nomatch z) (fun _ z => nomatch z) e⟩⟩
theorem Same.fm {H H' : Hp} (s : Same H H') : Fm H H' := fm_nt fun b o _ _ e => s b o e
theorem Tbs.fm {Ts : List Addr} {H H' : Hp} (t : Tbs Ts H H') (g : TG Ts H) : Fm H H' := fm_nt fun b o n _ e => t.at_ g e n
theorem Dr.fm {p c : Addr} {H H' : Hp} (st : StateAt H p c) (d : Dr p c H H') : Fm H H' := fm_nt fun b o _ n e => by
  obtain ⟨⟨_, e1⟩, ⟨_, e2⟩⟩ := st.some
  exact d.ou b o (fun z => by rw [z, e1] at e; cases e; exact n _ rfl) (fun z => by rw [z, e2] at e; cases e; exact n _ rfl) e
theorem fm_lst {H : Hp} {a : Addr} {xs ys : List V} (e : H a = some (.lst xs)) : Fm H (upd H a (.lst ys)) := fm_nt fun b o _ n e' => by
  rw [upd_ne fun z => by rw [z, e] at e'; cases e'; exact n _ rfl]
  exact e'
theorem KeyO.fm {H H' : Hp} {a : Addr} {k : Key} (s : Fm H H') (h : KeyO H a k) : KeyO H' a k := s.ts _ _ h
theorem WhatAt.fm {H H' : Hp} {v : V} : ∀ {x : What}, Fm H H' → WhatAt H v x → WhatAt H' v x
  | .inl _, s, ⟨a, e, h⟩ => ⟨a, e, s.ts _ _ h⟩
  | .inr (_, _), s, ⟨a, iv, e, h, g⟩ => ⟨a, iv, e, s.ts _ _ h, g.ts s.ts⟩
section
variable {P : Program} {w : World} {K : PySem.W.Frag} {H H' : Hp}
theorem dp_lab3 {v : V} (h : LabAt H v lab3) : Dp K H v (.tuple [.str "label", .int 3, .tuple [.int 0, .int 5]]) := by
  obtain ⟨la, ma, rfl, e1, e2⟩ := h
  exact .tup (SqT.of e1) (.cons (.str _) (.cons (.int _) (.cons (.tup (SqT.of e2) (.cons (.int _) (.cons (.int _) .nil))) .nil)))
theorem dp_id {v : V} {i : Fin 6} (h : NmAt H v (nmOf i)) : Dp K H v (idD i) := by
  obtain ⟨na, lv, rfl, e1, e2⟩ := h
  exact .tup (SqT.of e1) (.cons (dp_lab3 e2) (.cons (.str _) (.cons (.int _) .nil)))
theorem dp_K {a : Addr} {k : Key} (h : KeyO H a k) : Dp K H (.ref a) (encK k) := .tup (SqT.of h) (.cons (.str _) (.cons (.int _) .nil))
theorem dp_W {v : V} : ∀ {x : What}, WhatAt H v x → Dp K H v (encW x)
  | .inl _, ⟨a, e, h⟩ => by
    subst e
    exact .tup (SqT.of h) (.cons (.str _) (.cons (.int _) .nil))
  | .inr (_, _), ⟨a, iv, e, h, g⟩ => by
    subst e
    exact .tup (SqT.of h) (.cons (.str _) (.cons (dp_id g) .nil))
/-- records at a: the entries, what they say -/
structure RecAt (P : Program) (w : World) (H : Hp) (a : Addr) (es : List (Key × Addr × V)) (f : Key → What) : Prop where
  rd : Rd H a (dNO ktK P w a es)
  ky : ∀ e ∈ es, KeyO H e.2.1 e.1
  vl : ∀ e ∈ es, WhatAt H e.2.2 (f e.1)
  nd : (es.map (·.1)).Nodup
theorem RecAt.fm {a : Addr} {es : List (Key × Addr × V)} {f : Key → What} (s : Fm H H') (h : RecAt P w H a es f) : RecAt P w H' a es f :=
  ⟨s.rd _ _ h.rd, fun e he => (h.ky e he).fm s, fun e he => (h.vl e he).fm s, h.nd⟩
theorem RecAt.keys {a : Addr} {es : List (Key × Addr × V)} {f : Key → What} (h : RecAt P w H a es f) : KeysAt ktK K H es := fun e he => dp_K (h.ky e he)
/-- a dict of keys with truth values -/
structure BoolAt (P : Program) (w : World) (H : Hp) (a : Addr) (es : List (Key × Addr × V)) (g : Key → Bool) : Prop where
  rd : Rd H a (dNO ktK P w a es)
  ky : ∀ e ∈ es, KeyO H e.2.1 e.1
  vl : ∀ e ∈ es, e.2.2 = .bl (g e.1)
theorem BoolAt.fm {a : Addr} {es : List (Key × Addr × V)} {g : Key → Bool} (s : Fm H H') (h : BoolAt P w H a es g) : BoolAt P w H' a es g :=
  ⟨s.rd _ _ h.rd, fun e he => (h.ky e he).fm s, h.vl⟩
theorem BoolAt.keys {a : Addr} {es : List (Key × Addr × V)} {g : Key → Bool} (h : BoolAt P w H a es g) : KeysAt ktK K H es := fun e he => dp_K (h.ky e he)
end
/-! ### entries -/
section
variable {κ : Type} [DecidableEq κ]
theorem find_of {es : List (κ × Addr × V)} {k : κ} (h : k ∈ es.map (·.1)) : ∃ e, (es.find? fun e => decide (e.1 = k)) = some e ∧ e ∈ es ∧ e.1 = k := by
  cases e : es.find? fun e => decide (e.1 = k) with
  | none =>
    rw [List.find?_eq_none] at e
    obtain ⟨x, hx, hk⟩ := List.mem_map.mp h
    exact absurd (decide_eq_true hk) (e x hx)
  | some x => exact ⟨x, rfl, List.mem_of_find?_eq_some e, of_decide_eq_true (List.find?_some (p := fun x : κ × Addr × V => decide (x.1 = k)) e)⟩
theorem find_no {es : List (κ × Addr × V)} {k : κ} (h : k ∉ es.map (·.1)) : (es.find? fun e => decide (e.1 = k)) = none := by
  rw [List.find?_eq_none]
  intro x hx hk
  exact h (List.mem_map.mpr ⟨x, hx, of_decide_eq_true hk⟩)
theorem is_some {es : List (κ × Addr × V)} {k : κ} : (es.find? fun e => decide (e.1 = k)).isSome = decide (k ∈ es.map (·.1)) := by
  by_cases h : k ∈ es.map (·.1)
  · obtain ⟨e, h1, _⟩ := find_of h
    rw [h1, decide_eq_true h]
    rfl
  · rw [find_no h, decide_eq_false h]
    rfl
theorem dst_keys {es : List (κ × Addr × V)} {k : κ} {b : Addr} {v : V} : (GX.dSt es k b v).map (·.1) = if k ∈ es.map (·.1) then es.map (·.1) else es.map (·.1) ++ [k] := by
  unfold GX.dSt
  rw [is_some]
  by_cases h : k ∈ es.map (·.1)
  · rw [if_pos (decide_eq_true h), if_pos h, List.map_map]
    refine List.map_congr_left fun e _ => ?_
    show (if e.1 = k then (e.1, e.2.1, v) else e).1 = e.1
    split <;> rfl
  · rw [if_neg (by simpa using h), if_neg h, List.map_append]
    rfl
/-- an entry of the dict that was written: the new value, or as before -/
theorem dst_mem {es : List (κ × Addr × V)} {k : κ} {b : Addr} {v : V} {e : κ × Addr × V} (h : e ∈ GX.dSt es k b v) : (e.1 = k ∧ e.2.2 = v ∧ (e.2.1 = b ∨ ∃ x ∈ es, x.1 = k ∧ x.2.1 = e.2.1)) ∨ (e ∈ es ∧ e.1 ≠ k) := by
  unfold GX.dSt at h
  rw [is_some] at h
  by_cases hk : k ∈ es.map (·.1)
  · rw [if_pos (decide_eq_true hk)] at h
    obtain ⟨x, hx, rfl⟩ := List.mem_map.mp h
    by_cases e : x.1 = k
    · rw [if_pos e]
      exact .inl ⟨e, rfl, .inr ⟨x, hx, e, rfl⟩⟩
    · rw [if_neg e]
      exact .inr ⟨hx, e⟩
  · rw [if_neg (by simpa using hk)] at h
    rcases List.mem_append.mp h with h | h
    · exact .inr ⟨h, fun e => hk (List.mem_map.mpr ⟨_, h, e⟩)⟩
    · rw [List.mem_singleton.mp h]
      exact .inl ⟨rfl, rfl, .inl rfl⟩
theorem dst_len {es : List (κ × Addr × V)} {k : κ} {b : Addr} {v : V} : (GX.dSt es k b v).length ≤ es.length + 1 := GX.st_len
end
end K20
/-! which records stand; who says what, with the least number -/
namespace K20
open PySem PySem.Spec PyProof.Rows L2 TL TR QR
def stB (ks : List Key) (f : Key → What) : Nat → Key → Bool
  | 0, _ => true
  | g + 1, k => !(ks.any fun k' => (decide (k'.1 = k.1) && decide (f k' = .inl k.2)) && (decide (k.2 < k'.2) && stB ks f g k'))
def mxN (ks : List Key) : Nat := ks.foldr (fun k m => max k.2 m) 0
theorem le_mx : ∀ {ks : List Key} {k : Key}, k ∈ ks → k.2 ≤ mxN ks
  | x :: ks, k, h => by
    unfold mxN
    rw [List.foldr_cons]
    rcases List.mem_cons.mp h with rfl | h
    · exact Nat.le_max_left _ _
    · exact Nat.le_trans (le_mx h) (Nat.le_max_right _ _)
/-- the record with this key stands -/
def St (ks : List Key) (f : Key → What) (k : Key) : Bool := stB ks f (mxN ks + 1 - k.2) k
section
variable {ks : List Key} {f : Key → What}
theorem any_congr {α : Type} {p q : α → Bool} : ∀ {l : List α}, (∀ x ∈ l, p x = q x) → l.any p = l.any q
  | [], _ => rfl
  | x :: l, h => by
    rw [List.any_cons, List.any_cons, h x List.mem_cons_self, any_congr fun y hy => h y (List.mem_cons_of_mem _ hy)]
theorem stB_fuel : ∀ (g g' : Nat) (k : Key), mxN ks + 1 ≤ g + k.2 → mxN ks + 1 ≤ g' + k.2 → stB ks f g k = stB ks f g' k
  | 0, 0, _, _, _ => rfl
  | 0, g' + 1, k, h, _ => by
    rw [stB, stB]
    refine (Bool.not_eq_true' _ |>.mpr ?_).symm
    rw [List.any_eq_false]
    intro x hx hz
    have := le_mx hx
    have := of_decide_eq_true (Bool.and_eq_true_iff.mp (Bool.and_eq_true_iff.mp hz).2).1
    omega
  | g + 1, 0, k, _, h => by
    rw [stB, stB]
    refine (Bool.not_eq_true' _ |>.mpr ?_)
    rw [List.any_eq_false]
    intro x hx hz
    have := le_mx hx
    have := of_decide_eq_true (Bool.and_eq_true_iff.mp (Bool.and_eq_true_iff.mp hz).2).1
    omega
  | g + 1, g' + 1, k, h, h' => by
    rw [stB, stB]
    congr 1
    refine any_congr fun x _ => ?_
    by_cases hk : k.2 < x.2
    · rw [stB_fuel g g' x (by omega) (by omega)]
    · rw [decide_eq_false hk, Bool.false_and, Bool.false_and]
theorem St_eq (k : Key) : St ks f k = !(ks.any fun k' => (decide (k'.1 = k.1) && decide (f k' = .inl k.2)) && (decide (k.2 < k'.2) && St ks f k')) := by
  by_cases h : k.2 ≤ mxN ks
  · have e : mxN ks + 1 - k.2 = (mxN ks - k.2) + 1 := by omega
    unfold St
    rw [e, stB]
    congr 1
    refine any_congr fun x hx => ?_
    have := le_mx hx
    by_cases hk : k.2 < x.2
    · rw [stB_fuel (mxN ks - k.2) (mxN ks + 1 - x.2) x (by omega) (by omega)]
    · rw [decide_eq_false hk, Bool.false_and, Bool.false_and]
  · have e : mxN ks + 1 - k.2 = 0 := by omega
    unfold St
    rw [e, stB]
    refine (Bool.not_eq_true' _ |>.mpr ?_).symm
    rw [List.any_eq_false]
    intro x hx hz
    have := le_mx hx
    have := of_decide_eq_true (Bool.and_eq_true_iff.mp (Bool.and_eq_true_iff.mp hz).2).1
    omega
/-- a record takes back an earlier one of its hand -/
def Valid (ks : List Key) (f : Key → What) : Prop := ∀ k ∈ ks, ∀ n, f k = .inl n → 1 ≤ n ∧ n < k.2
/-- a later one that stands takes it back; l: what was looked at -/
def Fa (ks : List Key) (f : Key → What) (l : List Key) (k : Key) : Prop := ∃ k' ∈ l, St ks f k' = true ∧ f k' = .inl k.2 ∧ k'.1 = k.1
theorem st_at {l : List Key} {i : Nat} {k : Key} (hp : l.Perm ks) (hd : l.Pairwise fun a b => a.1 = b.1 → b.2 < a.2) (hv : Valid ks f) (hi : l[i]? = some k) : St ks f k = true ↔ ¬ Fa ks f (l.take i) k := by
  rw [St_eq, Bool.not_eq_true', List.any_eq_false]
  obtain ⟨hi', ei⟩ := List.getElem?_eq_some_iff.mp hi
  constructor
  · rintro h ⟨x, hx, h1, h2, h3⟩
    have hxk : x ∈ ks := hp.mem_iff.mp (List.mem_of_mem_take hx)
    refine h x hxk ?_
    rw [Bool.and_eq_true, Bool.and_eq_true, Bool.and_eq_true]
    exact ⟨⟨decide_eq_true h3, decide_eq_true h2⟩, decide_eq_true (hv x hxk _ h2).2, h1⟩
  · intro h x hx hz
    rw [Bool.and_eq_true, Bool.and_eq_true, Bool.and_eq_true] at hz
    obtain ⟨⟨h3, h2⟩, h4, h1⟩ := hz
    have h3 := of_decide_eq_true h3
    have h2 := of_decide_eq_true h2
    have h4 := of_decide_eq_true h4
    obtain ⟨j, hj, ej⟩ := List.getElem_of_mem (hp.mem_iff.mpr hx)
    refine h ⟨x, ?_, h1, h2, h3⟩
    rcases Nat.lt_trichotomy j i with hji | hji | hji
    · rw [← ej]
      exact List.mem_take_iff_getElem.mpr ⟨j, by omega, rfl⟩
    · subst hji
      rw [ej] at ei
      rw [ei] at h4
      omega
    · have := List.pairwise_iff_getElem.mp hd i j hi' hj hji
      rw [ei, ej] at this
      have := this h3.symm
      omega
theorem Fa.nil {k : Key} : ¬ Fa ks f [] k := fun ⟨_, h, _⟩ => nomatch h
/-- one more was looked at -/
theorem fa_snoc {l : List Key} {x k : Key} : Fa ks f (l ++ [x]) k ↔ Fa ks f l k ∨ (St ks f x = true ∧ f x = .inl k.2 ∧ x.1 = k.1) := by
  constructor
  · rintro ⟨y, hy, h⟩
    rcases List.mem_append.mp hy with hy | hy
    · exact .inl ⟨y, hy, h⟩
    · rw [List.mem_singleton.mp hy] at h
      exact .inr h
  · rintro (⟨y, hy, h⟩ | h)
    · exact ⟨y, List.mem_append_left _ hy, h⟩
    · exact ⟨x, List.mem_append_right _ List.mem_cons_self, h⟩
end
/-! ### the first ones by hand -/
def firsts (l : List Key) : List Key := l.foldl (fun acc k => if acc.any (fun x => decide (x.1 = k.1)) then acc else acc ++ [k]) []
theorem firsts_snoc (l : List Key) (k : Key) : firsts (l ++ [k]) = if (firsts l).any (fun x => decide (x.1 = k.1)) then firsts l else firsts l ++ [k] := by
  unfold firsts
  rw [List.foldl_append]
  rfl
theorem firsts_ind {Pr : List Key → List Key → Prop} (h0 : Pr [] []) (hs : ∀ l k, Pr l (firsts l) → Pr (l ++ [k]) (firsts (l ++ [k]))) (l : List Key) : Pr l (firsts l) := by
  have : ∀ n (l : List Key), l.length = n → Pr l (firsts l) := fun n => by
    induction n with
    | zero =>
      intro l hl
      rw [List.length_eq_zero_iff.mp hl]
      exact h0
    | succ n ih =>
      intro l hl
      have hne : l ≠ [] := fun z => by rw [z] at hl; cases hl
      rw [← List.dropLast_concat_getLast hne]
      exact hs _ _ (ih _ (by rw [List.length_dropLast, hl]; rfl))
  exact this _ l rfl
theorem firsts_sub (l : List Key) : ∀ k ∈ firsts l, k ∈ l := by
  refine firsts_ind (Pr := fun l m => ∀ k ∈ m, k ∈ l) (fun _ h => nomatch h) (fun l k ih x hx => ?_) l
  rw [firsts_snoc] at hx
  split at hx
  · exact List.mem_append_left _ (ih x hx)
  · rcases List.mem_append.mp hx with hx | hx
    · exact List.mem_append_left _ (ih x hx)
    · exact List.mem_append_right _ hx
theorem firsts_nd (l : List Key) : ((firsts l).map (·.1)).Nodup := by
  refine firsts_ind (Pr := fun l m => (m.map (·.1)).Nodup) List.nodup_nil (fun l k ih => ?_) l
  rw [firsts_snoc]
  split
  · exact ih
  · rename_i h
    rw [List.map_append, List.nodup_append]
    refine ⟨ih, (by simp : [k.1].Nodup), fun x hx y hy z => h ?_⟩
    rw [List.mem_singleton.mp hy] at z
    obtain ⟨e, he, rfl⟩ := List.mem_map.mp hx
    rw [List.any_eq_true]
    exact ⟨e, he, decide_eq_true z⟩
theorem nodup_len {α : Type} [DecidableEq α] : ∀ {l m : List α}, l.Nodup → (∀ x ∈ l, x ∈ m) → l.length ≤ m.length
  | [], _, _, _ => Nat.zero_le _
  | x :: l, m, h, hs => by
    obtain ⟨h1, h2⟩ := List.nodup_cons.mp h
    have hx := hs x List.mem_cons_self
    have := nodup_len (m := m.erase x) h2 fun y hy => (List.mem_erase_of_ne fun z => h1 (by rw [← z]; exact hy)).mpr (hs y (List.mem_cons_of_mem _ hy))
    rw [List.length_erase_of_mem hx] at this
    have := List.length_pos_of_mem hx
    rw [List.length_cons]
    omega
theorem firsts_len (l : List Key) : (firsts l).length ≤ 4 := by
  have h := firsts_nd l
  have : ∀ m : List (Fin 4), m.Nodup → m.length ≤ 4 := fun m hm => nodup_len (m := [0, 1, 2, 3]) hm fun x _ => (by decide : ∀ x : Fin 4, x ∈ ([0, 1, 2, 3] : List (Fin 4))) x
  have := this _ h
  rwa [List.length_map] at this
theorem firsts_asc (l : List Key) (hs : l.Pairwise fun a b => kle a b = true) : (firsts l).Pairwise fun a b => a.1.1 < b.1.1 := by
  revert hs
  refine firsts_ind (Pr := fun l m => (l.Pairwise fun a b => kle a b = true) → m.Pairwise fun a b => a.1.1 < b.1.1) (fun _ => List.Pairwise.nil) (fun l k ih hs => ?_) l
  obtain ⟨h1, _, h2⟩ := List.pairwise_append.mp hs
  rw [firsts_snoc]
  split
  · exact ih h1
  · rename_i h
    refine List.pairwise_append.mpr ⟨ih h1, List.pairwise_singleton _ _, fun a ha b hb => ?_⟩
    rw [List.mem_singleton.mp hb]
    have hle := h2 a (firsts_sub l a ha) k List.mem_cons_self
    unfold kle at hle
    have hle := of_decide_eq_true hle
    have hne : ¬ a.1.1 = k.1.1 := fun z => h (List.any_eq_true.mpr ⟨a, ha, decide_eq_true (Fin.ext z)⟩)
    omega
/-- who says x, each with the least number that stands -/
def saidL (ks : List Key) (f : Key → What) (x : What) : List Key := firsts ((sortL ks).filter fun k => St ks f k && decide (f k = x))
end K20
namespace K20
open PySem PySem.Spec PyProof.Rows L2 TL TR QR
open GxR (TabB TabG Tabbed)
abbrev sCK : Stmt := topS 16
abbrev nCK : List Str := ["key", "what"]
theorem scCK : FnScope nCK ["key", "what"] (defScope sCK) := ⟨rfl, rfl, rfl, by decide +kernel, rfl, by decide +kernel, by decide +kernel⟩
/-- the way out by the error of a record -/
def Out (C : Addr) (E : XK) (z : Str) (H : Hp) : Prop := ∀ e, H e = none → E (.ref C) (some e) (upd H e (.xd [("place", .str z)]))
def letters : Str := "abcdefghijklmnopqrstuvwxyz"
def keyB (h : Str) (n : Nat) : Bool := wordB h letters 8 && decide (1 ≤ n ∧ n ≤ 99999)
section
variable {P : Program} {w : World} {K : PySem.W.Frag} {mg : Str → Option Value} {base : Heap} {H : Hp} {v : V} {Q : VK} {E : XK} {C fI : Addr} {tMN : Tok}
def spWI2 : Sp := fun vs H Q _ => ∃ (k l m : Int), vs = [.int k, .int l, .int m] ∧ Q (.bl (decide (l ≤ k ∧ k ≤ m))) H
theorem ok_WI2 {f : Addr} {fd : FuncData} (F : Fun K "is_within" "is_within" sWI f fd) (m_isinstance : mg "isinstance" = none) (m_int : mg "int" = none) : FnOk P w K mg base CX0 1 f fd ["number", "least", "most"] spWI2 := by
  refine F.ok scWI (fun vs H Q E h => ?_) (fun cdv A outer s H vs Q E hr h => ?_)
  · obtain ⟨k, l, m, rfl, _⟩ := h
    rfl
  · obtain ⟨k, l, m, rfl, q⟩ := h
    have hu := hr.units
    have hu1 := hu_of hr
    have zl := zl
    refine ⟨_, (pss_one (ps_ret (pe_and (pe_callB call_isi (by rfl) m_isinstance (by decide +kernel) (pa_cons (pv 0) (pa_cons (pe_bltn (v := V.ty "int") (u := .type "int") (by rfl) m_int (by decide +kernel) rfl) pa_nil))) (pe_one (pe_chain op_le op_le (pv 1) (pv 0) (pv 2)))))), ?_⟩
    refine ⟨_, rfl, _, _, _, _, true, rfl, .ty _, .base (.int _), kit_ty (by decide +kernel), _, rfl, ite2 (fun _ => ⟨_, rfl, _, rfl, _, _, rfl, rfl, _, rfl, ite2 (fun h => ⟨_, rfl, _, _, rfl, rfl, ?_⟩) (fun h => ?_)⟩) (fun z => absurd rfl z)⟩
    · have h := of_decide_eq_true h
      have e : decide (k ≤ m) = decide (l ≤ k ∧ k ≤ m) := decide_eq_decide.mpr ⟨fun z => ⟨h, z⟩, fun z => z.2⟩
      show Q (V.bl (decide (k ≤ m))) H
      rw [e]
      exact q
    · have h : ¬ l ≤ k := fun z => h (decide_eq_true z)
      have e : decide (l ≤ k ∧ k ≤ m) = false := decide_eq_false fun z => h z.1
      rw [e] at q
      exact q
/-- what the record says, once its key is right -/
def WhatQ (Ts : List Addr) (C : Addr) (H : Hp) (wa : Addr) (n : Nat) (Q : VK) (E : XK) : Prop :=
  (∃ z : Int, H wa = some (.tup [.str "withdraw", .int z]) ∧ ((1 ≤ z ∧ z ≤ (n : Int) - 1) → ∀ H', Tbs Ts H H' → Q .non H') ∧ (¬ (1 ≤ z ∧ z ≤ (n : Int) - 1) → ∀ H', Tbs Ts H H' → Out C E "number" H')) ∨
  (∃ (wd : Str) (iv : V) (nm : Nm), H wa = some (.tup [.str wd, iv]) ∧ wd ≠ "withdraw" ∧ NmAt H iv nm ∧ nm.1.2.length ≤ 1000 ∧ nm.2.1.length ≤ 100000 ∧ (okNm nm = true → ∀ H', Tbs Ts H H' → Q .non H') ∧ (okNm nm = false → ∀ H', Tbs Ts H H' → Out C E "id" H'))
def spCK (Ts : List Addr) (C : Addr) : Sp := fun vs H Q E => ∃ (ka wa : Addr) (h : Str) (n : Nat), vs = [.ref ka, .ref wa] ∧ TG Ts H ∧ H ka = some (.tup [.str h, .int (n : Int)]) ∧ h.length ≤ 100000 ∧
  (keyB h n = false → ∀ H', Tbs Ts H H' → Out C E "key" H') ∧ (keyB h n = true → WhatQ Ts C H wa n Q E)
theorem ok_CK {T1 f fTO fIH fWI fII : Addr} {Ts : List Addr} {fd fdTO fdIH fdWI fdII : FuncData} (hT1 : T1 ∈ Ts) (F : Fun K "check_record" "check_record" sCK f fd) (L : PySem.TextX.TextTxt K mg C fI)
    (GTO : FnOk P w K mg base CX0 1 fTO fdTO ["value", "size"] spTO) (bTO : Binds K fdTO ["value", "size"] []) (gTO : mg "is_tuple_of" = some (.ref fTO)) (kTO : PySem.W.keepIn K (.ref fTO) = true)
    (GIH : FnOk P w K mg base CX0 2 fIH fdIH ["name"] (spIH T1)) (bIH : Binds K fdIH ["name"] []) (gIH : mg "is_hand" = some (.ref fIH)) (kIH : PySem.W.keepIn K (.ref fIH) = true)
    (GWI : FnOk P w K mg base CX0 1 fWI fdWI ["number", "least", "most"] spWI2) (bWI : Binds K fdWI ["number", "least", "most"] []) (gWI : mg "is_within" = some (.ref fWI)) (kWI : PySem.W.keepIn K (.ref fWI) = true)
    (GII : FnOk P w K mg base CX0 4 fII fdII ["name"] (spII Ts)) (bII : Binds K fdII ["name"] []) (gII : mg "is_id" = some (.ref fII)) (kII : PySem.W.keepIn K (.ref fII) = true)
    (gMN : mg "MOST_NUMBER" = some (.int 99999 tMN)) : FnOk P w K mg base (L2.CX P w) 5 f fd ["key", "what"] (spCK Ts C) := by
  refine F.okX scCK (fun vs H Q E h => ?_) (fun cdv A outer s H vs Q E hr h => ?_)
  · obtain ⟨ka, wa, h, n, rfl, _⟩ := h
    rfl
  · obtain ⟨ka, wa, h, n, rfl, g, hk, hl, q1, q2⟩ := h
    have hu := hr.units
    have hu1 := hu_of hr
    have hr1 : Room 1 _ := hr.mono (by decide)
    have hr2 : Room 2 _ := hr.mono (by decide)
    have hr3 : Room 3 _ := hr.mono (by decide)
    have hr4 : Room 4 _ := hr.mono (by decide)
    have zl := zl
    refine ⟨_, (pss_cons (ps_if (PW.pt (pw_or (pt_not (pt_val (pe_call GTO hr1 (by rfl) gTO kTO bTO .nil pass0 (pa_cons (pv 0) (pa_cons (pe_int) pa_nil))))) (pw_or (pt_not (pt_val (pe_call GIH hr2 (by rfl) gIH kIH bIH .nil pass0 (pa_cons (pe_ix ix_tup (pv 0) (pe_int) (fun _ _ => rfl)) pa_nil)))) (pw_or1 (pt_not (pt_val (pe_call GWI hr1 (by rfl) gWI kWI bWI .nil pass0 (pa_cons (pe_ix ix_tup (pv 0) (pe_int) (fun _ _ => rfl)) (pa_cons (pe_int) (pa_cons (pe_glob (v := V.int 99999) (by rfl) gMN ⟨_, rfl⟩) pa_nil))))))))))
      (pss_one (ps_raiseText rfl L hr (takes_of rfl rfl rfl rfl) (by exact (pa_cons (pe_str) pa_nil)))) pss_nil)
      (pss_one (ps_if (pt_cmpR op_eq (pe_ix ix_tup (pv 1) (pe_int) (fun _ _ => rfl)) (pe_str) (nomark _))
      (pss_one (ps_if (pt_not (pt_val (pe_call GWI hr1 (by rfl) gWI kWI bWI .nil pass0 (pa_cons (pe_ix ix_tup (pv 1) (pe_int) (fun _ _ => rfl)) (pa_cons (pe_int) (pa_cons (pe_op op_sub (pe_ix ix_tup (pv 0) (pe_int) (fun _ _ => rfl)) (pe_int)) pa_nil))))))
      (pss_one (ps_raiseText rfl L hr (takes_of rfl rfl rfl rfl) (by exact (pa_cons (pe_str) pa_nil)))) pss_nil)) (pss_one (ps_if (pt_not (pt_val (pe_call GII hr4 (by rfl) gII kII bII .nil pass0 (pa_cons (pe_ix ix_tup (pv 1) (pe_int) (fun _ _ => rfl)) pa_nil))))
      (pss_one (ps_raiseText rfl L hr (takes_of rfl rfl rfl rfl) (by exact (pa_cons (pe_str) pa_nil)))) pss_nil))))), ?_⟩
    dsimp only [tNext, tSeq, tIfS, tAsg, gName, tC]
    have g0 := Tbs.refl g
    refine or_decG (Rel := Tbs Ts) (fun _ _ _ => Tbs.trans) (p := False) (q := ¬ wordB h letters 8 = true ∨ ¬ (1 ≤ n ∧ n ≤ 99999)) (fun R k => ⟨_, rfl, _, 2, rfl, .inr ⟨ka, _, rfl, hk, _, rfl, to_dec (by simp) (k _ g0)⟩⟩)
      (fun _ H1 t1 R k => or_decG (Rel := Tbs Ts) (fun _ _ _ => Tbs.trans) (p := ¬ wordB h letters 8 = true) (q := ¬ (1 ≤ n ∧ n ≤ 99999)) (fun R k => ⟨_, rfl, ka, _, _, _, rfl, rfl, SqT.of (t1.tup g hk), atI_nat (j := 0) rfl, h, rfl, by omega, t1.tg T1 hT1, fun H2 t2 => ⟨_, rfl, to_dec ?_ (k _ ((Tbs.refl t1.tg).tab t2 hT1))⟩⟩)
        (fun _ H2 t2 R k => ⟨_, rfl, ka, _, _, _, rfl, rfl, SqT.of (t2.tup t1.tg (t1.tup g hk)), atI_nat (j := 1) rfl, (n : Int), 1, 99999, rfl, _, rfl, to_dec ?_ (k _ (Tbs.refl t2.tg))⟩) k) fun H1 t1 => ite2 (fun h1 => ?_) (fun h1 => ?_)
    · show (!wordB h letters 8) = _
      cases wordB h letters 8 <;> simp
    · rw [← decide_not]
      exact decide_eq_decide.mpr (by omega)
    · have h1 := of_decide_eq_true h1
      refine ⟨_, rfl, q1 ?_ H1 t1⟩
      unfold keyB
      rcases h1 with h1 | h1 | h1
      · exact h1.elim
      · rw [Bool.eq_false_iff.mpr h1, Bool.false_and]
      · rw [decide_eq_false h1, Bool.and_false]
    · have h1 : keyB h n = true := by
        unfold keyB
        have a1 : wordB h letters 8 = true := Decidable.byContradiction fun z => h1 (decide_eq_true (.inr (.inl z)))
        have a2 : 1 ≤ n ∧ n ≤ 99999 := Decidable.byContradiction fun z => h1 (decide_eq_true (.inr (.inr z)))
        rw [a1, decide_eq_true a2]
        rfl
      have e1 := t1.tup g hk
      rcases q2 h1 with ⟨z, hw, c1, c2⟩ | ⟨wd, iv, nm, hw, nw, hn, ln1, ln2, c1, c2⟩
      · refine ⟨_, rfl, wa, _, _, _, rfl, rfl, SqT.of (t1.tup g hw), atI_nat (j := 0) rfl, rfl, _, rfl, ite2 (fun _ => ?_) (fun z => absurd (decide_eq_true rfl) z)⟩
        refine ⟨_, rfl, wa, _, _, _, rfl, rfl, SqT.of (t1.tup g hw), atI_nat (j := 1) rfl, _, rfl, ka, _, _, _, rfl, rfl, SqT.of e1, atI_nat (j := 1) rfl, _, _, rfl, rfl, z, 1, (n : Int) - 1, rfl, _, rfl, ite2 (fun h2 => ?_) (fun h2 => ?_)⟩
        · have h2 : ¬ (1 ≤ z ∧ z ≤ (n : Int) - 1) := fun y => by rw [decide_eq_true y] at h2; cases h2
          exact ⟨_, rfl, c2 h2 H1 t1⟩
        · have h2 : 1 ≤ z ∧ z ≤ (n : Int) - 1 := Decidable.byContradiction fun y => h2 (by rw [decide_eq_false y]; rfl)
          exact c1 h2 H1 t1
      · have nw2 : ¬ V.str wd = V.str "withdraw" := fun y => nw (V.str.inj y)
        refine ⟨_, rfl, wa, _, _, _, rfl, rfl, SqT.of (t1.tup g hw), atI_nat (j := 0) rfl, rfl, _, rfl, ite2 (fun y => absurd (of_decide_eq_true y) nw2) (fun _ => ?_)⟩
        obtain ⟨na, lv, rfl, n1, n2⟩ := hn
        refine ⟨_, rfl, wa, _, _, _, rfl, rfl, SqT.of (t1.tup g hw), atI_nat (j := 1) rfl, .ref na, rfl, t1.tg, .inr ⟨na, lv, nm.2.1, some nm.2.2, some nm.1, rfl, t1.tup g n1, ln2, LabAt.ts (t1.ts g) n2, fun l e => by cases e; exact ln1, fun H2 t2 => ⟨_, rfl, ite2 (fun h2 => ?_) (fun h2 => ?_)⟩⟩⟩
        · have h2 : okNm nm = false := by
            have : idB (some nm.1) nm.2.1 (some nm.2.2) = okNm nm := rfl
            rw [this] at h2
            cases e : okNm nm with
            | false => rfl
            | true => rw [e] at h2; cases h2
          exact ⟨_, rfl, c2 h2 H2 (t1.trans t2)⟩
        · have h2 : okNm nm = true := by
            have : idB (some nm.1) nm.2.1 (some nm.2.2) = okNm nm := rfl
            rw [this] at h2
            cases e : okNm nm with
            | true => rfl
            | false => rw [e] at h2; exact absurd rfl h2
          exact c1 h2 H2 (t1.trans t2)
end
end K20
namespace K20
open PySem PySem.Spec PyProof.Rows L2 TL TR QR
open GX (KT kd kdAll dNO KeysAt)
theorem Fm.lock {H : Hp} {d : Addr} {g : Heap → Prop} {od : Obj} (h : H d = some (.ext g)) : Fm H (upd H d (.frz od (.ext g))) := by
  refine ⟨fun b xs e => ?_, fun a g' r => ?_⟩
  · rw [upd_ne fun z => by rw [z, h] at e; cases e]
    exact e
  · by_cases e : a = d
    · subst e
      rcases r with r | ⟨o, r⟩
      · rw [h] at r
        cases r
        exact .inr ⟨od, upd_same⟩
      · rw [h] at r
        cases r
    · exact r.imp (fun r => (upd_ne e).trans r) fun ⟨o, r⟩ => ⟨o, (upd_ne e).trans r⟩
theorem Fm.unlock {H : Hp} {d : Addr} {g : Heap → Prop} {od : Obj} (h : H d = some (.frz od (.ext g))) : Fm H (upd H d (.ext g)) := by
  refine ⟨fun b xs e => ?_, fun a g' r => ?_⟩
  · rw [upd_ne fun z => by rw [z, h] at e; cases e]
    exact e
  · by_cases e : a = d
    · subst e
      rcases r with r | ⟨o, r⟩
      · rw [h] at r
        cases r
      · rw [h] at r
        cases r
        exact .inl upd_same
    · exact r.imp (fun r => (upd_ne e).trans r) fun ⟨o, r⟩ => ⟨o, (upd_ne e).trans r⟩
/-- a dict is written -/
theorem Fm.ext {H : Hp} {d : Addr} {o : HO} (h : H d = none) : Fm H (upd H d o) := Same.fm (same_new h)
theorem ts_ext {H : Hp} {d : Addr} {g : Heap → Prop} {o : HO} (h : H d = some (.ext g)) : TS H (upd H d o) := fun b xs e => by
  rw [upd_ne fun z => by rw [z, h] at e; cases e]
  exact e
theorem KeyO.ts {H H' : Hp} {a : Addr} {k : Key} (s : TS H H') (h : KeyO H a k) : KeyO H' a k := s _ _ h
theorem WhatAt.ts {H H' : Hp} {v : V} : ∀ {x : What}, TS H H' → WhatAt H v x → WhatAt H' v x
  | .inl _, s, ⟨a, e, h⟩ => ⟨a, e, s _ _ h⟩
  | .inr (_, _), s, ⟨a, iv, e, h, g⟩ => ⟨a, iv, e, s _ _ h, g.ts s⟩
theorem take_split {α : Type} {es : List α} {m : Nat} {e : α} (he : es[m]? = some e) : es = es.take m ++ (e :: es.drop (m + 1)) := by
  obtain ⟨hlt, e1⟩ := List.getElem?_eq_some_iff.mp he
  rw [← e1, List.getElem_cons_drop, List.take_append_drop]
theorem nd_take {es : List (Key × Addr × V)} {m : Nat} {e : Key × Addr × V} (nd : (es.map (·.1)).Nodup) (he : es[m]? = some e) : e.1 ∉ (es.take m).map (·.1) := fun h => by
  rw [take_split he, List.map_append, List.map_cons, List.nodup_append] at nd
  exact nd.2.2 _ h _ List.mem_cons_self rfl
def addK {κ : Type} [DecidableEq κ] (ks : List κ) (k : κ) : List κ := if k ∈ ks then ks else ks ++ [k]
theorem addK_nd {κ : Type} [DecidableEq κ] {ks : List κ} {k : κ} (h : ks.Nodup) : (addK ks k).Nodup := by
  unfold addK
  split
  · exact h
  · rename_i hk
    exact List.nodup_append.mpr ⟨h, (by simp : [k].Nodup), fun x hx y hy z => hk (by rw [List.mem_singleton.mp hy] at z; rw [← z]; exact hx)⟩
theorem dst_add {κ : Type} [DecidableEq κ] {es : List (κ × Addr × V)} {k : κ} {b : Addr} {v : V} : (GX.dSt es k b v).map (·.1) = addK (es.map (·.1)) k := dst_keys
theorem mem_addK {κ : Type} [DecidableEq κ] {ks : List κ} {k x : κ} : x ∈ addK ks k ↔ x ∈ ks ∨ x = k := by
  unfold addK
  split
  · rename_i h
    exact ⟨.inl, fun z => z.elim id fun e => by rw [e]; exact h⟩
  · rw [List.mem_append, List.mem_singleton]
theorem nd_inj {κ : Type} : ∀ {es : List (κ × Addr × V)} {a b : κ × Addr × V}, (es.map (·.1)).Nodup → a ∈ es → b ∈ es → a.1 = b.1 → a = b
  | x :: es, a, b, nd, ha, hb, h => by
    rw [List.map_cons, List.nodup_cons] at nd
    rcases List.mem_cons.mp ha with ha | ha <;> rcases List.mem_cons.mp hb with hb | hb
    · rw [ha, hb]
    · exact absurd (List.mem_map.mpr ⟨b, hb, by rw [← h, ha]⟩) nd.1
    · exact absurd (List.mem_map.mpr ⟨a, ha, by rw [h, hb]⟩) nd.1
    · exact nd_inj nd.2 ha hb h
section
variable {P : Program} {w : World} {K : PySem.W.Frag}
theorem lock_asg {te : TE} {i : Nat} {D : Ends} {σ : L2.St} {H : Hp} (h : tLockE te σ H fun v H' => D.nx (σ.set i (some v)) H') : tLock (tAsg te (gName i)) D σ H := h
theorem is_yes {κ : Type} [DecidableEq κ] {es : List (κ × Addr × V)} {k : κ} (h : k ∈ es.map (·.1)) : (es.find? fun e => decide (e.1 = k)).isSome = true := by
  obtain ⟨e, h1, _⟩ := find_of h
  rw [h1]
  rfl
theorem is_no {κ : Type} [DecidableEq κ] {es : List (κ × Addr × V)} {k : κ} (h : k ∉ es.map (·.1)) : (es.find? fun e => decide (e.1 = k)).isSome = false := by
  rw [find_no h]
  rfl
/-- {one: d[one] for one in d}, d locked by it -/
theorem cp_rec {i j : Nat} {σ : L2.St} {H : Hp} {Q : VK} {d : Addr} {es : List (Key × Addr × V)} {f : Key → What}
    (hd : H d = some (dNO ktK P w d es)) (hr : RecAt P w H d es f) (hl : es.length ≤ 1000) (hi : σ[i]? = some (some (.ref d))) (hj : ∀ v, wipe (((wipe σ [j]).set j (some v))) [j] = wipe σ [j]) (hjj : ∀ v : V, ((wipe σ [j]).set j (some v))[j]? = some (some v)) (hij : ∀ v : V, ((wipe σ [j]).set j (some v))[i]? = some (some (.ref d)))
    (q : ∀ D H' es', Same H H' → H D = none → H' D = some (dNO ktK P w D es') → RecAt P w H' D es' f → es'.map (·.1) = es.map (·.1) → Q (.ref D) H') :
    tLockE (GX.tDg (fun D => dNO ktK P w D []) (GX.putN ktK P w K) (GX.iKeysN ktK P w (tVar i)) (gName j) tYes (tVar j) (tOp (GX.rIxN ktK P w K) (tVar i) (tVar j)) [j]) σ H Q := by
  have zl := zl
  obtain ⟨_, hk, hv, nd⟩ := hr
  refine ⟨d, _, hd, trivial, fun od => ?_⟩
  have fL : Fm H (upd H d (.frz od (dNO ktK P w d es))) := Fm.lock hd
  have hL0 : upd H d (.frz od (dNO ktK P w d es)) d = some (.frz od (dNO ktK P w d es)) := upd_same
  refine ⟨_, hi, d, od, es, rfl, hL0, fun D nD => ?_⟩
  have nDd : D ≠ d := fun e => by rw [e, hL0] at nD; cases nD
  refine GX.dg_it (o0 := fun D => dNO ktK P w D []) (put := GX.putN ktK P w K) (GX.walk_N (T := ktK) (P := P) (w := w)) (fun m H' => Same (upd H d (.frz od (dNO ktK P w d es))) H' ∧ ∃ es', H' D = some (dNO ktK P w D es') ∧ (∀ e' ∈ es', KeyO H' e'.2.1 e'.1) ∧ es'.map (·.1) = (es.take m).map (·.1) ∧ ∀ e' ∈ es', WhatAt H' e'.2.2 (f e'.1))
    ⟨same_new nD, [], upd_same, (fun _ h => nomatch h), rfl, (fun _ h => nomatch h)⟩ ?_ ?_ ?_
  · rintro m H' _ ⟨s, _⟩
    exact s _ _ hL0
  · rintro m x H0 H1 hm ⟨s, es', eD, ka, kk, vv⟩ ⟨rfl, e, he, rfl⟩
    have hem := List.mem_of_getElem? he
    have f1 : Fm H H1 := fL.trans (Same.fm s)
    have hke : KeyO H1 e.2.1 e.1 := (hk e hem).fm f1
    have hve : WhatAt H1 e.2.2 (f e.1) := (hv e hem).fm f1
    obtain ⟨e2, g1, g2, g3⟩ := find_of (List.mem_map.mpr ⟨e, hem, rfl⟩ : e.1 ∈ es.map (·.1))
    have ee : e2 = e := nd_inj nd g2 hem g3
    subst ee
    refine ⟨hj _, _, hjj _, _, hij _, _, hjj _, d, e2.2.1, es, e2.1, e2, rfl, rfl, .inr ⟨od, s _ _ hL0⟩, fun e he => dp_K ((hk e he).fm f1), dp_K hke, g1, ?_⟩
    have nk : e2.1 ∉ es'.map (·.1) := fun h => nd_take nd he (by rw [kk] at h; exact h)
    have le : es'.length ≤ es.length := by
      have := congrArg List.length kk
      rw [List.length_map, List.length_map, List.length_take] at this
      omega
    have tD := ts_ext (o := dNO ktK P w D (GX.dSt es' e2.1 e2.2.1 e2.2.2)) eD
    refine ⟨es', e2.1, e2.2.1, rfl, eD, fun e he => dp_K (ka e he), dp_K hke, by omega, same_upd nD s, _, upd_same, fun e' he' => ?_, ?_, fun e' he' => ?_⟩
    · rcases dst_mem he' with ⟨h1, h2, h3 | ⟨x, hx, h4, h5⟩⟩ | ⟨h1, h2⟩
      · rw [h1, h3]
        exact hke.ts tD
      · have := (ka x hx).ts tD
        rw [h4, h5] at this
        rw [h1]
        exact this
      · exact (ka e' h1).ts tD
    · rw [dst_keys, if_neg nk, kk, List.take_add_one, he, List.map_append]
      rfl
    · rcases dst_mem he' with ⟨h1, h2, _⟩ | ⟨h1, h2⟩
      · rw [h1, h2]
        exact hve.ts tD
      · exact (vv e' h1).ts tD
  · rintro H' ⟨s, es', eD, ka, kk, vv⟩
    have hlock := s _ _ hL0
    have fU := Fm.unlock hlock
    rw [List.take_length] at kk
    have eD' : (upd H' d (dNO ktK P w d es)) D = some (dNO ktK P w D es') := (upd_ne nDd).trans eD
    refine ⟨hlock, q D _ es' (fun b o hb => ?_) ?_ eD' ⟨.inl eD', fun e he => (ka e he).fm fU, fun e he => (vv e he).fm fU, by rw [kk]; exact nd⟩ kk⟩
    · by_cases e : b = d
      · subst e
        rw [hd] at hb
        cases hb
        exact upd_same
      · rw [upd_ne e]
        exact s b o ((upd_ne e).trans hb)
    · rw [upd_ne nDd] at nD
      exact nD
/-- a record is written -/
def setF (f : Key → What) (k : Key) (x : What) : Key → What := fun k' => if k' = k then x else f k'
theorem RecAt.put {H : Hp} {a ka : Addr} {v : V} {es : List (Key × Addr × V)} {f : Key → What} {k : Key} {x : What} (h : RecAt P w H a es f) (ha : H a = some (dNO ktK P w a es)) (hk : KeyO H ka k) (hx : WhatAt H v x) :
    RecAt P w (upd H a (dNO ktK P w a (GX.dSt es k ka v))) a (GX.dSt es k ka v) (setF f k x) := by
  have tD := ts_ext (o := dNO ktK P w a (GX.dSt es k ka v)) ha
  refine ⟨.inl upd_same, fun e he => ?_, fun e he => ?_, ?_⟩
  · rcases dst_mem he with ⟨h1, h2, h3 | ⟨y, hy, h4, h5⟩⟩ | ⟨h1, h2⟩
    · rw [h1, h3]
      exact hk.ts tD
    · have := (h.ky y hy).ts tD
      rw [h4, h5] at this
      rw [h1]
      exact this
    · exact (h.ky e h1).ts tD
  · rcases dst_mem he with ⟨h1, h2, _⟩ | ⟨h1, h2⟩
    · rw [h2, setF, if_pos h1]
      exact hx.ts tD
    · rw [setF, if_neg h2]
      exact (h.vl e h1).ts tD
  · rw [dst_add]
    exact addK_nd h.nd
end
end K20
namespace K20
open PySem PySem.Spec PyProof.Rows L2 TL TR QR
mutual
def solid : PyData → Bool
  | .int _ => true
  | .str _ => true
  | .list xs => solidAll xs
  | .tuple xs => solidAll xs
  | _ => false
def solidAll : List PyData → Bool
  | [] => true
  | x :: xs => solid x && solidAll xs
end
theorem solidAll_cons {x : PyData} {xs : List PyData} (h : solidAll (x :: xs) = true) : solid x = true ∧ solidAll xs = true := by
  rw [solidAll, Bool.and_eq_true] at h
  exact h
mutual
theorem eqv_solid : ∀ d e : PyData, solid d = true → solid e = true → PyData.eqv d e = true → d = e
  | .none, _, h, _, _ => by simp [solid] at h
  | .bool _, _, h, _, _ => by simp [solid] at h
  | .dict _, _, h, _, _ => by simp [solid] at h
  | .int i, e, h, g, q => by
    cases e with
    | int j => simp [PyData.eqv] at q; rw [q]
    | bool b => simp [solid] at g
    | _ => simp [PyData.eqv] at q
  | .str i, e, h, g, q => by
    cases e with
    | str j => simp [PyData.eqv] at q; rw [q]
    | _ => simp [PyData.eqv] at q
  | .list xs, e, h, g, q => by
    cases e with
    | list ys =>
      rw [PyData.eqv] at q
      rw [eqvAll_solid xs ys (by rw [solid] at h; exact h) (by rw [solid] at g; exact g) q]
    | _ => simp [PyData.eqv] at q
  | .tuple xs, e, h, g, q => by
    cases e with
    | tuple ys =>
      rw [PyData.eqv] at q
      rw [eqvAll_solid xs ys (by rw [solid] at h; exact h) (by rw [solid] at g; exact g) q]
    | _ => simp [PyData.eqv] at q
theorem eqvAll_solid : ∀ xs ys : List PyData, solidAll xs = true → solidAll ys = true → PyData.eqvAll xs ys = true → xs = ys
  | [], [], _, _, _ => rfl
  | [], _ :: _, _, _, q => by simp [PyData.eqvAll] at q
  | _ :: _, [], _, _, q => by simp [PyData.eqvAll] at q
  | x :: xs, y :: ys, h, g, q => by
    obtain ⟨h1, h2⟩ := solidAll_cons h
    obtain ⟨g1, g2⟩ := solidAll_cons g
    rw [PyData.eqvAll, Bool.and_eq_true] at q
    rw [eqv_solid x y h1 g1 q.1, eqvAll_solid xs ys h2 g2 q.2]
end
mutual
theorem solid_plain : ∀ d : PyData, solid d = true → d.plain = true
  | .none, h => by simp [solid] at h
  | .bool _, h => by simp [solid] at h
  | .dict _, h => by simp [solid] at h
  | .int _, _ => rfl
  | .str _, _ => rfl
  | .list xs, h => by
    rw [PyData.plain]
    exact solidAll_plain xs (by rw [solid] at h; exact h)
  | .tuple xs, h => by
    rw [PyData.plain]
    exact solidAll_plain xs (by rw [solid] at h; exact h)
theorem solidAll_plain : ∀ xs : List PyData, solidAll xs = true → PyData.plainAll xs = true
  | [], _ => rfl
  | x :: xs, h => by
    obtain ⟨h1, h2⟩ := solidAll_cons h
    rw [PyData.plainAll, solid_plain x h1, solidAll_plain xs h2]
    rfl
end
theorem eqv_iff {d e : PyData} (h : solid d = true) (g : solid e = true) : PyData.eqv d e = true ↔ d = e :=
  ⟨eqv_solid d e h g, fun z => by rw [← z]; exact PySem.SeqAt.eqv_refl_plain d (solid_plain d h)⟩
theorem solid_W : ∀ x : What, solid (encW x) = true
  | .inl _ => rfl
  | .inr (_, _) => rfl
theorem eqv_W (x y : What) : PyData.eqv (encW x) (encW y) = decide (x = y) := by
  by_cases h : x = y
  · rw [decide_eq_true h]
    exact (eqv_iff (solid_W x) (solid_W y)).mpr (by rw [h])
  · rw [decide_eq_false h]
    exact Bool.eq_false_iff.mpr fun z => h (encW_inj ((eqv_iff (solid_W x) (solid_W y)).mp z))
theorem ne_W {K : PySem.W.Frag} {H : Hp} {a b : V} {x y : What} {Q : VK} (ha : WhatAt H a x) (hb : WhatAt H b y) (q : Q (.bl (!decide (x = y))) H) : rNeP K a b H Q :=
  ⟨_, _, dp_W ha, dp_W hb, solid_plain _ (solid_W x), solid_plain _ (solid_W y), Nat.le_trans (encW_dep x) (by decide), by rw [eqv_W]; exact q⟩
end K20
namespace K20
open PySem PySem.Spec PyProof.Rows L2 TL TR QR
open GX (dNO)
open GxR (TabB TabG Tabbed)
abbrev sWR : Stmt := topS 17
abbrev nWR : List Str := ["records", "key", "what", "rows", "one"]
theorem scWR : FnScope nWR ["records", "key", "what"] (defScope sWR) := ⟨rfl, rfl, rfl, by decide +kernel, rfl, by decide +kernel, by decide +kernel⟩
/-- the record that is refused, and where -/
def FaultAt (H : Hp) (ka wa : Addr) (pl : Str) : Prop := ∃ (h : Str) (n : Nat), H ka = some (.tup [.str h, .int (n : Int)]) ∧ h.length ≤ 100000 ∧ ((keyB h n = false ∧ pl = "key") ∨ (keyB h n = true ∧
  ((∃ z : Int, H wa = some (.tup [.str "withdraw", .int z]) ∧ ¬ (1 ≤ z ∧ z ≤ (n : Int) - 1) ∧ pl = "number") ∨
   (∃ (wd : Str) (iv : V) (nm : Nm), H wa = some (.tup [.str wd, iv]) ∧ wd ≠ "withdraw" ∧ NmAt H iv nm ∧ nm.1.2.length ≤ 1000 ∧ nm.2.1.length ≤ 100000 ∧ okNm nm = false ∧ pl = "id"))))
theorem FaultAt.ts {H H' : Hp} {ka wa : Addr} {pl : Str} (s : TS H H') : FaultAt H ka wa pl → FaultAt H' ka wa pl := by
  rintro ⟨h, n, e, l, r⟩
  refine ⟨h, n, s _ _ e, l, r.imp id fun ⟨k, r⟩ => ⟨k, r.imp (fun ⟨z, a, b⟩ => ⟨z, s _ _ a, b⟩) fun ⟨wd, iv, nm, a, b, c, d⟩ => ⟨wd, iv, nm, s _ _ a, b, c.ts s, d⟩⟩⟩
/-- the record is right -/
def okW (n : Nat) : What → Bool
  | .inl m => decide (1 ≤ m ∧ m < n)
  | .inr (_, i) => okNm (nmOf i)
def okRec (k : Key) (x : What) : Bool := keyB (hdS k.1) k.2 && okW k.2 x
theorem hd_len : ∀ i : Fin 4, (hdS i).length ≤ 100000 := by decide +kernel
theorem wd_no : ∀ b : Bool, wdS b ≠ "withdraw" := by decide +kernel
theorem nm_lens : ∀ i : Fin 6, (nmOf i).1.2.length ≤ 1000 ∧ (nmOf i).2.1.length ≤ 100000 := by decide +kernel
theorem Tbs.none {Ts : List Addr} {H H' : Hp} {x : Addr} (t : Tbs Ts H H') (n : H' x = Option.none) : H x = Option.none := by
  cases e : H x with
  | none => rfl
  | some o =>
    by_cases hx : x ∈ Ts
    · obtain ⟨ps, h, _⟩ := t.tg x hx
      rw [h] at n
      cases n
    · rw [t.sm x o hx e] at n
      cases n
section
variable {P : Program} {w : World} {K : PySem.W.Frag} {mg : Str → Option Value} {base : Heap} {H : Hp} {v : V} {Q : VK} {E : XK} {C fI : Addr} {Ts : List Addr}
theorem ck_fault {ka wa : Addr} {pl : Str} (g : TG Ts H) (h : FaultAt H ka wa pl) (q : ∀ H', Tbs Ts H H' → Out C E pl H') : spCK Ts C [.ref ka, .ref wa] H Q E := by
  obtain ⟨h, n, e, l, r⟩ := h
  refine ⟨ka, wa, h, n, rfl, g, e, l, fun z => ?_, fun z => ?_⟩
  · rcases r with ⟨_, rfl⟩ | ⟨y, _⟩
    · exact q
    · rw [z] at y; cases y
  · rcases r with ⟨y, _⟩ | ⟨_, r⟩
    · rw [z] at y; cases y
    · rcases r with ⟨y, a, b, rfl⟩ | ⟨wd, iv, nm, a, b, c, d1, d2, d3, rfl⟩
      · exact .inl ⟨y, a, fun x => absurd x b, fun _ => q⟩
      · exact .inr ⟨wd, iv, nm, a, b, c, d1, d2, (fun x => by rw [d3] at x; cases x), fun _ => q⟩
theorem ck_fine {ka wa : Addr} {k : Key} {x : What} (g : TG Ts H) (hk : KeyO H ka k) (hx : WhatAt H (.ref wa) x) (ok : okRec k x = true) (q : ∀ H', Tbs Ts H H' → Q .non H') : spCK Ts C [.ref ka, .ref wa] H Q E := by
  refine ⟨ka, wa, hdS k.1, k.2, rfl, g, hk, hd_len _, fun z => ?_, fun z => ?_⟩
  · unfold okRec at ok
    rw [z, Bool.false_and] at ok
    cases ok
  · unfold okRec at ok
    rw [z, Bool.true_and] at ok
    rcases x with n | ⟨b, i⟩
    · obtain ⟨a, e, h⟩ := hx
      cases e
      have ok := of_decide_eq_true ok
      exact .inl ⟨(n : Int), h, fun _ => q, fun y => absurd ⟨by omega, by omega⟩ y⟩
    · obtain ⟨a, iv, e, h, hn⟩ := hx
      cases e
      exact .inr ⟨wdS b, iv, nmOf i, h, wd_no b, hn, (nm_lens i).1, (nm_lens i).2, fun _ => q, fun y => by rw [show okNm (nmOf i) = true from ok] at y; cases y⟩
def spWR (P : Program) (w : World) (K : PySem.W.Frag) (Ts : List Addr) (C : Addr) : Sp := fun vs H Q E => ∃ (a ka wa : Addr), vs = [.ref a, .ref ka, .ref wa] ∧ TG Ts H ∧
  ((∃ pl, FaultAt H ka wa pl ∧ ∀ H', Tbs Ts H H' → Out C E pl H') ∨
   (∃ (es : List (Key × Addr × V)) (f : Key → What) (k : Key) (x : What), RecAt P w H a es f ∧ es.length ≤ 1000 ∧ KeyO H ka k ∧ WhatAt H (.ref wa) x ∧ okRec k x = true ∧
    ((k ∈ es.map (·.1) ∧ f k ≠ x ∧ ∀ H', Tbs Ts H H' → Out C E "other" H') ∨
     (H a = some (dNO ktK P w a es) ∧ (k ∈ es.map (·.1) → f k = x) ∧ ∀ H' p es', Tbs Ts H H' → H p = none → H' p = some (dNO ktK P w p es') → RecAt P w H' p es' (setF f k x) → es'.map (·.1) = addK (es.map (·.1)) k → Q (.ref p) H'))))
theorem ok_WR {f fCK : Addr} {fd fdCK : FuncData} (F : Fun K "with_record" "with_record" sWR f fd) (L : PySem.TextX.TextTxt K mg C fI)
    (GCK : FnOk P w K mg base (L2.CX P w) 5 fCK fdCK ["key", "what"] (spCK Ts C)) (bCK : Binds K fdCK ["key", "what"] []) (gCK : mg "check_record" = some (.ref fCK)) (kCK : PySem.W.keepIn K (.ref fCK) = true) : FnOk P w K mg base (L2.CX P w) 6 f fd ["records", "key", "what"] (spWR P w K Ts C) := by
  refine F.okX scWR (fun vs H Q E h => ?_) (fun cdv A outer s H vs Q E hr h => ?_)
  · obtain ⟨a, ka, wa, rfl, _⟩ := h
    rfl
  · obtain ⟨a, ka, wa, rfl, g, h⟩ := h
    have hu := hr.units
    have hu1 := hu_of hr
    have hr1 : Room 1 _ := hr.mono (by decide)
    have hr2 : Room 2 _ := hr.mono (by decide)
    have hr3 : Room 3 _ := hr.mono (by decide)
    have hr4 : Room 4 _ := hr.mono (by decide)
    have hr5 : Room 5 _ := hr.mono (by decide)
    have zl := zl
    refine ⟨_, (pss_cons (ps_expr (pe_call GCK hr5 (by rfl) gCK kCK bCK .nil (passes_call (takes_of rfl rfl rfl rfl) (fun _ _ _ _ h => h)) (pa_cons (pv 1) (pa_cons (pv 2) pa_nil))))
      (pss_cons (ps_if (PW.pt (pw_and (pt_cmpR (GX.op_inN (T := ktK) hu) (pv 1) (pv 0) (by rfl)) (pw_and1 (pt_cmpR (op_neP hu) (pe_ix (GX.ix_N (T := ktK) hu) (pv 0) (pv 1) (fun _ _ => rfl)) (pv 2) (nomark _)))))
      (pss_one (ps_raiseText rfl L hr (takes_of rfl rfl rfl rfl) (by exact (pa_cons (pe_str) pa_nil)))) pss_nil)
      (pss_cons (ps_lock (GX.ps_setDg (i := 3) (o0 := fun D => GX.dNO ktK P w D []) (put := GX.putN ktK P w K) (own := [("one", 4)]) (g := gName 4) (tt := tYes) (tk := tVar 4) (tv := tOp (GX.rIxN ktK P w K) (tVar 0) (tVar 4)) (fun H h hb => GX.dg_empty H h hb) rfl scWR.nd rfl rfl (GX.sw_dict rfl rfl rfl (by decide +kernel)) (GX.pi_keysN (T := ktK) (pv 0)) (blkOk_by (N := nWR) (sc := defScope sWR) (by decide +kernel)) (fun _ _ _ _ _ => by exact pg_name (i := 4) scWR.nd rfl (.inl rfl)) (fun _ _ _ _ _ => pts_nil) (fun _ _ _ _ _ => by exact pv 4) (fun _ _ _ _ _ => by exact pe_ix (GX.ix_N (T := ktK) hu) (pv 0) (pv 4) (fun _ _ => rfl)) (fun _ _ _ _ _ => GX.putR_N hu)))
      (pss_cons (ps_asg (pv 2) (pg_sub (pv 3) (pv 1) (GX.set_N (T := ktK) hu)))
      (pss_one (ps_ret (pv 3))))))), ?_⟩
    dsimp only [tNext, tSeq, tIfS, tAsg, gName, tC]
    rcases h with ⟨pl, hf, q⟩ | ⟨es, f, k, x, hr, hl, hk, hx, ok, h⟩
    · exact ⟨_, rfl, _, rfl, ck_fault g hf q⟩
    refine ⟨_, rfl, _, rfl, ck_fine g hk hx ok fun H1 t1 => ?_⟩
    have f1 := t1.fm g
    have hr1 := hr.fm f1
    have hk1 := hk.fm f1
    have hx1 := hx.fm f1
    refine ⟨_, rfl, _, rfl, a, ka, es, k, rfl, rfl, hr1.rd, hr1.keys, dp_K hk1, ?_⟩
    refine ⟨_, rfl, ?_⟩
    have fin : ∀ (q : ∀ H' p es', Tbs Ts H H' → H p = none → H' p = some (dNO ktK P w p es') → RecAt P w H' p es' (setF f k x) → es'.map (·.1) = addK (es.map (·.1)) k → Q (.ref p) H') D H2 es2, Same H1 H2 → H1 D = none → H2 D = some (dNO ktK P w D es2) → RecAt P w H2 D es2 f → es2.map (·.1) = es.map (·.1) →
        ∀ R : Hp → Prop, (∀ H3, Q (.ref D) H3 → R H3) → GX.rSetN ktK P w K (.ref D) (.ref ka) (.ref wa) H2 R := fun q D H2 es2 s2 nD eD hr2 hk2 R hR => by
      have hx2 := hx1.fm (Same.fm s2)
      have hk3 := hk1.fm (Same.fm s2)
      have l2 : es2.length = es.length := by
        have := congrArg List.length hk2
        rwa [List.length_map, List.length_map] at this
      exact ⟨D, ka, es2, k, rfl, rfl, eD, hr2.keys, dp_K hk3, by omega, hR _ (q _ D _ (t1.same (same_upd nD s2)) (t1.none nD) upd_same (hr2.put eD hk3 hx2) (by rw [dst_add, hk2]))⟩
    rcases h with ⟨hin, hne, q⟩ | ⟨ha, hn, q⟩
    · obtain ⟨e, g1, g2, g3⟩ := find_of hin
      rw [is_yes hin]
      refine iteT ⟨_, rfl, _, rfl, a, ka, es, k, e, rfl, rfl, hr1.rd, hr1.keys, dp_K hk1, g1, _, rfl, ne_W (hr1.vl e g2) hx1 ⟨_, rfl, ite2 (fun _ => ⟨_, rfl, q H1 t1⟩) (fun z => ?_)⟩⟩
      rw [g3, decide_eq_false hne] at z
      exact absurd rfl z
    · have ha1 := t1.at_ g ha fun _ z => nomatch z
      by_cases hin : k ∈ es.map (·.1)
      · obtain ⟨e, g1, g2, g3⟩ := find_of hin
        rw [is_yes hin]
        refine iteT ⟨_, rfl, _, rfl, a, ka, es, k, e, rfl, rfl, hr1.rd, hr1.keys, dp_K hk1, g1, _, rfl, ne_W (hr1.vl e g2) hx1 ⟨_, rfl, ite2 (fun z => ?_) (fun z => ?_)⟩⟩
        · rw [g3, decide_eq_true (hn hin)] at z
          cases z
        · exact lock_asg (cp_rec ha1 hr1 hl rfl (fun _ => rfl) (fun _ => rfl) (fun _ => rfl) fun D H2 es2 s2 nD eD hr2 hk2 => ⟨_, rfl, _, rfl, _, rfl, fin q D H2 es2 s2 nD eD hr2 hk2 _ fun H3 h3 => ⟨_, rfl, h3⟩⟩)
      · rw [is_no hin]
        refine iteF (iteF ?_)
        exact lock_asg (cp_rec ha1 hr1 hl rfl (fun _ => rfl) (fun _ => rfl) (fun _ => rfl) fun D H2 es2 s2 nD eD hr2 hk2 => ⟨_, rfl, _, rfl, _, rfl, fin q D H2 es2 s2 nD eD hr2 hk2 _ fun H3 h3 => ⟨_, rfl, h3⟩⟩)
end
end K20
/-! dicts of keys that are made; the records in their order, the last first -/
namespace K20
open PySem PySem.Spec PyProof.Rows L2 TL TR QR
open GX (dNO)
section
variable {P : Program} {w : World} {K : PySem.W.Frag} {H0 H H' : Hp} {F A b : Addr} {ef ea : List (Key × Addr × V)} {k : Key} {v : V} {VF VA : Key → V → Prop}
/-- two dicts of keys that are made, beside what stood -/
structure SB (P : Program) (w : World) (H0 H : Hp) (F A : Addr) (ef ea : List (Key × Addr × V)) (VF VA : Key → V → Prop) : Prop where
  sm : Same H0 H
  f0 : H0 F = none
  a0 : H0 A = none
  ne : F ≠ A
  hF : H F = some (dNO ktK P w F ef)
  hA : H A = some (dNO ktK P w A ea)
  kf : ∀ e ∈ ef, KeyO H e.2.1 e.1 ∧ VF e.1 e.2.2
  ka : ∀ e ∈ ea, KeyO H e.2.1 e.1 ∧ VA e.1 e.2.2
theorem SB.same (f : SB P w H0 H F A ef ea VF VA) (s : Same H H') : SB P w H0 H' F A ef ea VF VA :=
  ⟨same_trans f.sm s, f.f0, f.a0, f.ne, s _ _ f.hF, s _ _ f.hA, fun e he => ⟨s _ _ (f.kf e he).1, (f.kf e he).2⟩, fun e he => ⟨s _ _ (f.ka e he).1, (f.ka e he).2⟩⟩
theorem put_keys {es : List (Key × Addr × V)} {D : Addr} {g : Heap → Prop} {o : HO} {VP : Key → V → Prop} (h : ∀ e ∈ es, KeyO H e.2.1 e.1 ∧ VP e.1 e.2.2) (hD : H D = some (.ext g)) (hk : KeyO H b k) (hv : VP k v) : ∀ e ∈ GX.dSt es k b v, KeyO (upd H D o) e.2.1 e.1 ∧ VP e.1 e.2.2 := fun e he => by
  have tD := ts_ext (o := o) hD
  rcases dst_mem he with ⟨h1, h2, h3 | ⟨y, hy, h4, h5⟩⟩ | ⟨h1, h2⟩
  · rw [h1, h2, h3]
    exact ⟨hk.ts tD, hv⟩
  · have := ((h y hy).1).ts tD
    rw [h4, h5] at this
    rw [h1, h2]
    exact ⟨this, hv⟩
  · exact ⟨((h e h1).1).ts tD, (h e h1).2⟩
theorem SB.putF (f : SB P w H0 H F A ef ea VF VA) (hk : KeyO H b k) (hv : VF k v) : SB P w H0 (upd H F (dNO ktK P w F (GX.dSt ef k b v))) F A (GX.dSt ef k b v) ea VF VA :=
  ⟨same_upd f.f0 f.sm, f.f0, f.a0, f.ne, upd_same, (upd_ne (Ne.symm f.ne)).trans f.hA, put_keys f.kf f.hF hk hv, fun e he => ⟨((f.ka e he).1).ts (ts_ext f.hF), (f.ka e he).2⟩⟩
theorem SB.putA (f : SB P w H0 H F A ef ea VF VA) (hk : KeyO H b k) (hv : VA k v) : SB P w H0 (upd H A (dNO ktK P w A (GX.dSt ea k b v))) F A ef (GX.dSt ea k b v) VF VA :=
  ⟨same_upd f.a0 f.sm, f.f0, f.a0, f.ne, (upd_ne f.ne).trans f.hF, upd_same, fun e he => ⟨((f.kf e he).1).ts (ts_ext f.hA), (f.kf e he).2⟩, put_keys f.ka f.hA hk hv⟩
theorem SB.kF (f : SB P w H0 H F A ef ea VF VA) : GX.KeysAt ktK K H ef := fun e he => dp_K (f.kf e he).1
theorem SB.kA (f : SB P w H0 H F A ef ea VF VA) : GX.KeysAt ktK K H ea := fun e he => dp_K (f.ka e he).1
end
/-- the last first: an order in which a hand's later records come before its earlier ones -/
def Desc (l : List Key) : Prop := l.Pairwise fun a b => a.1 = b.1 → b.2 < a.2
theorem desc_rev {ks : List Key} (nd : ks.Nodup) : Desc (sortL ks).reverse := by
  unfold Desc
  rw [List.pairwise_reverse]
  have h1 := sortL_pw ks
  have h2 : (sortL ks).Nodup := (sortL_perm ks).nodup_iff.mpr nd
  refine (h1.and h2).imp fun {a b} h e => ?_
  have h3 := of_decide_eq_true h.1
  have h4 : ¬ a.2 = b.2 := fun z => h.2 (Prod.ext e.symm z)
  have h5 : a.1.1 = b.1.1 := by rw [e]
  omega
theorem rev_perm (ks : List Key) : (sortL ks).reverse.Perm ks := (List.reverse_perm _).trans (sortL_perm ks)
end K20
namespace K20
open PySem PySem.Spec PyProof.Rows L2 TL TR QR
open GX (dNO)
abbrev sSR : Stmt := topS 18
abbrev nSR : List Str := ["records", "found", "fallen", "hand", "number", "word", "told"]
theorem scSR : FnScope nSR ["records"] (defScope sSR) := ⟨rfl, rfl, rfl, by decide +kernel, rfl, by decide +kernel, by decide +kernel⟩
theorem get_not_take {l : List Key} {i : Nat} {k : Key} (nd : l.Nodup) (h : l[i]? = some k) : k ∉ l.take i := fun z => by
  rw [take_split h, List.nodup_append] at nd
  exact nd.2.2 _ z _ List.mem_cons_self rfl
theorem addK_new {κ : Type} [DecidableEq κ] {ks : List κ} {k : κ} (h : k ∉ ks) : addK ks k = ks ++ [k] := if_neg h
section
variable {P : Program} {w : World} {K : PySem.W.Frag} {mg : Str → Option Value} {base : Heap}
def spSR (P : Program) (w : World) (K : PySem.W.Frag) : Sp := fun vs H Q _ => ∃ (a : Addr) (es : List (Key × Addr × V)) (f : Key → What), vs = [.ref a] ∧ RecAt P w H a es f ∧ es.length ≤ 1000 ∧ Valid (es.map (·.1)) f ∧
  ∀ H' p es', Same H H' → H p = none → H' p = some (dNO ktK P w p es') → (∀ e ∈ es', KeyO H' e.2.1 e.1 ∧ e.2.2 = .bl true) → (es'.map (·.1)).Perm ((es.map (·.1)).filter (St (es.map (·.1)) f)) → Q (.ref p) H'
theorem ok_SR {f : Addr} {fd : FuncData} (F : Fun K "standing_records" "standing_records" sSR f fd)
    (m_sorted : mg "sorted" = none) : FnOk P w K mg base CX0 1 f fd ["records"] (spSR P w K) := by
  refine F.ok scSR (fun vs H Q E h => ?_) (fun cdv A outer s H vs Q E hr h => ?_)
  · obtain ⟨a, es, f, rfl, _⟩ := h
    rfl
  · obtain ⟨a, es, f, rfl, hR, hl, hv, q⟩ := h
    have hu := hr.units
    have hu1 := hu_of hr
    have zl := zl
    refine ⟨_, (pss_cons (ps_par (i := 1) (j := 2) (by rfl) scSR.nd rfl rfl (by decide) rfl rfl (pa_cons ((GX.pe_dnewN (T := ktK))) (pa_cons ((GX.pe_dnewN (T := ktK))) pa_nil)) (by rfl))
      (pss_cons (ps_for PassesOwn.never rfl (pi_list (pe_rev (pe_callB (GX.cr_sortedN (T := ktK) rfl hu) (by rfl) m_sorted (by decide +kernel) (pa_cons (pv 0) pa_nil)) (pe_un un_neg pe_int))) (pg_tup (by rfl) (pgs_cons (pg_name (i := 3) scSR.nd rfl (.inl rfl)) (pgs_cons (pg_name (i := 4) scSR.nd rfl (.inl rfl)) pgs_nil)))
      (pss_one (ps_if (pt_cmpR (GX.op_notInN (T := ktK) hu) (pe_tup (pa_cons (pv 3) (pa_cons (pv 4) pa_nil))) (pv 2) (by rfl))
      (pss_cons (ps_asg (pe_bl) (pg_sub (pv 1) (pe_tup (pa_cons (pv 3) (pa_cons (pv 4) pa_nil))) (GX.set_N (T := ktK) hu)))
      (pss_cons (ps_asg (pe_ix (GX.ix_N (T := ktK) hu) (pv 0) (pe_tup (pa_cons (pv 3) (pa_cons (pv 4) pa_nil))) (fun _ _ => rfl)) (pg_tup (by rfl) (pgs_cons (pg_name (i := 5) scSR.nd rfl (.inl rfl)) (pgs_cons (pg_name (i := 6) scSR.nd rfl (.inl rfl)) pgs_nil))))
      (pss_one (ps_if (pt_cmpR op_eq (pv 5) (pe_str) (nomark _))
      (pss_one (ps_asg (pe_bl) (pg_sub (pv 2) (pe_tup (pa_cons (pv 3) (pa_cons (pv 6) pa_nil))) (GX.set_N (T := ktK) hu)))) pss_nil)))) pss_nil)))
      (pss_one (ps_ret (pv 1))))), ?_⟩
    dsimp only [tNext, tSeq, tIfS, tAsg, gName, tC, cxOf]
    refine fun F nF A nA => ?_
    have sF := same_new (o := dNO ktK P w F []) nF
    have sA := same_new (o := dNO ktK P w A []) nA
    have nFA : F ≠ A := fun e => by rw [← e, upd_same] at nA; cases nA
    have nA0 : H A = none := same_none sF nA
    have s0 : Same H (upd (upd H F (dNO ktK P w F [])) A (dNO ktK P w A [])) := same_trans sF sA
    have b0 : SB P w H (upd (upd H F (dNO ktK P w F [])) A (dNO ktK P w A [])) F A [] [] (fun _ v => v = .bl true) (fun _ _ => True) := ⟨s0, nF, nA0, nFA, (upd_ne nFA).trans upd_same, upd_same, (fun _ h => nomatch h), (fun _ h => nomatch h)⟩
    generalize upd (upd H F (dNO ktK P w F [])) A (dNO ktK P w A []) = H1 at s0 b0
    have hR1 := hR.fm (Same.fm s0)
    obtain ⟨al, so⟩ := able_K (fun e : Key × Addr × V => e.1) es
    refine ⟨_, _, rfl, _, rfl, a, es, rfl, hR1.rd, hR1.keys, al, so, fun p np => ⟨_, rfl, rfl, p, _, rfl, SqL.of upd_same, fun r nr => ⟨r, rfl, ⟨_, SqL.of upd_same⟩, ?_⟩⟩⟩
    rw [← List.map_reverse]
    have eK : ((GX.sortN ktK es).reverse).map (·.1) = (sortL (es.map (·.1))).reverse := by rw [List.map_reverse, sortN_keys]
    have eP : ∀ e ∈ (GX.sortN ktK es).reverse, e ∈ es := fun e he => List.mem_mergeSort.mp (List.mem_reverse.mp he)
    have eL : ((GX.sortN ktK es).reverse).length = es.length := by rw [List.length_reverse]; exact List.length_mergeSort _
    have hp := rev_perm (es.map (·.1))
    have hd := desc_rev hR.nd
    have s1 : Same H1 (upd (upd H1 p (.lst ((GX.sortN ktK es).map fun e => V.ref e.2.1))) r (.lst (((GX.sortN ktK es).reverse).map fun e => V.ref e.2.1))) := same_trans (same_new np) (same_new nr)
    have b1 := b0.same s1
    have er : (upd (upd H1 p (.lst ((GX.sortN ktK es).map fun e => V.ref e.2.1))) r (.lst (((GX.sortN ktK es).reverse).map fun e => V.ref e.2.1))) r = some (.lst (((GX.sortN ktK es).reverse).map fun e => V.ref e.2.1)) := upd_same
    have hR2 := hR1.fm (Same.fm s1)
    generalize upd (upd H1 p (.lst ((GX.sortN ktK es).map fun e => V.ref e.2.1))) r (.lst (((GX.sortN ktK es).reverse).map fun e => V.ref e.2.1)) = H2 at b1 er hR2
    generalize (GX.sortN ktK es).reverse = Es at er eK eP eL b1
    generalize (sortL (es.map (·.1))).reverse = L at eK hp hd
    refine for_list (xs := Es.map fun e => V.ref e.2.1) (fun i σ H' => ∃ (y3 y4 y5 y6 : Option V) (ef ea : List (Key × Addr × V)), σ = [some (.ref a), some (.ref F), some (.ref A), y3, y4, y5, y6] ∧ SB P w H H' F A ef ea (fun _ v => v = .bl true) (fun _ _ => True) ∧ H' r = some (.lst (Es.map fun e => V.ref e.2.1)) ∧ ef.map (·.1) = (L.take i).filter (St (es.map (·.1)) f) ∧ ea.length ≤ i ∧ ∀ k, k ∈ ea.map (·.1) ↔ Fa (es.map (·.1)) f (L.take i) k)
      ⟨none, none, none, none, [], [], rfl, b1, er, rfl, Nat.le_refl _, fun k => ⟨(fun h => nomatch h), fun h => absurd h Fa.nil⟩⟩ ?_ ?_ ?_
    · rintro i σ H' _ ⟨_, _, _, _, _, _, _, _, er, _⟩
      exact SqL.of er
    · rintro i x σ H3 hx ⟨y3, y4, y5, y6, ef, ea, rfl, b, er, kF, lA, kA⟩
      obtain ⟨e, ge, rfl⟩ := map_get hx
      have he := eP e (List.mem_of_getElem? ge)
      have gk : L[i]? = some e.1 := by rw [← eK, List.getElem?_map, ge]; rfl
      have hst := st_at hp hd hv gk
      have etk : L.take (i + 1) = L.take i ++ [e.1] := by rw [List.take_add_one, gk]; rfl
      have hi : i < es.length := by
        have := (List.getElem?_eq_some_iff.mp ge).1
        omega
      have lF : ef.length ≤ i := by
        have := congrArg List.length kF
        rw [List.length_map] at this
        rw [this]
        exact Nat.le_trans (List.length_filter_le _ _) (by rw [List.length_take]; omega)
      have hR3 := hR.fm (Same.fm b.sm)
      have hke := hR3.ky e he
      have nF0 : e.1 ∉ ef.map (·.1) := fun z => by
        rw [kF] at z
        exact get_not_take (hp.nodup_iff.mpr hR.nd) gk (List.mem_filter.mp z).1
      refine ⟨e.2.1, _, rfl, SqT.of hke, rfl, _, _, rfl, _, _, rfl, rfl, _, rfl, _, rfl, by show 2 ≤ sizeLine; omega, fun t nt => ?_⟩
      have s4 := same_new (o := .tup [.str (hdS e.1.1), .int (e.1.2 : Int)]) nt
      have b4 := b.same s4
      have k4 : KeyO (upd H3 t (.tup [.str (hdS e.1.1), .int (e.1.2 : Int)])) t e.1 := upd_same
      have er4 := s4 _ _ er
      refine ⟨_, rfl, A, t, ea, e.1, rfl, rfl, .inl b4.hA, b4.kA, dp_K k4, _, rfl, ?_⟩
      generalize upd H3 t (.tup [.str (hdS e.1.1), .int (e.1.2 : Int)]) = H4 at b4 k4 er4
      by_cases hin : e.1 ∈ ea.map (·.1)
      · rw [is_yes hin]
        have hSt : St (es.map (·.1)) f e.1 = false := Bool.eq_false_iff.mpr fun z => hst.mp z ((kA _).mp hin)
        refine iteF ⟨_, _, _, _, ef, ea, rfl, b4, er4, ?_, by omega, fun k => ?_⟩
        · rw [etk, List.filter_append, kF]
          simp [hSt]
        · rw [etk, fa_snoc, kA, hSt]
          simp
      rw [is_no hin]
      have hSt : St (es.map (·.1)) f e.1 = true := hst.mpr fun z => hin ((kA _).mpr z)
      refine iteT ⟨_, rfl, _, rfl, _, rfl, by show 2 ≤ sizeLine; omega, fun t2 nt2 => ?_⟩
      have s5 := same_new (o := .tup [.str (hdS e.1.1), .int (e.1.2 : Int)]) nt2
      have b5 := b4.same s5
      have k5 : KeyO (upd H4 t2 (.tup [.str (hdS e.1.1), .int (e.1.2 : Int)])) t2 e.1 := upd_same
      have er5 := s5 _ _ er4
      refine ⟨F, t2, ef, e.1, rfl, rfl, b5.hF, b5.kF, dp_K k5, by omega, ?_⟩
      generalize upd H4 t2 (.tup [.str (hdS e.1.1), .int (e.1.2 : Int)]) = H5 at b5 k5 er5
      have b6 := b5.putF (v := .bl true) k5 rfl
      have er6 : (upd H5 F (dNO ktK P w F (GX.dSt ef e.1 t2 (.bl true)))) r = some (.lst (Es.map fun e => V.ref e.2.1)) := (upd_ne fun z => by rw [z, b5.hF] at er5; cases er5).trans er5
      generalize upd H5 F (dNO ktK P w F (GX.dSt ef e.1 t2 (.bl true))) = H6 at b6 er6
      have kF6 : (GX.dSt ef e.1 t2 (.bl true)).map (·.1) = (L.take (i + 1)).filter (St (es.map (·.1)) f) := by
        rw [dst_add, addK_new nF0, etk, List.filter_append, kF]
        simp [hSt]
      generalize GX.dSt ef e.1 t2 (.bl true) = ef6 at b6 kF6
      refine ⟨_, rfl, _, rfl, _, rfl, by show 2 ≤ sizeLine; omega, fun t3 nt3 => ?_⟩
      have s7 := same_new (o := .tup [.str (hdS e.1.1), .int (e.1.2 : Int)]) nt3
      have b7 := b6.same s7
      have k7 : KeyO (upd H6 t3 (.tup [.str (hdS e.1.1), .int (e.1.2 : Int)])) t3 e.1 := upd_same
      have er7 := s7 _ _ er6
      have hR7 := hR.fm (Same.fm b7.sm)
      obtain ⟨e2, g1, g2, g3⟩ := find_of (List.mem_map.mpr ⟨e, he, rfl⟩ : e.1 ∈ es.map (·.1))
      obtain rfl : e2 = e := nd_inj hR.nd g2 he g3
      have hw := hR7.vl e2 g2
      refine ⟨a, t3, es, e2.1, e2, rfl, rfl, hR7.rd, hR7.keys, dp_K k7, g1, ?_⟩
      generalize upd H6 t3 (.tup [.str (hdS e2.1.1), .int (e2.1.2 : Int)]) = H7 at b7 k7 er7 hw
      cases hfe : f e2.1 with
      | inr p =>
        obtain ⟨bb, ii⟩ := p
        rw [hfe] at hw
        obtain ⟨va, iv, ev, hva, _⟩ := hw
        rw [ev]
        refine ⟨va, _, rfl, SqT.of hva, rfl, _, _, rfl, _, _, rfl, rfl, _, rfl, rfl, _, rfl, ite2 (fun z => absurd (V.str.inj (of_decide_eq_true z)) (wd_no bb)) (fun _ => ⟨_, _, _, _, ef6, ea, rfl, b7, er7, kF6, by omega, fun k => ?_⟩)⟩
        rw [etk, fa_snoc, kA, hfe]
        simp
      | inl n =>
        rw [hfe] at hw
        obtain ⟨va, ev, hva⟩ := hw
        rw [ev]
        refine ⟨va, _, rfl, SqT.of hva, rfl, _, _, rfl, _, _, rfl, rfl, _, rfl, rfl, _, rfl, ite2 (fun _ => ?_) (fun z => absurd (decide_eq_true rfl) z)⟩
        refine ⟨_, rfl, _, rfl, _, rfl, by show 2 ≤ sizeLine; omega, fun t4 nt4 => ?_⟩
        have s8 := same_new (o := .tup [.str (hdS e2.1.1), .int (n : Int)]) nt4
        have b8 := b7.same s8
        have k8 : KeyO (upd H7 t4 (.tup [.str (hdS e2.1.1), .int (n : Int)])) t4 (e2.1.1, n) := upd_same
        have er8 := s8 _ _ er7
        have b9 := b8.putA (v := .bl true) k8 trivial
        refine ⟨A, t4, ea, (e2.1.1, n), rfl, rfl, b8.hA, b8.kA, dp_K k8, by omega, _, _, _, _, ef6, _, rfl, b9, (upd_ne fun z => by rw [z, b8.hA] at er8; cases er8).trans er8, kF6, Nat.le_trans dst_len (by omega), fun k => ?_⟩
        rw [etk, fa_snoc, dst_add, mem_addK, kA, hfe, hSt]
        constructor
        · rintro (z | z)
          · exact .inl z
          · exact .inr ⟨rfl, by rw [z], by rw [z]⟩
        · rintro (z | ⟨_, z1, z2⟩)
          · exact .inl z
          · exact .inr (Prod.ext z2.symm (Sum.inl.inj z1).symm)
    · rintro σ H3 ⟨y3, y4, y5, y6, ef, ea, rfl, b, er, kF, lA, kA⟩
      refine ⟨_, rfl, q H3 F ef b.sm nF b.hF b.kf ?_⟩
      rw [kF, List.length_map, eL, ← (by rw [← eK, List.length_map, eL] : L.length = es.length), List.take_length]
      exact hp.filter _
end
end K20
namespace K20
open PySem PySem.Spec PyProof.Rows L2 TL TR QR
open GX (dNO)
open PySem.W (AllAlike Sortable)
abbrev sSd (i : Nat) : Stmt := inClass (topS 19) i
abbrev sSI : Stmt := sSd 0
abbrev nSI : List Str := ["self", "records", "hand", "number", "key"]
theorem scSI : FnScope nSI ["self", "records"] (defScope sSI) := ⟨rfl, rfl, rfl, by decide +kernel, rfl, by decide +kernel, by decide +kernel⟩
def EX (x : Addr) (H H' : Hp) : Prop := ∀ b o, b ≠ x → H b = some o → H' b = some o
theorem EX.trans {x : Addr} {H H1 H2 : Hp} (a : EX x H H1) (b : EX x H1 H2) : EX x H H2 := fun y o n h => b y o n (a y o n h)
theorem EX.same {x : Addr} {H H1 : Hp} (s : Same H H1) : EX x H H1 := fun y o _ h => s y o h
theorem EX.upd {x : Addr} {H : Hp} {o : HO} : EX x H (upd H x o) := fun y o' n h => (upd_ne n).trans h
theorem fld_seq {K : PySem.W.Frag} {ta tv : TE} {f : Str} {t : L2.TS} {D : Ends} {σ : L2.St} {H : Hp} (h : tv σ H fun y H1 => ta σ H1 fun x H2 => ∃ a C dx fs, x = .ref a ∧ H2 a = some (.ins C dx fs) ∧ Cls K C ∧ NoAttr K C f ∧ fs.length < 1000 ∧ t D σ (upd H2 a (.ins C dx (putF f y fs)))) : tSeq (sFld K ta tv f) t D σ H := h
def soF (ar an : Addr) : List (Str × V) := putF "numbers" (.ref an) (putF "records" (.ref ar) [])
theorem so_records {ar an : Addr} : (soF ar an).lookup ("records" : Str) = some (.ref ar) := by
  unfold soF
  rw [lookup_putF, if_neg (by decide +kernel), lookup_putF, if_pos rfl]
theorem so_numbers {ar an : Addr} : (soF ar an).lookup ("numbers" : Str) = some (.ref an) := by
  unfold soF
  rw [lookup_putF, if_pos rfl]
theorem so_least {ar an : Addr} : (soF ar an).lookup ("least_numbers" : Str) = none := by
  unfold soF
  rw [lookup_putF, if_neg (by decide +kernel), lookup_putF, if_neg (by decide +kernel)]
  rfl
structure TxtS (K : PySem.W.Frag) (mg : Str → Option Value) (C : Addr) : Prop where
  cl : Cls K C
  n1 : NoAttr K C "records"
  n2 : NoAttr K C "numbers"
  mg : mg "Said" = some (.ref C)
/-- hands with numbers -/
def numK (ks : List Key) : List (L2.Key × V) := ks.map fun k => (.inr (hdS k.1), .int (k.2 : Int))
theorem inr_hd (i j : _root_.Fin 4) : decide ((Sum.inr (hdS i) : L2.Key) = .inr (hdS j)) = decide (i = j) :=
  decide_eq_decide.mpr ⟨fun z => hd_inj _ _ (Sum.inr.inj z), fun z => by rw [z]⟩
theorem val_num (h : _root_.Fin 4) : ∀ ks : List Key, valV (numK ks) (.inr (hdS h)) = (ks.find? fun k => decide (k.1 = h)).map fun k => V.int (k.2 : Int)
  | [] => rfl
  | k :: ks => by
    have ih := val_num h ks
    unfold valV numK at ih ⊢
    rw [List.map_cons, List.find?_cons, List.find?_cons, inr_hd]
    by_cases e : k.1 = h
    · rw [decide_eq_true e]
      rfl
    · rw [decide_eq_false e]
      exact ih
theorem put_num {ks : List Key} {k : Key} (h : ks.any (fun x => decide (x.1 = k.1)) = false) : putK (numK ks) (.inr (hdS k.1)) (.int (k.2 : Int)) = numK (ks ++ [k]) := by
  unfold putK numK
  have e : ((ks.map fun k => ((Sum.inr (hdS k.1) : L2.Key), V.int (k.2 : Int))).any fun kv => decide (kv.1 = .inr (hdS k.1))) = false := by
    rw [List.any_map, ← h]
    refine any_congr fun x _ => ?_
    exact inr_hd _ _
  rw [e, if_neg (by decide), List.map_append]
  rfl
theorem num_none {ks : List Key} {h : _root_.Fin 4} : valV (numK ks) (.inr (hdS h)) = none ↔ ks.any (fun x => decide (x.1 = h)) = false := by
  rw [val_num, Option.map_eq_none_iff, List.find?_eq_none, List.any_eq_false]
/-- the filter of one more -/
def byW (f : Key → What) (l : List Key) (x : What) : List Key := l.filter fun k => decide (f k = x)
theorem byW_snoc {f : Key → What} {l : List Key} {k : Key} {x : What} : byW f (l ++ [k]) x = if f k = x then byW f l x ++ [k] else byW f l x := by
  unfold byW
  rw [List.filter_append]
  by_cases h : f k = x
  · rw [if_pos h, List.filter_cons, if_pos (decide_eq_true h)]
    rfl
  · rw [if_neg h, List.filter_cons, if_neg (by rw [decide_eq_false h]; decide)]
    simp
section
variable {P : Program} {w : World} {K : PySem.W.Frag} {H0 H H' : Hp} {an q d b : Addr} {l : List Key} {f : Key → What} {en : List (What × Addr × V)} {x : What} {k : Key}
structure NumP (P : Program) (w : World) (H0 H : Hp) (an : Addr) (l : List Key) (f : Key → What) (en : List (What × Addr × V)) : Prop where
  hd : H an = some (dNO ktW P w an en)
  nb : H0 an = none
  ky : ∀ e ∈ en, WhatAt H (.ref e.2.1) e.1
  vl : ∀ e ∈ en, ∃ q, e.2.2 = .ref q ∧ H0 q = none ∧ H q = some (.dK (numK (firsts (byW f l e.1))))
  inj : ∀ e ∈ en, ∀ e' ∈ en, e.2.2 = e'.2.2 → e.1 = e'.1
  nd : (en.map (·.1)).Nodup
theorem NumP.keys (h : NumP P w H0 H an l f en) : GX.KeysAt ktW K H en := fun e he => dp_W (h.ky e he)
theorem NumP.same (h : NumP P w H0 H an l f en) (s : Same H H') : NumP P w H0 H' an l f en :=
  ⟨s _ _ h.hd, h.nb, fun e he => (h.ky e he).fm (Same.fm s), fun e he => by
    obtain ⟨q, a, b, c⟩ := h.vl e he
    exact ⟨q, a, b, s _ _ c⟩, h.inj, h.nd⟩
theorem WhatAt.uts {g : Heap → Prop} {o : HO} {a : Addr} {v : V} (h : WhatAt H v x) (ha : H a = some (.ext g)) : WhatAt (upd H a o) v x := h.ts (ts_ext ha)
/-- a new word, with an empty dict -/
theorem NumP.add (h : NumP P w H0 H an l f en) (hb : WhatAt H (.ref b) x) (nd : H d = none) (nd0 : H0 d = none) (nx : byW f l x = []) (nk : x ∉ en.map (·.1)) :
    NumP P w H0 (upd (upd H d (.dK [])) an (dNO ktW P w an (en ++ [(x, b, .ref d)]))) an l f (en ++ [(x, b, .ref d)]) := by
  have s1 := same_new (o := .dK []) nd
  have h1 := h.same s1
  have hb1 := hb.fm (Same.fm s1)
  have ed : upd H d (.dK []) d = some (.dK []) := upd_same
  have old : ∀ e ∈ en, e.2.2 ≠ .ref d := fun e he z => by
    obtain ⟨q, a, _, c⟩ := h.vl e he
    rw [a] at z
    cases z
    rw [nd] at c
    cases c
  generalize upd H d (.dK []) = H1 at h1 hb1 ed
  refine ⟨upd_same, h.nb, fun e he => ?_, fun e he => ?_, fun e he e' he' z => ?_, ?_⟩
  · rcases List.mem_append.mp he with he | he
    · exact (h1.ky e he).uts h1.hd
    · rw [List.mem_singleton.mp he]
      exact hb1.uts h1.hd
  · rcases List.mem_append.mp he with he | he
    · obtain ⟨q, a, b', c⟩ := h1.vl e he
      exact ⟨q, a, b', (upd_ne fun z => by rw [z, h1.hd] at c; cases c).trans c⟩
    · rw [List.mem_singleton.mp he]
      exact ⟨d, rfl, nd0, (upd_ne fun z => by rw [z, h1.hd] at ed; cases ed).trans (by rw [nx]; exact ed)⟩
  · rcases List.mem_append.mp he with he | he
    · rcases List.mem_append.mp he' with he' | he'
      · exact h.inj e he e' he' z
      · rw [List.mem_singleton.mp he'] at z
        exact absurd z (old e he)
    · rcases List.mem_append.mp he' with he' | he'
      · rw [List.mem_singleton.mp he] at z
        exact absurd z.symm (old e' he')
      · rw [List.mem_singleton.mp he, List.mem_singleton.mp he']
  · rw [List.map_append, List.nodup_append]
    exact ⟨h.nd, (by simp : [x].Nodup), fun y hy z hz e => nk (by rw [List.map_cons, List.map_nil, List.mem_singleton] at hz; have hz : z = x := hz; rw [← hz, ← e]; exact hy)⟩
/-- one more who says what e says -/
theorem NumP.put (h : NumP P w H0 H an l f en) {e : What × Addr × V} (he : e ∈ en) (eq : e.2.2 = .ref q) (hf : f k = e.1) (nk : (firsts (byW f l e.1)).any (fun x => decide (x.1 = k.1)) = false) :
    NumP P w H0 (upd H q (.dK (numK (firsts (byW f l e.1) ++ [k])))) an (l ++ [k]) f en := by
  obtain ⟨q', a, nq, c⟩ := h.vl e he
  rw [eq] at a
  cases a
  have tq : TS H (upd H q (.dK (numK (firsts (byW f l e.1) ++ [k])))) := fun b xs z => by
    rw [upd_ne fun y => by rw [y, c] at z; cases z]
    exact z
  refine ⟨(upd_ne fun z => by rw [← z, h.hd] at c; cases c).trans h.hd, h.nb, fun e he => (h.ky e he).ts tq, fun e' he' => ?_, h.inj, h.nd⟩
  obtain ⟨q2, a2, n2, c2⟩ := h.vl e' he'
  by_cases z : q2 = q
  · subst z
    have ee := h.inj e he e' he' (by rw [eq, a2])
    refine ⟨q2, a2, n2, ?_⟩
    rw [upd_same, ← ee, byW_snoc, if_pos hf, firsts_snoc, if_neg (by rw [nk]; decide)]
  · refine ⟨q2, a2, n2, (upd_ne z).trans ?_⟩
    have ne : ¬ f k = e'.1 := fun y => z (by
      obtain rfl : e = e' := nd_inj h.nd he he' (hf.symm.trans y)
      rw [eq] at a2
      exact (V.ref.inj a2).symm)
    rw [byW_snoc, if_neg ne]
    exact c2
/-- one who has said it before -/
theorem NumP.skip (h : NumP P w H0 H an l f en) (nk : (firsts (byW f l (f k))).any (fun x => decide (x.1 = k.1)) = true) : NumP P w H0 H an (l ++ [k]) f en :=
  ⟨h.hd, h.nb, h.ky, fun e he => by
    obtain ⟨q, a, n, c⟩ := h.vl e he
    refine ⟨q, a, n, ?_⟩
    rw [byW_snoc]
    by_cases z : f k = e.1
    · rw [if_pos z, firsts_snoc, if_pos (by rw [← z]; exact nk)]
      exact c
    · rw [if_neg z]
      exact c, h.inj, h.nd⟩
theorem what_ref {v : V} : ∀ {x : What}, WhatAt H v x → ∃ a, v = .ref a
  | .inl _, ⟨a, e, _⟩ => ⟨a, e⟩
  | .inr (_, _), ⟨a, _, e, _⟩ => ⟨a, e⟩
theorem NumP.oth (h : NumP P w H0 H an l f en) {D : Addr} {u o : HO} (hD : H D = some u) (n1 : ∀ xs, u ≠ .tup xs) (n2 : ∀ kv, u ≠ .dK kv) (ne : D ≠ an) : NumP P w H0 (upd H D o) an l f en :=
  ⟨(upd_ne (Ne.symm ne)).trans h.hd, h.nb, fun e he => (h.ky e he).ts fun b xs z => (upd_ne fun y => by rw [y, hD] at z; exact n1 _ (Option.some.inj z)).trans z, fun e he => by
    obtain ⟨q, a, b, c⟩ := h.vl e he
    exact ⟨q, a, b, (upd_ne fun y => by rw [y, hD] at c; exact n2 _ (Option.some.inj c)).trans c⟩, h.inj, h.nd⟩
theorem ts_oth {D : Addr} {u o : HO} (hD : H D = some u) (n1 : ∀ xs, u ≠ .tup xs) : K20.TS H (upd H D o) := fun b xs z => (upd_ne fun y => by rw [y, hD] at z; exact n1 _ (Option.some.inj z)).trans z
theorem ex_none {x a : Addr} {o : HO} (ex : EX x H H') (hx : H' x = some o) (n : H' a = none) : H a = none := by
  cases e : H a with
  | none => rfl
  | some u =>
    have : a ≠ x := fun z => by rw [z, hx] at n; cases n
    rw [ex a u this e] at n
    cases n
end
section
variable {P : Program} {w : World} {K : PySem.W.Frag} {mg : Str → Option Value} {base : Heap} {CS : Addr}
/-- the standing keys in their order -/
def stL (ks : List Key) (f : Key → What) : List Key := (sortL ks).filter (St ks f)
def spSI (P : Program) (w : World) (K : PySem.W.Frag) (CS : Addr) : Sp := fun vs H Q _ => ∃ (x a dx : Addr) (es : List (Key × Addr × V)) (f : Key → What), vs = [.ref x, .ref a] ∧ H x = some (.ins CS dx []) ∧ RecAt P w H a es f ∧ es.length ≤ 1000 ∧ Valid (es.map (·.1)) f ∧
  ∀ H' ar an en, EX x H H' → H' x = some (.ins CS dx (soF ar an)) → NumP P w H H' an (stL (es.map (·.1)) f) f en → (∀ x, x ∈ en.map (·.1) ↔ ∃ k ∈ stL (es.map (·.1)) f, f k = x) → Q .non H'
theorem ok_SI {f fSR : Addr} {fd fdSR : FuncData} (F : Fun K "__init__" "Said.__init__" sSI f fd) (TS : TxtS K mg CS)
    (GSR : FnOk P w K mg base CX0 1 fSR fdSR ["records"] (spSR P w K)) (bSR : Binds K fdSR ["records"] []) (gSR : mg "standing_records" = some (.ref fSR)) (kSR : PySem.W.keepIn K (.ref fSR) = true)
    (m_sorted : mg "sorted" = none) : FnOk P w K mg base CX0 2 f fd ["self", "records"] (spSI P w K CS) := by
  refine F.ok scSI (fun vs H Q E h => ?_) (fun cdv A outer s H vs Q E hr h => ?_)
  · obtain ⟨x, a, dx, es, f, rfl, _⟩ := h
    rfl
  · obtain ⟨x, a, dx, es, f, rfl, hx, hR, hl, hv, q⟩ := h
    have hu := hr.units
    have hu1 := hu_of hr
    have hr1 : Room 1 _ := hr.mono (by decide)
    have zl := zl
    refine ⟨_, (pss_cons (ps_fld (pv 0) (GX.pe_dg (o0 := fun D => GX.dNO ktK P w D []) (put := GX.putN ktK P w K) (own := [("key", 4)]) (g := gName 4) (tt := tYes) (tk := tVar 4) (tv := tOp (GX.rIxN ktK P w K) (tVar 1) (tVar 4)) (fun H h hb => GX.dg_empty H h hb) rfl scSI.nd (pi_list (pe_callB (GX.cr_sortedN (T := ktK) rfl hu) (by rfl) m_sorted (by decide +kernel) (pa_cons (pe_call GSR hr1 (by rfl) gSR kSR bSR .nil pass0 (pa_cons (pv 1) pa_nil)) pa_nil))) (blkOk_by (N := nSI) (sc := defScope sSI) (by decide +kernel)) (fun _ _ _ _ _ => by exact pg_name (i := 4) scSI.nd rfl (.inl rfl)) (fun _ _ _ _ _ => pts_nil) (fun _ _ _ _ _ => by exact pv 4) (fun _ _ _ _ _ => by exact pe_ix (GX.ix_N (T := ktK) hu) (pv 1) (pv 4) (fun _ _ => rfl)) (fun _ _ _ _ _ => GX.putR_N hu)) rfl)
      (pss_cons (ps_fld (pv 0) ((GX.pe_dnewN (T := ktW))) rfl)
      (pss_one (ps_lock (ps_for PassesOwn.never rfl (GX.pi_keysN (T := ktK) (pe_fld (pv 0) rfl)) (pg_tup (by rfl) (pgs_cons (pg_name (i := 2) scSI.nd rfl (.inl rfl)) (pgs_cons (pg_name (i := 3) scSI.nd rfl (.inl rfl)) pgs_nil)))
      (pss_one (ps_expr (pe_dsetd (GX.pe_bmN (T := ktW) PySem.F.plainAttrs_dict PySem.F.slot_dict_setdefault PySem.F.type_dict_setdefault (GX.mt_setdefN (T := ktW) hu) (pe_fld (pv 0) rfl) (pa_cons (pe_ix (GX.ix_N (T := ktK) hu) (pe_fld (pv 0) rfl) (pe_tup (pa_cons (pv 2) (pa_cons (pv 3) pa_nil))) (fun _ _ => rfl)) (pa_cons pe_dnewK pa_nil))) (pv 2) (pv 3) ⟨rfl, rfl, rfl, rfl⟩)))))))), ?_⟩
    dsimp only [cxOf]
    refine fld_seq ?_
    obtain ⟨al, so⟩ := (⟨fun es => (able_K (fun e : Key × Addr × V => e.1) es).1, fun es => (able_K (fun e : Key × Addr × V => e.1) es).2⟩ : (∀ es : List (Key × Addr × V), AllAlike (es.map fun e => encK e.1)) ∧ ∀ es : List (Key × Addr × V), Sortable (es.map fun e => encK e.1))
    refine ⟨_, rfl, a, es, f, rfl, hR, hl, hv, fun H1 p es1 s1 np hp k1 pm => ⟨p, es1, rfl, .inl hp, fun e he => dp_K (k1 e he).1, al es1, so es1, fun p2 np2 => ⟨p2, rfl, ⟨_, SqL.of upd_same⟩, fun D nD => ?_⟩⟩⟩
    have pK : ((GX.sortN ktK es1).map (·.1)) = stL (es.map (·.1)) f := by
      rw [sortN_keys, stL, ← sortL_filter]
      exact sortL_of ((sortL_perm _).trans pm) (sortL_pw _)
    have s2 : Same H (upd H1 p2 (.lst ((GX.sortN ktK es1).map fun e => V.ref e.2.1))) := same_trans s1 (same_new np2)
    have kS : ∀ e ∈ GX.sortN ktK es1, KeyO H1 e.2.1 e.1 := fun e he => (k1 e (List.mem_mergeSort.mp he)).1
    have kS2 : ∀ e ∈ GX.sortN ktK es1, KeyO (upd H1 p2 (.lst ((GX.sortN ktK es1).map fun e => V.ref e.2.1))) e.2.1 e.1 := fun e he => (kS e he).fm (Same.fm (same_new np2))
    have ep : upd H1 p2 (.lst ((GX.sortN ktK es1).map fun e => V.ref e.2.1)) p2 = some (.lst ((GX.sortN ktK es1).map fun e => V.ref e.2.1)) := upd_same
    generalize upd H1 p2 (.lst ((GX.sortN ktK es1).map fun e => V.ref e.2.1)) = H2 at s2 kS2 ep nD
    generalize GX.sortN ktK es1 = Es at pK kS kS2 ep
    have hR2 := hR.fm (Same.fm s2)
    have lE : Es.length ≤ es.length := by
      have h1 := congrArg List.length pK
      rw [List.length_map] at h1
      rw [h1, stL]
      refine Nat.le_trans (List.length_filter_le _ _) ?_
      rw [(sortL_perm _).length_eq, List.length_map]
      exact Nat.le_refl _
    have ndE : (Es.map (·.1)).Nodup := by
      rw [pK, stL]
      exact ((sortL_perm _).nodup_iff.mpr hR.nd).filter _
    have inE : ∀ e ∈ Es, e.1 ∈ es.map (·.1) := fun e he => by
      have : e.1 ∈ Es.map (·.1) := List.mem_map.mpr ⟨e, he, rfl⟩
      rw [pK, stL] at this
      exact (sortL_perm _).mem_iff.mp (List.mem_filter.mp this).1
    refine GX.dg_it (o0 := fun D => dNO ktK P w D []) (put := GX.putN ktK P w K) (walk_list (K := K) (a := p2) (xs := Es.map fun e => V.ref e.2.1)) (fun m H' => Same H2 H' ∧ ∃ es', H' D = some (dNO ktK P w D es') ∧ (∀ e' ∈ es', KeyO H' e'.2.1 e'.1) ∧ es'.map (·.1) = (Es.take m).map (·.1) ∧ ∀ e' ∈ es', WhatAt H' e'.2.2 (f e'.1))
      ⟨same_new nD, [], upd_same, (fun _ h => nomatch h), rfl, (fun _ h => nomatch h)⟩ ?_ ?_ ?_
    · rintro m H' _ ⟨s, _⟩
      exact SqL.of (s _ _ ep)
    · rintro m y H0 H3 hm ⟨s, es', eD, ka, kk, vv⟩ ⟨rfl, hy⟩
      obtain ⟨e, he, rfl⟩ := map_get hy
      have hem := List.mem_of_getElem? he
      have hke : KeyO H3 e.2.1 e.1 := (kS2 e hem).fm (Same.fm s)
      have hR3 := hR2.fm (Same.fm s)
      obtain ⟨e2, g1, g2, g3⟩ := find_of (inE e hem)
      have hve : WhatAt H3 e2.2.2 (f e.1) := by
        have := hR3.vl e2 g2
        rwa [g3] at this
      refine ⟨rfl, _, rfl, _, rfl, _, rfl, a, e.2.1, es, e.1, e2, rfl, rfl, hR3.rd, hR3.keys, dp_K hke, g1, ?_⟩
      have nk : e.1 ∉ es'.map (·.1) := fun h => nd_take ndE he (by rw [kk] at h; exact h)
      have le : es'.length ≤ Es.length := by
        have := congrArg List.length kk
        rw [List.length_map, List.length_map, List.length_take] at this
        omega
      have tD := ts_ext (o := dNO ktK P w D (GX.dSt es' e.1 e.2.1 e2.2.2)) eD
      refine ⟨es', e.1, e.2.1, rfl, eD, fun e he => dp_K (ka e he), dp_K hke, by omega, same_upd nD s, _, upd_same, fun e' he' => ?_, ?_, fun e' he' => ?_⟩
      · rcases dst_mem he' with ⟨h1, h2, h3 | ⟨x, hx, h4, h5⟩⟩ | ⟨h1, h2⟩
        · rw [h1, h3]
          exact hke.ts tD
        · have := (ka x hx).ts tD
          rw [h4, h5] at this
          rw [h1]
          exact this
        · exact (ka e' h1).ts tD
      · rw [dst_keys, if_neg nk, kk, List.take_add_one, he, List.map_append]
        rfl
      · rcases dst_mem he' with ⟨h1, h2, _⟩ | ⟨h1, h2⟩
        · rw [h1, h2]
          exact hve.ts tD
        · exact (vv e' h1).ts tD
    · rintro H3 ⟨s, es', eD, ka, kk, vv⟩
      rw [List.length_map, List.take_length, pK] at kk
      have s3 := same_trans s2 s
      refine ⟨_, rfl, x, CS, dx, [], rfl, s3 _ _ hx, TS.cl, TS.n1, by show 0 < 1000; decide, ?_⟩
      have nD0 := same_none s2 nD
      have nDx : D ≠ x := fun e => by rw [e, hx] at nD0; cases nD0
      have x1 : EX x H (upd H3 x (.ins CS dx (putF "records" (.ref D) []))) := (EX.same s3).trans EX.upd
      have t1 : K20.TS H3 (upd H3 x (.ins CS dx (putF "records" (.ref D) []))) := fun b xs e => (upd_ne fun z => by rw [z, s3 _ _ hx] at e; cases e).trans e
      have hx1 : upd H3 x (.ins CS dx (putF "records" (.ref D) [])) x = some (.ins CS dx (putF "records" (.ref D) [])) := upd_same
      have eD1 : upd H3 x (.ins CS dx (putF "records" (.ref D) [])) D = some (dNO ktK P w D es') := (upd_ne nDx).trans eD
      have ka1 : ∀ e' ∈ es', KeyO (upd H3 x (.ins CS dx (putF "records" (.ref D) []))) e'.2.1 e'.1 := fun e he => (ka e he).ts t1
      have vv1 : ∀ e' ∈ es', WhatAt (upd H3 x (.ins CS dx (putF "records" (.ref D) []))) e'.2.2 (f e'.1) := fun e he => (vv e he).ts t1
      show tSeq _ _ _ _ (upd H3 x (.ins CS dx (putF "records" (.ref D) [])))
      generalize upd H3 x (.ins CS dx (putF "records" (.ref D) [])) = H4 at x1 hx1 eD1 ka1 vv1
      clear ka vv eD t1 s s3
      refine fld_seq (fun an nan => ⟨_, rfl, x, CS, dx, _, rfl, (same_new nan) _ _ hx1, TS.cl, TS.n2, by show 1 < 1000; decide, ?_⟩)
      have nan0 := ex_none x1 hx1 nan
      have anx : an ≠ x := fun e => by rw [e, hx1] at nan; cases nan
      have Dan : D ≠ an := fun e => by rw [← e, eD1] at nan; cases nan
      have nDx' : D ≠ x := nDx
      have ea : upd H4 an (dNO ktW P w an []) an = some (dNO ktW P w an []) := upd_same
      have exA : EX x H (upd H4 an (dNO ktW P w an [])) := x1.trans (EX.same (same_new nan))
      have hxA : upd H4 an (dNO ktW P w an []) x = some (.ins CS dx (putF "records" (.ref D) [])) := (same_new nan) _ _ hx1
      have eDA : upd H4 an (dNO ktW P w an []) D = some (dNO ktK P w D es') := (same_new nan) _ _ eD1
      have kaA : ∀ e' ∈ es', KeyO (upd H4 an (dNO ktW P w an [])) e'.2.1 e'.1 := fun e he => (ka1 e he).fm (Same.fm (same_new nan))
      have vvA : ∀ e' ∈ es', WhatAt (upd H4 an (dNO ktW P w an [])) e'.2.2 (f e'.1) := fun e he => (vv1 e he).fm (Same.fm (same_new nan))
      generalize upd H4 an (dNO ktW P w an []) = H5 at ea exA hxA eDA kaA vvA
      have tI : K20.TS H5 (upd H5 x (.ins CS dx (putF "numbers" (.ref an) (putF "records" (.ref D) [])))) := ts_oth hxA fun _ z => nomatch z
      have hx6 : upd H5 x (.ins CS dx (putF "numbers" (.ref an) (putF "records" (.ref D) []))) x = some (.ins CS dx (soF D an)) := upd_same
      have ex6 : EX x H (upd H5 x (.ins CS dx (putF "numbers" (.ref an) (putF "records" (.ref D) [])))) := exA.trans EX.upd
      have ea6 := (upd_ne (o := .ins CS dx (putF "numbers" (.ref an) (putF "records" (.ref D) []))) anx).trans ea
      have eD6 := (upd_ne (o := .ins CS dx (putF "numbers" (.ref an) (putF "records" (.ref D) []))) nDx).trans eDA
      have ka6 : ∀ e' ∈ es', KeyO (upd H5 x (.ins CS dx (putF "numbers" (.ref an) (putF "records" (.ref D) [])))) e'.2.1 e'.1 := fun e he => (kaA e he).ts tI
      have vv6 : ∀ e' ∈ es', WhatAt (upd H5 x (.ins CS dx (putF "numbers" (.ref an) (putF "records" (.ref D) [])))) e'.2.2 (f e'.1) := fun e he => (vvA e he).ts tI
      generalize upd H5 x (.ins CS dx (putF "numbers" (.ref an) (putF "records" (.ref D) []))) = H6 at hx6 ex6 ea6 eD6 ka6 vv6
      clear tI ea exA hxA eDA kaA vvA nan x1 hx1 eD1 ka1 vv1
      have b6 : NumP P w H H6 an [] f [] := ⟨ea6, nan0, (fun _ h => nomatch h), (fun _ h => nomatch h), (fun _ h => nomatch h), List.nodup_nil⟩
      refine ⟨D, _, eD6, trivial, fun od => ?_⟩
      have fL : Fm H6 (upd H6 D (.frz od (dNO ktK P w D es'))) := Fm.lock eD6
      have b7 := b6.oth (o := .frz od (dNO ktK P w D es')) eD6 (fun _ z => nomatch z) (fun _ z => nomatch z) Dan
      have hx7 := (upd_ne (o := .frz od (dNO ktK P w D es')) (Ne.symm nDx)).trans hx6
      have eD7 : upd H6 D (.frz od (dNO ktK P w D es')) D = some (.frz od (dNO ktK P w D es')) := upd_same
      have ka7 : ∀ e' ∈ es', KeyO (upd H6 D (.frz od (dNO ktK P w D es'))) e'.2.1 e'.1 := fun e he => (ka6 e he).fm fL
      have vv7 : ∀ e' ∈ es', WhatAt (upd H6 D (.frz od (dNO ktK P w D es'))) e'.2.2 (f e'.1) := fun e he => (vv6 e he).fm fL
      have ex7 : ∀ b o, b ≠ x → b ≠ D → H b = some o → upd H6 D (.frz od (dNO ktK P w D es')) b = some o := fun b o n1 n2 e => (upd_ne n2).trans (ex6 b o n1 e)
      generalize upd H6 D (.frz od (dNO ktK P w D es')) = H7 at b7 hx7 eD7 ka7 vv7 ex7
      clear b6 fL ka6 vv6 hx6 ea6
      have lE' : es'.length ≤ 1000 := by
        have h1 := congrArg List.length kk
        have h2 := congrArg List.length pK
        rw [List.length_map] at h1 h2
        omega
      refine ⟨_, rfl, x, CS, dx, _, _, rfl, hx7, TS.cl, TS.n1, so_records, D, od, es', rfl, eD7, ?_⟩
      refine for_it (GX.walk_N (T := ktK) (P := P) (w := w)) (fun i σ H' => ∃ (y2 y3 : Option V) (en : List (What × Addr × V)), σ = [some (.ref x), some (.ref a), y2, y3, none] ∧ H' x = some (.ins CS dx (soF D an)) ∧ H' D = some (.frz od (dNO ktK P w D es')) ∧ (∀ e' ∈ es', KeyO H' e'.2.1 e'.1) ∧ (∀ e' ∈ es', WhatAt H' e'.2.2 (f e'.1)) ∧
          (∀ b o, b ≠ x → b ≠ D → H b = some o → H' b = some o) ∧ NumP P w H H' an ((es'.take i).map (·.1)) f en ∧ ∀ x, x ∈ en.map (·.1) ↔ ∃ k ∈ (es'.take i).map (·.1), f k = x)
        ⟨none, none, [], rfl, hx7, eD7, ka7, vv7, ex7, b7, fun x => ⟨(fun h => nomatch h), fun ⟨_, h, _⟩ => nomatch h⟩⟩ ?_ ?_ ?_
      · rintro i σ H8 _ ⟨_, _, _, _, _, h, _⟩
        exact h
      · rintro i y σ H80 H8 hi ⟨y2, y3, en, rfl, hx8, eD8, ka8, vv8, ex8, b8, m8⟩ ⟨rfl, e, he, rfl⟩
        have hem := List.mem_of_getElem? he
        have hke := ka8 e hem
        refine ⟨e.2.1, _, rfl, SqT.of hke, rfl, _, _, rfl, _, _, rfl, rfl, ?_⟩
        have etk : (es'.take (i + 1)).map (·.1) = (es'.take i).map (·.1) ++ [e.1] := by rw [List.take_add_one, he, List.map_append]; rfl
        rw [etk]
        have lk : ((es'.take i).map (·.1)).length ≤ 1000 := by
          rw [List.length_map, List.length_take]
          omega
        generalize (es'.take i).map (·.1) = L at b8 m8 lk
        have ln : en.length ≤ 1000 := by
          have := nodup_len (m := L.map f) b8.nd fun y hy => by
            obtain ⟨k, h1, h2⟩ := (m8 y).mp hy
            exact List.mem_map.mpr ⟨k, h1, h2⟩
          rw [List.length_map, List.length_map] at this
          omega
        have fin : ∀ (Nx : Hp → Prop) (H11 : Hp) (en2 : List (What × Addr × V)) (e3 : What × Addr × V) (q : Addr), NumP P w H H11 an L f en2 → e3 ∈ en2 → e3.2.2 = .ref q → e3.1 = f e.1 → (∀ y, y ∈ en2.map (·.1) ↔ y ∈ en.map (·.1) ∨ y = f e.1) →
            H11 x = some (.ins CS dx (soF D an)) → H11 D = some (.frz od (dNO ktK P w D es')) → (∀ e' ∈ es', KeyO H11 e'.2.1 e'.1) → (∀ e' ∈ es', WhatAt H11 e'.2.2 (f e'.1)) → (∀ b o, b ≠ x → b ≠ D → H b = some o → H11 b = some o) →
            (∀ H', H' x = some (.ins CS dx (soF D an)) → H' D = some (.frz od (dNO ktK P w D es')) → (∀ e' ∈ es', KeyO H' e'.2.1 e'.1) → (∀ e' ∈ es', WhatAt H' e'.2.2 (f e'.1)) → (∀ b o, b ≠ x → b ≠ D → H b = some o → H' b = some o) → NumP P w H H' an (L ++ [e.1]) f en2 → (∀ x, x ∈ en2.map (·.1) ↔ ∃ k ∈ L ++ [e.1], f k = x) → Nx H') →
            ∃ a', V.ref q = V.ref a' ∧ IsD H11 a' ∧ ∃ v2, ([some (.ref x), some (.ref a), some (.str (hdS e.1.1)), some (.int (e.1.2 : Int)), none] : L2.St)[2]? = some (some v2) ∧ ∃ v3, ([some (.ref x), some (.ref a), some (.str (hdS e.1.1)), some (.int (e.1.2 : Int)), none] : L2.St)[3]? = some (some v3) ∧
              ∃ kvs k, H11 a' = some (.dK kvs) ∧ v2 = kV k ∧ kvs.length < sizeLine ∧ (∀ v, valV kvs k = some v → Nx H11) ∧ (valV kvs k = none → Nx (upd H11 a' (.dK (putK kvs k v3)))) := by
          intro Nx H11 en2 e3 q b11 h3 eq ek m11 hx11 eD11 ka11 vv11 ex11 hN
          obtain ⟨q', a1, n1, c1⟩ := b11.vl e3 h3
          rw [eq] at a1
          cases a1
          have m12 : ∀ x, x ∈ en2.map (·.1) ↔ ∃ k ∈ L ++ [e.1], f k = x := fun y => by
            rw [m11, m8]
            constructor
            · rintro (⟨k, h1, h2⟩ | h)
              · exact ⟨k, List.mem_append_left _ h1, h2⟩
              · exact ⟨e.1, List.mem_append_right _ List.mem_cons_self, h.symm⟩
            · rintro ⟨k, h1, h2⟩
              rcases List.mem_append.mp h1 with h1 | h1
              · exact .inl ⟨k, h1, h2⟩
              · rw [List.mem_singleton.mp h1] at h2
                exact .inr h2.symm
          have lf := firsts_len (byW f L e3.1)
          refine ⟨q, rfl, .inl ⟨_, .inl c1⟩, _, rfl, _, rfl, _, .inr (hdS e.1.1), c1, rfl, by unfold numK; rw [List.length_map]; omega, fun v hv => ?_, fun hv => ?_⟩
          · have na : (firsts (byW f L (f e.1))).any (fun x => decide (x.1 = e.1.1)) = true := by
              rw [← ek]
              cases z : (firsts (byW f L e3.1)).any (fun x => decide (x.1 = e.1.1)) with
              | true => rfl
              | false =>
                rw [num_none.mpr z] at hv
                cases hv
            exact hN H11 hx11 eD11 ka11 vv11 ex11 (b11.skip na) m12
          · have na := num_none.mp hv
            rw [put_num na]
            have b12 := b11.put (k := e.1) h3 eq ek.symm na
            have tq := ts_oth (o := .dK (numK (firsts (byW f L e3.1) ++ [e.1]))) c1 fun _ z => nomatch z
            refine hN _ ((upd_ne fun z => by rw [← z, hx11] at c1; cases c1).trans hx11) ((upd_ne fun z => by rw [← z, eD11] at c1; cases c1).trans eD11) (fun e he => (ka11 e he).ts tq) (fun e he => (vv11 e he).ts tq) (fun b o n1' n2' z => ?_) b12 m12
            rw [upd_ne fun y => by rw [y, n1] at z; cases z]
            exact ex11 b o n1' n2' z
        have hve := vv8 e hem
        obtain ⟨va, eva⟩ := what_ref hve
        rw [eva] at hve
        have hf1 : (es'.find? fun e' => decide (e'.1 = e.1)) = some e := by
          obtain ⟨e2, g1, g2, g3⟩ := find_of (List.mem_map.mpr ⟨e, hem, rfl⟩ : e.1 ∈ es'.map (·.1))
          obtain rfl : e2 = e := nd_inj (by rw [kk, ← pK]; exact ndE) g2 hem g3
          exact g1
        refine ⟨_, rfl, x, CS, dx, _, _, rfl, hx8, TS.cl, TS.n2, so_numbers, ⟨an, en, rfl, .inl b8.hd⟩, _, rfl, x, CS, dx, _, _, rfl, hx8, TS.cl, TS.n1, so_records, _, rfl, _, rfl, by show 2 ≤ sizeLine; omega, fun t nt => ?_⟩
        have s9 := same_new (o := .tup [.str (hdS e.1.1), .int (e.1.2 : Int)]) nt
        have k9 : KeyO (upd H8 t (.tup [.str (hdS e.1.1), .int (e.1.2 : Int)])) t e.1 := upd_same
        refine ⟨D, t, es', e.1, e, rfl, rfl, .inr ⟨od, s9 _ _ eD8⟩, fun e he => dp_K ((ka8 e he).fm (Same.fm s9)), dp_K k9, hf1, fun d nd => ?_⟩
        rw [eva]
        have b9 := b8.same s9
        have hw9 := hve.fm (Same.fm s9)
        have ex9 : ∀ b o, b ≠ x → b ≠ D → H b = some o → upd H8 t (.tup [.str (hdS e.1.1), .int (e.1.2 : Int)]) b = some o := fun b o n1 n2 z => s9 _ _ (ex8 b o n1 n2 z)
        have hx9 := s9 _ _ hx8
        have eD9 := s9 _ _ eD8
        have ka9 : ∀ e' ∈ es', KeyO (upd H8 t (.tup [.str (hdS e.1.1), .int (e.1.2 : Int)])) e'.2.1 e'.1 := fun e he => (ka8 e he).fm (Same.fm s9)
        have vv9 : ∀ e' ∈ es', WhatAt (upd H8 t (.tup [.str (hdS e.1.1), .int (e.1.2 : Int)])) e'.2.2 (f e'.1) := fun e he => (vv8 e he).fm (Same.fm s9)
        generalize upd H8 t (.tup [.str (hdS e.1.1), .int (e.1.2 : Int)]) = H9 at b9 hw9 ex9 hx9 eD9 ka9 vv9 nd
        have s10 := same_new (o := .dK []) nd
        have nd0 : H d = none := by
          cases z : H d with
          | none => rfl
          | some o =>
            rw [ex9 d o (fun y => by rw [y, hx9] at nd; cases nd) (fun y => by rw [y, eD9] at nd; cases nd) z] at nd
            cases nd
        have b10 := b9.same s10
        refine ⟨an, va, en, f e.1, .ref d, rfl, rfl, b10.hd, b10.keys, dp_W (hw9.fm (Same.fm s10)), by omega, fun e3 h3 => ?_, fun h3 => ?_⟩
        · have g2 := List.mem_of_find?_eq_some h3
          have g3 : e3.1 = f e.1 := of_decide_eq_true (List.find?_some (p := fun x : What × Addr × V => decide (x.1 = f e.1)) h3)
          obtain ⟨q3, a3, _, _⟩ := b10.vl e3 g2
          rw [a3]
          refine fin _ _ en e3 q3 b10 g2 a3 g3 (fun y => ⟨.inl, fun z => z.elim id fun z => by rw [z, ← g3]; exact List.mem_map.mpr ⟨e3, g2, rfl⟩⟩) (s10 _ _ hx9) (s10 _ _ eD9) (fun e he => (ka9 e he).fm (Same.fm s10)) (fun e he => (vv9 e he).fm (Same.fm s10)) (fun b o n1 n2 z => s10 _ _ (ex9 b o n1 n2 z)) fun H' h1 h2 h3 h4 h5 h6 h7 => ⟨_, _, en, rfl, h1, h2, h3, h4, h5, h6, h7⟩
        · have nk : f e.1 ∉ en.map (·.1) := fun z => by
            obtain ⟨e4, g1, _⟩ := find_of z
            rw [h3] at g1
            cases g1
          have nb : byW f L (f e.1) = [] := by
            unfold byW
            rw [List.filter_eq_nil_iff]
            exact fun k hk z => nk ((m8 _).mpr ⟨k, hk, of_decide_eq_true z⟩)
          have b11 := b9.add hw9 nd nd0 nb nk
          have ta := ts_ext (o := dNO ktW P w an (en ++ [(f e.1, va, .ref d)])) b10.hd
          have ne : ∀ b u, upd H9 d (.dK []) b = some u → (∀ g, u ≠ .ext g) → upd (upd H9 d (.dK [])) an (dNO ktW P w an (en ++ [(f e.1, va, .ref d)])) b = some u := fun b u z n => (upd_ne fun y => by rw [y, b10.hd] at z; exact n _ (Option.some.inj z).symm).trans z
          refine fin _ _ _ (f e.1, va, .ref d) d b11 (List.mem_append_right _ List.mem_cons_self) rfl rfl (fun y => by rw [List.map_append, List.mem_append, List.map_cons, List.map_nil, List.mem_singleton]) (ne _ _ (s10 _ _ hx9) fun _ z => nomatch z) (ne _ _ (s10 _ _ eD9) fun _ z => nomatch z) (fun e he => ((ka9 e he).fm (Same.fm s10)).ts ta) (fun e he => ((vv9 e he).fm (Same.fm s10)).ts ta) (fun b o n1 n2 z => ?_)
            fun H' h1 h2 h3 h4 h5 h6 h7 => ⟨_, _, _, rfl, h1, h2, h3, h4, h5, h6, h7⟩
          rw [upd_ne fun y => by rw [y, b8.nb] at z; cases z]
          exact s10 _ _ (ex9 b o n1 n2 z)
      · rintro σ H8 ⟨y2, y3, en, rfl, hx8, eD8, ka8, vv8, ex8, b8, m8⟩
        rw [List.take_length, kk] at b8 m8
        refine ⟨eD8, q _ D an en (fun b o n1 z => ?_) ((upd_ne (Ne.symm nDx)).trans hx8) (b8.oth eD8 (fun _ z => nomatch z) (fun _ z => nomatch z) Dan) m8⟩
        have n2 : b ≠ D := fun y => by rw [y, nD0] at z; cases z
        rw [upd_ne n2]
        exact ex8 b o n1 n2 z
end
end K20
namespace K20
open PySem PySem.Spec PyProof.Rows L2 TL TR QR
open GX (dNO)
open PySem.W (AllAlike Sortable EachIs)
abbrev sLN : Stmt := sSd 1
abbrev nLN : List Str := ["self", "name", "word"]
theorem scLN : FnScope nLN ["self", "name", "word"] (defScope sLN) := ⟨rfl, rfl, rfl, by decide +kernel, rfl, by decide +kernel, by decide +kernel⟩
abbrev sSO : Stmt := topS 20
abbrev nSO : List Str := ["records", "name", "word", "least", "hand"]
theorem scSO : FnScope nSO ["records", "name", "word"] (defScope sSO) := ⟨rfl, rfl, rfl, by decide +kernel, rfl, by decide +kernel, by decide +kernel⟩
/-- a list of keys at p -/
def LsK (H : Hp) (p : Addr) (S : List Key) : Prop := ∃ ts : List Addr, H p = some (.lst (ts.map V.ref)) ∧ EachIs (fun t k => KeyO H t k) ts S
theorem each_imp {α β : Type} {R R' : α → β → Prop} (h : ∀ a b, R a b → R' a b) : ∀ {as : List α} {bs : List β}, EachIs R as bs → EachIs R' as bs
  | _, _, .nil => .nil
  | _, _, .cons a b => .cons (h _ _ a) (each_imp h b)
theorem each_snoc' {α β : Type} {R : α → β → Prop} {a : α} {b : β} (h : R a b) : ∀ {as : List α} {bs : List β}, EachIs R as bs → EachIs R (as ++ [a]) (bs ++ [b])
  | _, _, .nil => .cons h .nil
  | _, _, .cons x r => .cons x (each_snoc' h r)
theorem each_len {α β : Type} {R : α → β → Prop} : ∀ {as : List α} {bs : List β}, EachIs R as bs → as.length = bs.length
  | _, _, .nil => rfl
  | _, _, .cons _ r => by rw [List.length_cons, List.length_cons, each_len r]
theorem LsK.fm {H H' : Hp} {p : Addr} {S : List Key} (s : Fm H H') (hp : ∀ o, H p = some (.lst o) → H' p = some (.lst o)) (h : LsK H p S) : LsK H' p S := by
  obtain ⟨ts, e, r⟩ := h
  exact ⟨ts, hp _ e, each_imp (fun _ _ h => KeyO.fm s h) r⟩
theorem dp_Ls {K : PySem.W.Frag} {H : Hp} : ∀ {ts : List Addr} {S : List Key}, EachIs (fun t k => KeyO H t k) ts S → DpAll K H (ts.map V.ref) (S.map encK)
  | _, _, .nil => .nil
  | _, _, .cons h r => .cons (dp_K h) (dp_Ls r)
theorem LsK.dp {K : PySem.W.Frag} {H : Hp} {p : Addr} {S : List Key} (h : LsK H p S) : Dp K H (.ref p) (.list (S.map encK)) := by
  obtain ⟨ts, e, r⟩ := h
  exact .lst (SqL.of e) (dp_Ls r)
/-- texts of hands, sorted -/
theorem hands_of : ∀ {ys : List Str} {zs : List (_root_.Fin 4)}, (∀ y ∈ ys, ∃ z ∈ zs, y = hdS z) → ∃ ws : List (_root_.Fin 4), ys = ws.map hdS
  | [], _, _ => ⟨[], rfl⟩
  | y :: ys, zs, h => by
    obtain ⟨z, _, e⟩ := h y List.mem_cons_self
    obtain ⟨ws, e2⟩ := hands_of (ys := ys) (zs := zs) fun y hy => h y (List.mem_cons_of_mem _ hy)
    exact ⟨z :: ws, by rw [List.map_cons, ← e, ← e2]⟩
def unH (s : Str) : _root_.Fin 4 := if s = "ann" then 0 else if s = "bob" then 1 else if s = "cy" then 2 else 3
theorem un_hd : ∀ i : _root_.Fin 4, unH (hdS i) = i := by decide +kernel
theorem un_map (ws : List (_root_.Fin 4)) : (ws.map hdS).map unH = ws := by
  rw [List.map_map]
  conv => rhs; rw [← List.map_id ws]
  exact List.map_congr_left fun i _ => un_hd i
theorem perm_hands {ws zs : List (_root_.Fin 4)} (h : (ws.map hdS).Perm (zs.map hdS)) : ws.Perm zs := by
  have := h.map unH
  rwa [un_map, un_map] at this
theorem rising_le : ∀ (x : _root_.Fin 4) (ws : List (_root_.Fin 4)), PyProof.Rows.risingS (hdS x) (ws.map hdS) = true → (∀ y ∈ ws, x.1 ≤ y.1) ∧ ws.Pairwise fun a b => a.1 ≤ b.1
  | _, [], _ => ⟨(fun _ h => nomatch h), .nil⟩
  | x, y :: ws, h => by
    rw [List.map_cons, PyProof.Rows.risingS, Bool.and_eq_true] at h
    obtain ⟨h1, h2⟩ := rising_le y ws h.2
    have h0 : x.1 ≤ y.1 := (by decide +kernel : ∀ i j : _root_.Fin 4, (!ltCps (hdS j).cps.toList (hdS i).cps.toList) = true → i.1 ≤ j.1) x y h.1
    refine ⟨fun z hz => ?_, .cons h1 h2⟩
    rcases List.mem_cons.mp hz with rfl | hz
    · exact h0
    · exact Nat.le_trans h0 (h1 z hz)
/-- the hands of keys in their order -/
theorem sorted_hands {ys : List Str} {S : List Key} (hp : ys.Perm (S.map fun k => hdS k.1)) (hs : PyProof.Rows.sortedS ys = true) (ha : S.Pairwise fun a b => a.1.1 < b.1.1) : ys = S.map fun k => hdS k.1 := by
  have e1 : (S.map fun k => hdS k.1) = (S.map (·.1)).map hdS := by rw [List.map_map]; rfl
  rw [e1] at hp ⊢
  obtain ⟨ws, rfl⟩ := hands_of (ys := ys) (zs := S.map (·.1)) fun y hy => by
    obtain ⟨z, hz, e⟩ := List.mem_map.mp (hp.mem_iff.mp hy)
    exact ⟨z, hz, e.symm⟩
  have pw := perm_hands hp
  have hw : ws.Pairwise fun a b => a.1 ≤ b.1 := by
    cases ws with
    | nil => exact .nil
    | cons w0 ws =>
      have := rising_le w0 ws hs
      exact .cons this.1 this.2
  have hz : (S.map (·.1)).Pairwise fun a b => a.1 ≤ b.1 := by
    rw [List.pairwise_map]
    exact ha.imp fun h => Nat.le_of_lt h
  rw [List.Perm.eq_of_pairwise (le := fun a b : _root_.Fin 4 => a.1 ≤ b.1) (fun a b _ _ h1 h2 => Fin.ext (Nat.le_antisymm h1 h2)) hw hz pw]
theorem key_inj : ∀ {S : List Key} {a b : Key}, (S.map (·.1)).Nodup → a ∈ S → b ∈ S → a.1 = b.1 → a = b
  | x :: es, a, b, nd, ha, hb, h => by
    rw [List.map_cons, List.nodup_cons] at nd
    rcases List.mem_cons.mp ha with ha | ha <;> rcases List.mem_cons.mp hb with hb | hb
    · rw [ha, hb]
    · exact absurd (List.mem_map.mpr ⟨b, hb, by rw [← h, ha]⟩) nd.1
    · exact absurd (List.mem_map.mpr ⟨a, ha, by rw [h, hb]⟩) nd.1
    · exact key_inj nd.2 ha hb h
section
variable {P : Program} {w : World} {K : PySem.W.Frag} {mg : Str → Option Value} {base : Heap} {CS : Addr}
def spLN (P : Program) (w : World) (K : PySem.W.Frag) (CS : Addr) : Sp := fun vs H Q _ => ∃ (x ar an dx : Addr) (nv : V) (i : _root_.Fin 6) (b : Bool) (H0 : Hp) (l : List Key) (f : Key → What) (en : List (What × Addr × V)), vs = [.ref x, nv, .str (wdS b)] ∧ H x = some (.ins CS dx (soF ar an)) ∧ NmAt H nv (nmOf i) ∧
  NumP P w H0 H an l f en ∧ (∀ x, x ∈ en.map (·.1) ↔ ∃ k ∈ l, f k = x) ∧ ∀ H' q, Same H H' → H' q = some (.dK (numK (firsts (byW f l (.inr (b, i)))))) → Q (.ref q) H'
theorem ok_LN {f : Addr} {fd : FuncData} (F : Fun K "least_numbers" "Said.least_numbers" sLN f fd) (TS : TxtS K mg CS) : FnOk P w K mg base CX0 1 f fd ["self", "name", "word"] (spLN P w K CS) := by
  refine F.ok scLN (fun vs H Q E h => ?_) (fun cdv A outer s H vs Q E hr h => ?_)
  · obtain ⟨x, ar, an, dx, nv, i, b, H0, l, f, en, rfl, _⟩ := h
    rfl
  · obtain ⟨x, ar, an, dx, nv, i, b, H0, l, f, en, rfl, hx, hn, hN, hm, q⟩ := h
    have hu := hr.units
    have hu1 := hu_of hr
    have zl := zl
    refine ⟨_, (pss_one (ps_ret (GX.pe_bmN (T := ktW) PySem.F.plainAttrs_dict PySem.F.slot_dict_get PySem.F.type_dict_get (GX.mt_getN (T := ktW) hu) (pe_fld (pv 0) rfl) (pa_cons (pe_tup (pa_cons (pv 2) (pa_cons (pv 1) pa_nil))) (pa_cons pe_dnewK pa_nil))))), ?_⟩
    dsimp only [cxOf]
    refine ⟨_, rfl, x, CS, dx, _, _, rfl, hx, TS.cl, TS.n2, so_numbers, ⟨an, en, rfl, .inl hN.hd⟩, _, rfl, _, rfl, by show 2 ≤ sizeLine; omega, fun t nt d nd => ?_⟩
    have s1 := same_new (o := .tup [.str (wdS b), nv]) nt
    have s2 := same_new (o := .dK []) nd
    have s3 := same_trans s1 s2
    have hN3 := hN.same s3
    have hw : WhatAt (upd (upd H t (.tup [.str (wdS b), nv])) d (.dK [])) (.ref t) (.inr (b, i)) := ⟨t, nv, rfl, s2 _ _ upd_same, hn.ts (Same.ts s3)⟩
    have ed : upd (upd H t (.tup [.str (wdS b), nv])) d (.dK []) d = some (.dK []) := upd_same
    refine ⟨an, t, en, .inr (b, i), .ref d, rfl, rfl, .inl hN3.hd, hN3.keys, dp_W hw, ?_⟩
    generalize upd (upd H t (.tup [.str (wdS b), nv])) d (.dK []) = H3 at s3 hN3 ed
    by_cases hin : (.inr (b, i) : What) ∈ en.map (·.1)
    · obtain ⟨e, g1, g2, g3⟩ := find_of hin
      rw [g1]
      obtain ⟨q', a1, _, c1⟩ := hN3.vl e g2
      show Q e.2.2 H3
      rw [a1]
      rw [g3] at c1
      exact q H3 q' s3 c1
    · rw [find_no hin]
      have nb : byW f l (.inr (b, i)) = [] := by
        unfold byW
        rw [List.filter_eq_nil_iff]
        exact fun k hk z => hin ((hm _).mpr ⟨k, hk, of_decide_eq_true z⟩)
      exact q H3 d s3 (by rw [nb]; exact ed)
def spSO (P : Program) (w : World) (K : PySem.W.Frag) (CS : Addr) : Sp := fun vs H Q _ => ∃ (a : Addr) (nv : V) (es : List (Key × Addr × V)) (f : Key → What) (i : _root_.Fin 6) (b : Bool), vs = [.ref a, nv, .str (wdS b)] ∧ RecAt P w H a es f ∧ es.length ≤ 1000 ∧ Valid (es.map (·.1)) f ∧ NmAt H nv (nmOf i) ∧
  ∀ H' p, Same H H' → LsK H' p (saidL (es.map (·.1)) f (.inr (b, i))) → Q (.ref p) H'
theorem said_eq (ks : List Key) (f : Key → What) (x : What) : firsts (byW f (stL ks f) x) = saidL ks f x := by
  unfold byW stL saidL
  rw [List.filter_filter]
  congr 1
  exact List.filter_congr fun k _ => Bool.and_comm _ _
theorem ok_SO {f fSI fLN : Addr} {fd fdSI fdLN : FuncData} (F : Fun K "said_of" "said_of" sSO f fd) (TS : TxtS K mg CS) (MkS : Mk K CS fSI)
    (GSI : FnOk P w K mg base CX0 2 fSI fdSI ["self", "records"] (spSI P w K CS)) (bSI : Binds K fdSI ["self", "records"] [])
    (MLN : Meth K CS "least_numbers" fLN) (GLN : FnOk P w K mg base CX0 1 fLN fdLN ["self", "name", "word"] (spLN P w K CS)) (bLN : Binds K fdLN ["self", "name", "word"] [])
    (m_sorted : mg "sorted" = none) : FnOk P w K mg base CX0 4 f fd ["records", "name", "word"] (spSO P w K CS) := by
  refine F.ok scSO (fun vs H Q E h => ?_) (fun cdv A outer s H vs Q E hr h => ?_)
  · obtain ⟨a, nv, es, f, i, b, rfl, _⟩ := h
    rfl
  · obtain ⟨a, nv, es, f, i, b, rfl, hR, hl, hv, hn, q⟩ := h
    have hu := hr.units
    have hu1 := hu_of hr
    have hr1 : Room 1 _ := hr.mono (by decide)
    have hr2 : Room 2 _ := hr.mono (by decide)
    have hr3 : Room 3 _ := hr.mono (by decide)
    have zl := zl
    refine ⟨_, (pss_cons (ps_set (i := 3) scSO.nd rfl (.inr rfl) (pe_meth (pe_make MkS GSI hr3 rfl TS.mg bSI .nil pass0 (pa_cons (pv 0) pa_nil)) TS.cl MLN GLN hr1 bLN .nil pass0 (pa_cons (pv 1) (pa_cons (pv 2) pa_nil))))
      (pss_one (ps_ret (pe_lc (own := [("hand", 4)]) (g := gName 4) (tt := tYes) (te := tTup (tCons (tVar 4) (tCons (tDGet (tVar 3) (tVar 4)) tNil))) rfl scSO.nd (pi_list (pe_callB (call_sortedD rfl) (by rfl) m_sorted (by decide +kernel) (pa_cons (pv 3) pa_nil))) (blkOk_by (N := nSO) (sc := defScope sSO) (by decide +kernel)) (fun _ _ _ _ _ => by exact pg_name (i := 4) scSO.nd rfl (.inl rfl)) (fun _ _ _ _ _ => pts_nil) (fun _ _ _ _ _ => by exact pe_tup (pa_cons (pv 4) (pa_cons (pe_dget hu1 (pv 3) (pv 4) (fun _ _ => rfl)) pa_nil))))))), ?_⟩
    dsimp only [tNext, tSeq, tIfS, tAsg, gName, tC, cxOf]
    have zl2 := zl
    refine ⟨_, rfl, fun x dx nx ndx ne => ?_⟩
    have s1 : Same H (upd (upd H dx (.own x)) x (.ins CS dx [])) := fun b o e => by
      rw [upd_ne (ne_of_none e nx), upd_ne (ne_of_none e ndx)]
      exact e
    have hx1 : upd (upd H dx (.own x)) x (.ins CS dx []) x = some (.ins CS dx []) := upd_same
    generalize upd (upd H dx (.own x)) x (.ins CS dx []) = H1 at s1 hx1
    refine ⟨x, a, dx, es, f, rfl, hx1, hR.fm (Same.fm s1), hl, hv, fun H2 ar an en ex hx2 hN hm => ⟨rfl, x, dx, _, rfl, hx2, so_least, ?_⟩⟩
    have s2 : Same H H2 := fun b o e => ex b o (ne_of_none e nx) (s1 _ _ e)
    refine ⟨_, rfl, _, rfl, x, ar, an, dx, nv, i, b, H1, _, f, en, rfl, hx2, hn.ts (Same.ts s2), hN, hm, fun H3 q3 s3 e3 => ?_⟩
    rw [said_eq] at e3
    have ha := firsts_asc ((sortL (es.map (·.1))).filter fun k => St (es.map (·.1)) f k && decide (f k = (.inr (b, i) : What))) ((sortL_pw _).filter _)
    have hl4 := firsts_len ((sortL (es.map (·.1))).filter fun k => St (es.map (·.1)) f k && decide (f k = (.inr (b, i) : What)))
    have hnd := firsts_nd ((sortL (es.map (·.1))).filter fun k => St (es.map (·.1)) f k && decide (f k = (.inr (b, i) : What)))
    change (saidL (es.map (·.1)) f (.inr (b, i))).Pairwise _ at ha
    change (saidL (es.map (·.1)) f (.inr (b, i))).length ≤ 4 at hl4
    change ((saidL (es.map (·.1)) f (.inr (b, i))).map _).Nodup at hnd
    generalize saidL (es.map (·.1)) f (.inr (b, i)) = S at q e3 ha hl4 hnd
    refine ⟨_, rfl, q3, numK S, S.map (fun k => hdS k.1), rfl, .inl e3, by unfold numK; rw [List.map_map, List.map_map]; rfl, by rw [List.length_map]; omega, fun ys p hp hs np => ?_⟩
    have ey := sorted_hands hp hs ha
    subst ey
    rw [List.map_map]
    refine ⟨p, rfl, ⟨_, SqL.of upd_same⟩, fun D nD => ?_⟩
    have s4 : Same H3 (upd H3 p (.lst (S.map (V.str ∘ fun k => hdS k.1)))) := same_new np
    have ep : upd H3 p (.lst (S.map (V.str ∘ fun k => hdS k.1))) p = some (.lst (S.map (V.str ∘ fun k => hdS k.1))) := upd_same
    have e4 := s4 _ _ e3
    have s5 := same_trans (same_trans s2 s3) s4
    generalize upd H3 p (.lst (S.map (V.str ∘ fun k => hdS k.1))) = H4 at s4 ep e4 s5 nD
    refine lc_list (xs := S.map (V.str ∘ fun k => hdS k.1)) (fun m H' => Same H4 H' ∧ ∃ ts : List Addr, H' D = some (.lst (ts.map V.ref)) ∧ EachIs (fun t k => KeyO H' t k) ts (S.take m)) ⟨same_new nD, [], upd_same, .nil⟩ ?_ ?_ ?_
    · rintro m H' _ ⟨s, _⟩
      exact SqL.of (s _ _ ep)
    · rintro m y H' hy ⟨s, ts, eD, ea⟩
      obtain ⟨k, hk, rfl⟩ := map_get hy
      have hfk : (S.find? fun k' => decide (k'.1 = k.1)) = some k := by
        have hkm := List.mem_of_getElem? hk
        cases z : S.find? fun k' => decide (k'.1 = k.1) with
        | none =>
          rw [List.find?_eq_none] at z
          exact absurd (decide_eq_true rfl) (z k hkm)
        | some k' =>
          have h1 := List.mem_of_find?_eq_some z
          have h2 : k'.1 = k.1 := of_decide_eq_true (List.find?_some (p := fun k' : Key => decide (k'.1 = k.1)) z)
          rw [key_inj hnd h1 hkm h2]
      refine ⟨rfl, _, rfl, _, rfl, _, rfl, q3, .int (k.2 : Int), rfl, .inl ⟨numK S, .inr (hdS k.1), .inl (s _ _ e4), rfl, ?_⟩, by show 2 ≤ sizeLine; omega, fun t nt => ?_⟩
      · rw [val_num, hfk]
        rfl
      · have st := same_new (o := .tup [.str (hdS k.1), .int (k.2 : Int)]) nt
        have lts := each_len ea
        rw [List.length_take] at lts
        refine ⟨_, st _ _ eD, by rw [List.length_map]; omega, same_upd nD (same_trans s st), ts ++ [t], by rw [upd_same, List.map_append]; rfl, ?_⟩
        rw [List.take_add_one, hk]
        have tl := ts_oth (o := .lst (ts.map V.ref ++ [.ref t])) (st _ _ eD) fun _ z => nomatch z
        refine each_snoc' ?_ (each_imp (fun _ _ h => (KeyO.fm (Same.fm st) h).ts tl) ea)
        exact KeyO.ts tl (upd_same : KeyO (upd H' t (.tup [.str (hdS k.1), .int (k.2 : Int)])) t k)
    · rintro H' ⟨s, ts, eD, ea⟩
      rw [List.length_map, List.take_length] at ea
      exact q H' D (same_trans s5 s) ⟨ts, eD, ea⟩
end
end K20
namespace K20
open PySem PySem.Spec PyProof.Rows L2 TL TR QR
open GX (dNO LExt CNew Cds lamS)
open GxR (TabB TabG Tabbed)
open LamX (TabS CodeO)
abbrev sLS : Stmt := topS 29
abbrev nLS : List Str := ["records", "found", "taken", "hand", "number", "what"]
theorem scLS : FnScope nLS ["records"] (defScope sLS) := ⟨rfl, rfl, rfl, by decide +kernel, rfl, by decide +kernel, by decide +kernel⟩
def qLS : Str := (envOfC "_law_stands" (defScope sLS) 0 0 .none).qual ++ lamS
theorem LExt.trans {P : Addr} {H H1 H2 : Hp} (a : LExt P H H1) (b : LExt P H1 H2) : LExt P H H2 := fun x o n e => b x o n (a x o n e)
theorem LExt.same {P : Addr} {H H1 : Hp} (s : Same H H1) : LExt P H H1 := fun x o _ e => s x o e
theorem tabs_same {P : Addr} {q : Str} {H H' : Hp} (s : Same H H') (h : TabS H P q) : TabS H' P q := by
  obtain ⟨ps, a, b, c⟩ := h
  exact ⟨ps, s _ _ a, b, fun p v z => by
    obtain ⟨d, e, f⟩ := c p v z
    exact ⟨d, e, s _ _ f⟩⟩
theorem LExt.fm {P : Addr} {H H' : Hp} (h : ∃ ps, H P = some (.tbl ps)) (s : LExt P H H') : Fm H H' := fm_nt fun b o n _ e => s b o (fun z => by
  obtain ⟨ps, h⟩ := h
  rw [z, h] at e
  exact n ps (Option.some.inj e).symm) e
theorem le_num {β : Type} (g : β → Int) : (PySem.W.dataLe false fun b => PyData.int (g b)) = fun p q => decide (g p ≤ g q) := by
  funext p q
  rw [PySem.W.dataLe_eq]
  show (!PySem.W.dataLt (.int (g q)) (.int (g p))) = _
  rw [PySem.W.dataLt_int, ← decide_not]
  exact decide_eq_decide.mpr Int.not_lt
theorem sortK_keys (es : List (Key × Addr × V)) : ((GX.sortK (fun k : Key => (k.2 : Int)) es).map (·.1)).Pairwise fun a b => b.2 ≤ a.2 := by
  rw [List.pairwise_map]
  unfold GX.sortK
  rw [le_num (fun e : Key × Addr × V => 0 - (e.1.2 : Int))]
  refine (List.pairwise_mergeSort (le := fun p q : Key × Addr × V => decide (0 - (p.1.2 : Int) ≤ 0 - (q.1.2 : Int))) (fun a b c h1 h2 => ?_) (fun a b => ?_) es).imp fun {a b} h => ?_
  · have h1 := of_decide_eq_true h1
    have h2 := of_decide_eq_true h2
    exact decide_eq_true (by omega)
  · rw [Bool.or_eq_true, decide_eq_true_iff, decide_eq_true_iff]
    omega
  · have h := of_decide_eq_true h
    omega
theorem desc_of {l : List Key} (h : l.Pairwise fun a b => b.2 ≤ a.2) (nd : l.Nodup) : Desc l := by
  refine (h.and nd).imp fun {a b} h e => ?_
  have h4 : ¬ a.2 = b.2 := fun z => h.2 (Prod.ext e z)
  have := h.1
  omega
section
variable {P : Program} {w : World} {K : PySem.W.Frag} {mg : Str → Option Value} {base : Heap}
def spLS (P : Program) (w : World) (K : PySem.W.Frag) (T4 : Addr) : Sp := fun vs H Q _ => ∃ (a : Addr) (es : List (Key × Addr × V)) (f : Key → What), vs = [.ref a] ∧ RecAt P w H a es f ∧ es.length ≤ 1000 ∧ Valid (es.map (·.1)) f ∧ TabS H T4 qLS ∧
  ∀ H' p es', LExt T4 H H' → TabS H' T4 qLS → H p = none → H' p = some (dNO ktK P w p es') → (∀ e ∈ es', KeyO H' e.2.1 e.1 ∧ e.2.2 = .bl (St (es.map (·.1)) f e.1)) → (∀ k, k ∈ es'.map (·.1) ↔ k ∈ es.map (·.1)) → Q (.ref p) H'
theorem ok_LS {T4 c f : Addr} {oc kV doc pm ct : Value} {od an : Option Addr} {osl : Array (Option Value)} (lk : K.lookup f = some ⟨oc, od, .func (PySem.W.fnOf "_law_stands" "_law_stands" (defArgs sLS) (defBody sLS) (defScope sLS) .none kV doc pm an (.ref c) ct), osl⟩)
    (hcd : PySem.W.codeIn K (.ref c) "_law_stands" = true) (TB : TabB base mg c T4) (m_sorted : mg "sorted" = none) :
    FnOk P w K mg base CX0 2 f (PySem.W.fnOf "_law_stands" "_law_stands" (defArgs sLS) (defBody sLS) (defScope sLS) .none kV doc pm an (.ref c) ct) ["records"] (spLS P w K T4) := by
  refine fn_of lk hcd scLS (fun vs H Q E h => ?_) fun A outer s H vs Q E hr h => ?_
  · obtain ⟨a, es, f, rfl, _⟩ := h
    rfl
  · obtain ⟨a, es, f, rfl, hR, hl, hv, hT, q⟩ := h
    have hu := hr.units
    have hu1 := hu_of hr
    have zl := zl
    have hrX := hr
    refine ⟨_, PSs.nox ((pss_cons (ps_set (i := 1) scLS.nd rfl (.inl rfl) ((GX.pe_dnewN (T := ktK))))
      (pss_cons (ps_set (i := 2) scLS.nd rfl (.inl rfl) ((GX.pe_dnewN (T := ktK))))
      (pss_cons (ps_for PassesOwn.never rfl (pi_list (GX.pe_sortedLam (T := ktK) (num := fun k : Key => (k.2 : Int)) hrX rfl (by rfl) m_sorted TB rfl (pa_cons (pv 0) pa_nil))) (pg_tup (by rfl) (pgs_cons (pg_name (i := 3) scLS.nd rfl (.inl rfl)) (pgs_cons (pg_name (i := 4) scLS.nd rfl (.inl rfl)) pgs_nil)))
      (pss_cons (ps_asg (pe_cmpR (GX.op_notInN (T := ktK) hu) (pe_tup (pa_cons (pv 3) (pa_cons (pv 4) pa_nil))) (pv 2) (by rfl)) (pg_sub (pv 1) (pe_tup (pa_cons (pv 3) (pa_cons (pv 4) pa_nil))) (GX.set_N (T := ktK) hu)))
      (pss_cons (ps_set (i := 5) scLS.nd rfl (.inl rfl) (pe_ix (GX.ix_N (T := ktK) hu) (pv 0) (pe_tup (pa_cons (pv 3) (pa_cons (pv 4) pa_nil))) (fun _ _ => rfl)))
      (pss_one (ps_if (PW.pt (pw_and (pt_val (pe_ix (GX.ix_N (T := ktK) hu) (pv 1) (pe_tup (pa_cons (pv 3) (pa_cons (pv 4) pa_nil))) (fun _ _ => rfl))) (pw_and1 (pt_cmpR op_eq (pe_ix ix_tup (pv 5) (pe_int) (fun _ _ => rfl)) (pe_str) (nomark _)))))
      (pss_one (ps_asg (pe_bl) (pg_sub (pv 2) (pe_tup (pa_cons (pv 3) (pa_cons (pe_ix ix_tup (pv 5) (pe_int) (fun _ _ => rfl)) pa_nil))) (GX.set_N (T := ktK) hu)))) pss_nil)))))
      (pss_one (ps_ret (pv 1))))))), ?_⟩
    dsimp only [tNext, tSeq, tIfS, tAsg, gName, tC, cxOf]
    refine fun F nF A nA => ?_
    have sF := same_new (o := dNO ktK P w F []) nF
    have sA := same_new (o := dNO ktK P w A []) nA
    have nFA : F ≠ A := fun e => by rw [← e, upd_same] at nA; cases nA
    have nA0 : H A = none := same_none sF nA
    have s0 : Same H (upd (upd H F (dNO ktK P w F [])) A (dNO ktK P w A [])) := same_trans sF sA
    have eF1 : upd (upd H F (dNO ktK P w F [])) A (dNO ktK P w A []) F = some (dNO ktK P w F []) := (upd_ne nFA).trans upd_same
    have eA1 : upd (upd H F (dNO ktK P w F [])) A (dNO ktK P w A []) A = some (dNO ktK P w A []) := upd_same
    generalize upd (upd H F (dNO ktK P w F [])) A (dNO ktK P w A []) = H1 at s0 eF1 eA1
    have hR1 := hR.fm (Same.fm s0)
    have hT1 := tabs_same s0 hT
    refine ⟨_, rfl, a, es, rfl, hR1.rd, hR1.keys, fun e he => ⟨_, SqT.of (hR1.ky e he), rfl⟩, hT1, fun H2 p le2 hT2 cn np => ⟨p, rfl, ⟨_, SqL.of upd_same⟩, ?_⟩⟩
    -- the base of what is made here
    obtain ⟨ps1, hP1, _, hcd1⟩ := id hT1
    obtain ⟨ps0, hP0, _, hcd0⟩ := id hT
    have T4F : T4 ≠ F := fun e => by rw [← e, hP0] at nF; cases nF
    have T4A : T4 ≠ A := fun e => by rw [← e, hP0] at nA0; cases nA0
    have cOf : ∀ x, Cds H2 T4 x → x ≠ F ∧ x ≠ A := fun x hx => by
      rcases cn x hx with ⟨ps, pos, h1, h2⟩ | h
      · have : H T4 = some (.tbl ps) := by
          have := s0 _ _ hP0
          rw [h1] at this
          cases this
          exact hP0
        rw [hP0] at this
        cases this
        obtain ⟨c', e1, e2⟩ := hcd0 pos _ h2
        cases e1
        exact ⟨(fun z => by rw [z, nF] at e2; cases e2), (fun z => by rw [z, nA0] at e2; cases e2)⟩
      · exact ⟨(fun z => by rw [z, eF1] at h; cases h), (fun z => by rw [z, eA1] at h; cases h)⟩
    obtain ⟨HB, eB⟩ : ∃ HB : Hp, HB = fun b => if b = F ∨ b = A then none else H2 b := ⟨_, rfl⟩
    have hB : ∀ b, b ≠ F → b ≠ A → HB b = H2 b := fun b h1 h2 => by rw [eB]; exact if_neg fun z => z.elim h1 h2
    have bF : HB F = none := by rw [eB]; exact if_pos (.inl rfl)
    have bA : HB A = none := by rw [eB]; exact if_pos (.inr rfl)
    have sB : Same HB H2 := fun b o e => by
      have h1 : b ≠ F := fun z => by rw [z, bF] at e; cases e
      have h2 : b ≠ A := fun z => by rw [z, bA] at e; cases e
      rw [← hB b h1 h2]
      exact e
    have lB : LExt T4 H HB := fun b o n e => by
      rw [hB b (ne_of_none e nF) (ne_of_none e nA0)]
      exact le2 b o n (s0 _ _ e)
    have tB : TabS HB T4 qLS := by
      obtain ⟨ps, h1, h2, h3⟩ := hT2
      refine ⟨ps, (hB _ T4F T4A).trans h1, h2, fun pos cv hcv => ?_⟩
      obtain ⟨c', e1, e2⟩ := h3 pos cv hcv
      have := cOf c' ⟨ps, pos, h1, by rw [hcv, e1]⟩
      exact ⟨c', e1, (hB _ this.1 this.2).trans e2⟩
    have hRB := hR.fm (LExt.fm ⟨ps0, hP0⟩ lB)
    have eF2 := le2 _ _ T4F.symm eF1
    have eA2 := le2 _ _ T4A.symm eA1
    have eK := sortK_keys es
    have eP : ∀ e ∈ GX.sortK (fun k : Key => (k.2 : Int)) es, e ∈ es := fun e he => List.mem_mergeSort.mp he
    have eL : (GX.sortK (fun k : Key => (k.2 : Int)) es).length = es.length := List.length_mergeSort _
    have hp : ((GX.sortK (fun k : Key => (k.2 : Int)) es).map (·.1)).Perm (es.map (·.1)) := (List.mergeSort_perm _ _).map _
    have hd : Desc ((GX.sortK (fun k : Key => (k.2 : Int)) es).map (·.1)) := desc_of eK (hp.nodup_iff.mpr hR.nd)
    have b1 : SB P w HB (upd H2 p (.lst ((GX.sortK (fun k : Key => (k.2 : Int)) es).map fun e => V.ref e.2.1))) F A [] [] (fun k v => v = .bl (St (es.map (·.1)) f k)) (fun _ _ => True) :=
      ⟨same_trans sB (same_new np), bF, bA, nFA, same_new np _ _ eF2, same_new np _ _ eA2, (fun _ h => nomatch h), (fun _ h => nomatch h)⟩
    have er : upd H2 p (.lst ((GX.sortK (fun k : Key => (k.2 : Int)) es).map fun e => V.ref e.2.1)) p = some (.lst ((GX.sortK (fun k : Key => (k.2 : Int)) es).map fun e => V.ref e.2.1)) := upd_same
    generalize upd H2 p (.lst ((GX.sortK (fun k : Key => (k.2 : Int)) es).map fun e => V.ref e.2.1)) = H3 at b1 er
    generalize GX.sortK (fun k : Key => (k.2 : Int)) es = Es at er eK eP eL hp hd
    have eKL : Es.map (·.1) = Es.map (·.1) := rfl
    generalize hL : Es.map (·.1) = L at hp hd
    refine for_list (xs := Es.map fun e => V.ref e.2.1) (fun i σ H' => ∃ (y3 y4 y5 : Option V) (ef ea : List (Key × Addr × V)), σ = [some (.ref a), some (.ref F), some (.ref A), y3, y4, y5] ∧ SB P w HB H' F A ef ea (fun k v => v = .bl (St (es.map (·.1)) f k)) (fun _ _ => True) ∧ H' p = some (.lst (Es.map fun e => V.ref e.2.1)) ∧ ef.map (·.1) = L.take i ∧ ea.length ≤ i ∧ ∀ k, k ∈ ea.map (·.1) ↔ Fa (es.map (·.1)) f (L.take i) k)
      ⟨none, none, none, [], [], rfl, b1, er, rfl, Nat.le_refl _, fun k => ⟨(fun h => nomatch h), fun h => absurd h Fa.nil⟩⟩ ?_ ?_ ?_
    · rintro i σ H' _ ⟨_, _, _, _, _, _, _, er, _⟩
      exact SqL.of er
    · rintro i x σ H3 hx ⟨y3, y4, y5, ef, ea, rfl, b, er, kF, lA, kA⟩
      obtain ⟨e, ge, rfl⟩ := map_get hx
      have he := eP e (List.mem_of_getElem? ge)
      have gk : L[i]? = some e.1 := by rw [← hL, List.getElem?_map, ge]; rfl
      have hst := st_at hp hd hv gk
      have etk : L.take (i + 1) = L.take i ++ [e.1] := by rw [List.take_add_one, gk]; rfl
      have hi : i < es.length := by
        have := (List.getElem?_eq_some_iff.mp ge).1
        omega
      have lF : ef.length ≤ i := by
        have := congrArg List.length kF
        rw [List.length_map, List.length_take] at this
        omega
      have hR3 := hRB.fm (Same.fm b.sm)
      have hke := hR3.ky e he
      have nF0 : e.1 ∉ ef.map (·.1) := fun z => by
        rw [kF] at z
        exact get_not_take (hp.nodup_iff.mpr hR.nd) gk z
      refine ⟨e.2.1, _, rfl, SqT.of hke, rfl, _, _, rfl, _, _, rfl, rfl, _, rfl, _, rfl, by show 2 ≤ sizeLine; omega, fun t nt => ?_⟩
      have s4 := same_new (o := .tup [.str (hdS e.1.1), .int (e.1.2 : Int)]) nt
      have b4 := b.same s4
      have k4 : KeyO (upd H3 t (.tup [.str (hdS e.1.1), .int (e.1.2 : Int)])) t e.1 := upd_same
      have er4 := s4 _ _ er
      refine ⟨_, rfl, A, t, ea, e.1, rfl, rfl, .inl b4.hA, b4.kA, dp_K k4, ?_⟩
      generalize upd H3 t (.tup [.str (hdS e.1.1), .int (e.1.2 : Int)]) = H4 at b4 k4 er4
      have eb : (!(ea.find? fun e' => decide (e'.1 = e.1)).isSome) = St (es.map (·.1)) f e.1 := by
        by_cases hin : e.1 ∈ ea.map (·.1)
        · rw [is_yes hin]
          exact (Bool.eq_false_iff.mpr fun z => hst.mp z ((kA _).mp hin)).symm
        · rw [is_no hin]
          exact (hst.mpr fun z => hin ((kA _).mpr z)).symm
      rw [eb]
      refine ⟨_, rfl, _, rfl, _, rfl, by show 2 ≤ sizeLine; omega, fun t2 nt2 => ?_⟩
      have s5 := same_new (o := .tup [.str (hdS e.1.1), .int (e.1.2 : Int)]) nt2
      have b5 := b4.same s5
      have k5 : KeyO (upd H4 t2 (.tup [.str (hdS e.1.1), .int (e.1.2 : Int)])) t2 e.1 := upd_same
      have er5 := s5 _ _ er4
      refine ⟨F, t2, ef, e.1, rfl, rfl, b5.hF, b5.kF, dp_K k5, by omega, ?_⟩
      generalize upd H4 t2 (.tup [.str (hdS e.1.1), .int (e.1.2 : Int)]) = H5 at b5 k5 er5
      have b6 := b5.putF (v := .bl (St (es.map (·.1)) f e.1)) k5 rfl
      have er6 : (upd H5 F (dNO ktK P w F (GX.dSt ef e.1 t2 (.bl (St (es.map (·.1)) f e.1))))) p = some (.lst (Es.map fun e => V.ref e.2.1)) := (upd_ne fun z => by rw [z, b5.hF] at er5; cases er5).trans er5
      generalize upd H5 F (dNO ktK P w F (GX.dSt ef e.1 t2 (.bl (St (es.map (·.1)) f e.1)))) = H6 at b6 er6
      have kF6 : (GX.dSt ef e.1 t2 (.bl (St (es.map (·.1)) f e.1))).map (·.1) = L.take (i + 1) := by
        rw [dst_add, addK_new nF0, etk, kF]
      generalize GX.dSt ef e.1 t2 (.bl (St (es.map (·.1)) f e.1)) = ef6 at b6 kF6
      refine ⟨_, rfl, _, rfl, _, rfl, by show 2 ≤ sizeLine; omega, fun t3 nt3 => ?_⟩
      have s7 := same_new (o := .tup [.str (hdS e.1.1), .int (e.1.2 : Int)]) nt3
      have b7 := b6.same s7
      have k7 : KeyO (upd H6 t3 (.tup [.str (hdS e.1.1), .int (e.1.2 : Int)])) t3 e.1 := upd_same
      have er7 := s7 _ _ er6
      have hR7 := hRB.fm (Same.fm b7.sm)
      obtain ⟨e2, g1, g2, g3⟩ := find_of (List.mem_map.mpr ⟨e, he, rfl⟩ : e.1 ∈ es.map (·.1))
      obtain rfl : e2 = e := nd_inj hR.nd g2 he g3
      have hw := hR7.vl e2 g2
      refine ⟨a, t3, es, e2.1, e2, rfl, rfl, hR7.rd, hR7.keys, dp_K k7, g1, ?_⟩
      generalize upd H6 t3 (.tup [.str (hdS e2.1.1), .int (e2.1.2 : Int)]) = H7 at b7 k7 er7 hw
      refine ⟨_, rfl, _, rfl, _, rfl, by show 2 ≤ sizeLine; omega, fun t4 nt4 => ?_⟩
      have s8 := same_new (o := .tup [.str (hdS e2.1.1), .int (e2.1.2 : Int)]) nt4
      have b8 := b7.same s8
      have k8 : KeyO (upd H7 t4 (.tup [.str (hdS e2.1.1), .int (e2.1.2 : Int)])) t4 e2.1 := upd_same
      have er8 := s8 _ _ er7
      have hw8 := hw.fm (Same.fm s8)
      have in6 : e2.1 ∈ ef6.map (·.1) := by
        rw [kF6, etk]
        exact List.mem_append_right _ List.mem_cons_self
      obtain ⟨e6, j1, j2, j3⟩ := find_of in6
      have v6 := (b8.kf e6 j2).2
      rw [j3] at v6
      refine ⟨F, t4, ef6, e2.1, e6, rfl, rfl, .inl b8.hF, b8.kF, dp_K k8, j1, ?_⟩
      rw [v6]
      generalize upd H7 t4 (.tup [.str (hdS e2.1.1), .int (e2.1.2 : Int)]) = H8 at b8 k8 er8 hw8
      refine ⟨_, rfl, ?_⟩
      obtain ⟨va, eva⟩ := what_ref hw8
      cases hSt : St (es.map (·.1)) f e2.1 with
      | false =>
        refine iteF (iteF ⟨_, _, _, ef6, ea, rfl, b8, er8, kF6, by omega, fun k => ?_⟩)
        rw [etk, fa_snoc, kA, hSt]
        simp
      | true =>
        refine iteT ?_
        cases hfe : f e2.1 with
        | inr pq =>
          obtain ⟨bb, ii⟩ := pq
          rw [hfe] at hw8
          obtain ⟨va, iv, ev, hva, _⟩ := hw8
          rw [ev]
          refine ⟨_, rfl, va, _, _, _, rfl, rfl, SqT.of hva, atI_nat (j := 0) rfl, rfl, _, rfl, ite2 (fun z => absurd (V.str.inj (of_decide_eq_true z)) (wd_no bb)) (fun _ => ⟨_, _, _, ef6, ea, rfl, b8, er8, kF6, by omega, fun k => ?_⟩)⟩
          rw [etk, fa_snoc, kA, hfe]
          simp
        | inl n =>
          rw [hfe] at hw8
          obtain ⟨va, ev, hva⟩ := hw8
          rw [ev]
          refine ⟨_, rfl, va, _, _, _, rfl, rfl, SqT.of hva, atI_nat (j := 0) rfl, rfl, _, rfl, ite2 (fun _ => ?_) (fun z => absurd (decide_eq_true rfl) z)⟩
          refine ⟨_, rfl, _, rfl, _, rfl, va, _, _, _, rfl, rfl, SqT.of hva, atI_nat (j := 1) rfl, by show 2 ≤ sizeLine; omega, fun t9 nt9 => ?_⟩
          have s9 := same_new (o := .tup [.str (hdS e2.1.1), .int (n : Int)]) nt9
          have b9 := b8.same s9
          have k9 : KeyO (upd H8 t9 (.tup [.str (hdS e2.1.1), .int (n : Int)])) t9 (e2.1.1, n) := upd_same
          have er9 := s9 _ _ er8
          have b10 := b9.putA (v := .bl true) k9 trivial
          refine ⟨A, t9, ea, (e2.1.1, n), rfl, rfl, b9.hA, b9.kA, dp_K k9, by omega, _, _, _, ef6, _, rfl, b10, (upd_ne fun z => by rw [z, b9.hA] at er9; cases er9).trans er9, kF6, Nat.le_trans dst_len (by omega), fun k => ?_⟩
          rw [etk, fa_snoc, dst_add, mem_addK, kA, hfe, hSt]
          constructor
          · rintro (z | z)
            · exact .inl z
            · exact .inr ⟨rfl, by rw [z], by rw [z]⟩
          · rintro (z | ⟨_, z1, z2⟩)
            · exact .inl z
            · exact .inr (Prod.ext z2.symm (Sum.inl.inj z1).symm)
    · rintro σ H3 ⟨y3, y4, y5, ef, ea, rfl, b, er, kF, lA, kA⟩
      refine ⟨_, rfl, q H3 F ef (LExt.trans lB (LExt.same b.sm)) (tabs_same b.sm tB) nF b.hF b.kf fun k => ?_⟩
      rw [kF, List.length_map, ← (by rw [← hL, List.length_map] : L.length = Es.length), List.take_length]
      exact hp.mem_iff
end
end K20
namespace K20
open PySem PySem.Spec PyProof.Rows L2 TL TR QR
open GX (dNO LExt)
open GxR (TabB TabG Tabbed)
open LamX (TabS CodeO)
open PySem.W (AllAlike Sortable EachIs)
abbrev sSY : Stmt := topS 30
abbrev nSY : List Str := ["records", "stands", "found", "hand", "number", "what", "known", "other", "first"]
theorem scSY : FnScope nSY ["records"] (defScope sSY) := ⟨rfl, rfl, rfl, by decide +kernel, rfl, by decide +kernel, by decide +kernel⟩
abbrev sLD : Stmt := topS 31
abbrev nLD : List Str := ["records", "name", "word"]
theorem scLD : FnScope nLD ["records", "name", "word"] (defScope sLD) := ⟨rfl, rfl, rfl, by decide +kernel, rfl, by decide +kernel, by decide +kernel⟩
def isSay : What → Bool
  | .inl _ => false
  | .inr _ => true
section
variable {P : Program} {w : World} {K : PySem.W.Frag} {mg : Str → Option Value} {base : Heap}
/-- what was said so far; l: the standing keys that were looked at -/
structure SayP (P : Program) (w : World) (H0 H : Hp) (D : Addr) (l : List Key) (f : Key → What) (en : List (What × Addr × V)) : Prop where
  sm : Same H0 H
  n0 : H0 D = none
  hd : H D = some (dNO ktW P w D en)
  ky : ∀ e ∈ en, WhatAt H (.ref e.2.1) e.1
  vl : ∀ e ∈ en, ∃ q, e.2.2 = .ref q ∧ LsK H q (firsts (byW f l e.1))
  mem : ∀ x, x ∈ en.map (·.1) ↔ isSay x = true ∧ ∃ k ∈ l, f k = x
  nd : (en.map (·.1)).Nodup
theorem SayP.same {H0 H H' : Hp} {D : Addr} {l : List Key} {f : Key → What} {en : List (What × Addr × V)} (h : SayP P w H0 H D l f en) (s : Same H H') : SayP P w H0 H' D l f en :=
  ⟨same_trans h.sm s, h.n0, s _ _ h.hd, fun e he => (h.ky e he).fm (Same.fm s), fun e he => by
    obtain ⟨q, a, b⟩ := h.vl e he
    exact ⟨q, a, b.fm (Same.fm s) fun o e => s _ _ e⟩, h.mem, h.nd⟩
/-- a record that takes back: nothing is said -/
theorem SayP.skipW {H0 H : Hp} {D : Addr} {l : List Key} {f : Key → What} {en : List (What × Addr × V)} {k : Key} (h : SayP P w H0 H D l f en) (hk : isSay (f k) = false) : SayP P w H0 H D (l ++ [k]) f en := by
  refine ⟨h.sm, h.n0, h.hd, h.ky, fun e he => ?_, fun x => ?_, h.nd⟩
  · obtain ⟨q, a, b⟩ := h.vl e he
    have h1 := ((h.mem e.1).mp (List.mem_map.mpr ⟨e, he, rfl⟩)).1
    refine ⟨q, a, ?_⟩
    rw [byW_snoc, if_neg fun z => by rw [z, h1] at hk; cases hk]
    exact b
  · rw [h.mem]
    refine and_congr_right fun h1 => ⟨fun ⟨y, a, b⟩ => ⟨y, List.mem_append_left _ a, b⟩, fun ⟨y, a, b⟩ => ?_⟩
    rcases List.mem_append.mp a with a | a
    · exact ⟨y, a, b⟩
    · rw [List.mem_singleton.mp a] at b
      rw [← b, hk] at h1
      cases h1
/-- one who has said it before -/
theorem SayP.seen {H0 H : Hp} {D : Addr} {l : List Key} {f : Key → What} {en : List (What × Addr × V)} {k : Key} (h : SayP P w H0 H D l f en) (hin : f k ∈ en.map (·.1)) (nk : (firsts (byW f l (f k))).any (fun x => decide (x.1 = k.1)) = true) : SayP P w H0 H D (l ++ [k]) f en := by
  refine ⟨h.sm, h.n0, h.hd, h.ky, fun e he => ?_, fun x => ?_, h.nd⟩
  · obtain ⟨q, a, b⟩ := h.vl e he
    refine ⟨q, a, ?_⟩
    rw [byW_snoc]
    by_cases z : f k = e.1
    · rw [if_pos z, firsts_snoc, if_pos (by rw [← z]; exact nk)]
      exact b
    · rw [if_neg z]
      exact b
  · rw [h.mem]
    refine and_congr_right fun h1 => ⟨fun ⟨y, a, b⟩ => ⟨y, List.mem_append_left _ a, b⟩, fun ⟨y, a, b⟩ => ?_⟩
    rcases List.mem_append.mp a with a | a
    · exact ⟨y, a, b⟩
    · rw [List.mem_singleton.mp a] at b
      rw [← b]
      exact ((h.mem _).mp hin).2
/-- one who says it for the first time -/
theorem SayP.put {H0 H : Hp} {D q va : Addr} {l : List Key} {f : Key → What} {en : List (What × Addr × V)} {k : Key} (h : SayP P w H0 H D l f en) (hs : isSay (f k) = true) (hw : WhatAt H (.ref va) (f k)) (hq : LsK H q (firsts (byW f l (f k)) ++ [k]))
    (nk : (firsts (byW f l (f k))).any (fun x => decide (x.1 = k.1)) = false) : SayP P w H0 (upd H D (dNO ktW P w D (GX.dSt en (f k) va (.ref q)))) D (l ++ [k]) f (GX.dSt en (f k) va (.ref q)) := by
  have tD := ts_ext (o := dNO ktW P w D (GX.dSt en (f k) va (.ref q))) h.hd
  have lD : ∀ (p : Addr) (S : List Key), LsK H p S → LsK (upd H D (dNO ktW P w D (GX.dSt en (f k) va (.ref q)))) p S := fun p S ⟨ts, e, r⟩ => ⟨ts, (upd_ne fun z => by rw [z, h.hd] at e; cases e).trans e, each_imp (fun _ _ h => KeyO.ts tD h) r⟩
  refine ⟨same_upd h.n0 h.sm, h.n0, upd_same, fun e he => ?_, fun e he => ?_, fun x => ?_, by rw [dst_add]; exact addK_nd h.nd⟩
  · rcases dst_mem he with ⟨h1, h2, h3 | ⟨y, hy, h4, h5⟩⟩ | ⟨h1, h2⟩
    · rw [h1, h3]
      exact hw.ts tD
    · have := (h.ky y hy).ts tD
      rw [h4, h5] at this
      rw [h1]
      exact this
    · exact (h.ky e h1).ts tD
  · rcases dst_mem he with ⟨h1, h2, _⟩ | ⟨h1, h2⟩
    · refine ⟨q, h2, ?_⟩
      rw [h1, byW_snoc, if_pos rfl, firsts_snoc, if_neg (by rw [nk]; decide)]
      exact lD _ _ hq
    · obtain ⟨q2, a, b⟩ := h.vl e h1
      refine ⟨q2, a, ?_⟩
      rw [byW_snoc, if_neg fun z => h2 z.symm]
      exact lD _ _ b
  · rw [dst_add, mem_addK, h.mem]
    constructor
    · rintro (⟨h1, y, a, b⟩ | z)
      · exact ⟨h1, y, List.mem_append_left _ a, b⟩
      · exact ⟨by rw [z]; exact hs, k, List.mem_append_right _ List.mem_cons_self, z.symm⟩
    · rintro ⟨h1, y, a, b⟩
      rcases List.mem_append.mp a with a | a
      · exact .inl ⟨h1, y, a, b⟩
      · rw [List.mem_singleton.mp a] at b
        exact .inr b.symm
theorem SayP.len_le {H0 H : Hp} {D : Addr} {l : List Key} {f : Key → What} {en : List (What × Addr × V)} (h : SayP P w H0 H D l f en) : en.length ≤ l.length := by
  have := nodup_len (m := l.map f) h.nd fun y hy => by
    obtain ⟨_, k, h1, h2⟩ := (h.mem y).mp hy
    exact List.mem_map.mpr ⟨k, h1, h2⟩
  rwa [List.length_map, List.length_map] at this
theorem each_get {α β : Type} {R : α → β → Prop} : ∀ {as : List α} {bs : List β}, EachIs R as bs → ∀ {i : Nat} {a : α}, as[i]? = some a → ∃ b, bs[i]? = some b ∧ R a b
  | _, _, .nil, _, _, h => nomatch h
  | _, _, .cons (b := b) x r, 0, a, h => by
    cases h
    exact ⟨b, rfl, x⟩
  | _, _, .cons _ r, i + 1, a, h => by
    rw [List.getElem?_cons_succ] at h ⊢
    exact each_get r h
theorem flat_hands : ∀ S : List Key, (S.map fun k => V.str (hdS k.1)).all flatV = true
  | [] => rfl
  | k :: S => by rw [List.map_cons, List.all_cons, flat_hands S]; rfl
theorem in_hands (h : _root_.Fin 4) : ∀ S : List Key, inV (.str (hdS h)) (S.map fun k => V.str (hdS k.1)) = S.any fun x => decide (x.1 = h)
  | [] => rfl
  | k :: S => by
    have ih := in_hands h S
    unfold inV at ih ⊢
    rw [List.map_cons, List.any_cons, List.any_cons, ih]
    congr 1
    exact decide_eq_decide.mpr ⟨fun z => hd_inj _ _ z, fun z => by rw [z]⟩
def spSY (P : Program) (w : World) (K : PySem.W.Frag) (T4 : Addr) : Sp := fun vs H Q _ => ∃ (a : Addr) (es : List (Key × Addr × V)) (f : Key → What), vs = [.ref a] ∧ RecAt P w H a es f ∧ es.length ≤ 1000 ∧ Valid (es.map (·.1)) f ∧ TabS H T4 qLS ∧
  ∀ H1 H' p en, LExt T4 H H1 → TabS H1 T4 qLS → SayP P w H1 H' p (stL (es.map (·.1)) f) f en → Q (.ref p) H'
theorem ok_SY {f fLS : Addr} {fd fdLS : FuncData} (F : Fun K "_law_sayings" "_law_sayings" sSY f fd)
    (GLS : FnOk P w K mg base CX0 2 fLS fdLS ["records"] (spLS P w K T4)) (bLS : Binds K fdLS ["records"] []) (gLS : mg "_law_stands" = some (.ref fLS)) (kLS : PySem.W.keepIn K (.ref fLS) = true)
    (m_sorted : mg "sorted" = none) : FnOk P w K mg base CX0 3 f fd ["records"] (spSY P w K T4) := by
  refine F.ok scSY (fun vs H Q E h => ?_) (fun cdv A outer s H vs Q E hr h => ?_)
  · obtain ⟨a, es, f, rfl, _⟩ := h
    rfl
  · obtain ⟨a, es, f, rfl, hR, hl, hv, hT, q⟩ := h
    have hu := hr.units
    have hu1 := hu_of hr
    have hr1 : Room 1 _ := hr.mono (by decide)
    have hr2 : Room 2 _ := hr.mono (by decide)
    have zl := zl
    refine ⟨_, (pss_cons (ps_set (i := 1) scSY.nd rfl (.inl rfl) (pe_call GLS hr2 (by rfl) gLS kLS bLS .nil pass0 (pa_cons (pv 0) pa_nil)))
      (pss_cons (ps_set (i := 2) scSY.nd rfl (.inl rfl) ((GX.pe_dnewN (T := ktW))))
      (pss_cons (ps_for PassesOwn.never rfl (pi_list (pe_callB (GX.cr_sortedN (T := ktK) rfl hu) (by rfl) m_sorted (by decide +kernel) (pa_cons (pv 0) pa_nil))) (pg_tup (by rfl) (pgs_cons (pg_name (i := 3) scSY.nd rfl (.inl rfl)) (pgs_cons (pg_name (i := 4) scSY.nd rfl (.inl rfl)) pgs_nil)))
      (pss_cons (ps_set (i := 5) scSY.nd rfl (.inl rfl) (pe_ix (GX.ix_N (T := ktK) hu) (pv 0) (pe_tup (pa_cons (pv 3) (pa_cons (pv 4) pa_nil))) (fun _ _ => rfl)))
      (pss_one (ps_if (PW.pt (pw_and (pt_val (pe_ix (GX.ix_N (T := ktK) hu) (pv 1) (pe_tup (pa_cons (pv 3) (pa_cons (pv 4) pa_nil))) (fun _ _ => rfl))) (pw_and1 (pt_cmpR op_ne (pe_ix ix_tup (pv 5) (pe_int) (fun _ _ => rfl)) (pe_str) (nomark _)))))
      (pss_cons (ps_set (i := 6) scSY.nd rfl (.inl rfl) (GX.pe_bmN (T := ktW) PySem.F.plainAttrs_dict PySem.F.slot_dict_get PySem.F.type_dict_get (GX.mt_getN (T := ktW) hu) (pv 2) (pa_cons (pv 5) (pa_cons (pe_lst (pa_nil)) pa_nil))))
      (pss_one (ps_if (pt_cmpR op_notIn_seq (pv 3) (pe_lc (own := [("other", 7), ("first", 8)]) (g := gTup K 2 (gCons (gName 7) (gCons (gName 8) gNil))) (tt := tYes) (te := tVar 7) rfl scSY.nd (pi_list (pv 6)) (blkOk_by (N := nSY) (sc := defScope sSY) (by decide +kernel)) (fun _ _ _ _ _ => by exact pg_tup (by rfl) (pgs_cons (pg_name (i := 7) scSY.nd rfl (.inl rfl)) (pgs_cons (pg_name (i := 8) scSY.nd rfl (.inl rfl)) pgs_nil))) (fun _ _ _ _ _ => pts_nil) (fun _ _ _ _ _ => by exact pv 7)) (by rfl))
      (pss_one (ps_asg (pe_op op_cat (pv 6) (pe_lst (pa_cons (pe_tup (pa_cons (pv 3) (pa_cons (pv 4) pa_nil))) pa_nil))) (pg_sub (pv 2) (pv 5) (GX.set_N (T := ktW) hu)))) pss_nil))) pss_nil))))
      (pss_one (ps_ret (pv 2)))))), ?_⟩
    dsimp only [tNext, tSeq, tIfS, tAsg, gName, tC, cxOf]
    refine ⟨_, rfl, a, es, f, rfl, hR, hl, hv, hT, fun H1 p1 es1 le1 hT1 np1 hp1 hv1 hm1 => fun D nD => ?_⟩
    obtain ⟨ps, hPs, _⟩ := id hT
    have hR1 := hR.fm (LExt.fm ⟨ps, hPs⟩ le1)
    have sD := same_new (o := dNO ktW P w D []) nD
    have hR2 := hR1.fm (Same.fm sD)
    obtain ⟨al, so⟩ := able_K (fun e : Key × Addr × V => e.1) es
    refine ⟨_, rfl, a, es, rfl, hR2.rd, hR2.keys, al, so, fun p np => ⟨p, rfl, ⟨_, SqL.of upd_same⟩, ?_⟩⟩
    have eK := sortN_keys es
    have eP : ∀ e ∈ GX.sortN ktK es, e ∈ es := fun e he => List.mem_mergeSort.mp he
    have eL : (GX.sortN ktK es).length = es.length := List.length_mergeSort _
    have b1 : SayP P w H1 (upd (upd H1 D (dNO ktW P w D [])) p (.lst ((GX.sortN ktK es).map fun e => V.ref e.2.1))) D [] f [] :=
      ⟨same_trans sD (same_new np), nD, same_new np _ _ upd_same, (fun _ h => nomatch h), (fun _ h => nomatch h), fun x => ⟨(fun h => nomatch h), fun ⟨_, _, h, _⟩ => nomatch h⟩, List.nodup_nil⟩
    have er : upd (upd H1 D (dNO ktW P w D [])) p (.lst ((GX.sortN ktK es).map fun e => V.ref e.2.1)) p = some (.lst ((GX.sortN ktK es).map fun e => V.ref e.2.1)) := upd_same
    generalize upd (upd H1 D (dNO ktW P w D [])) p (.lst ((GX.sortN ktK es).map fun e => V.ref e.2.1)) = H2 at b1 er
    generalize GX.sortN ktK es = Es at er eK eP eL
    generalize hLL : sortL (es.map (·.1)) = L at eK
    refine for_list (xs := Es.map fun e => V.ref e.2.1) (fun i σ H' => ∃ (y3 y4 y5 y6 : Option V) (en : List (What × Addr × V)), σ = [some (.ref a), some (.ref p1), some (.ref D), y3, y4, y5, y6, none, none] ∧ H' p = some (.lst (Es.map fun e => V.ref e.2.1)) ∧ SayP P w H1 H' D ((L.take i).filter (St (es.map (·.1)) f)) f en)
      ⟨none, none, none, none, [], rfl, er, b1⟩ ?_ ?_ ?_
    · rintro i σ H' _ ⟨_, _, _, _, _, _, er, _⟩
      exact SqL.of er
    · rintro i x σ H3 hx ⟨y3, y4, y5, y6, en, rfl, er, b⟩
      obtain ⟨e, ge, rfl⟩ := map_get hx
      have he := eP e (List.mem_of_getElem? ge)
      have gk : L[i]? = some e.1 := by rw [← eK, List.getElem?_map, ge]; rfl
      have etk : L.take (i + 1) = L.take i ++ [e.1] := by rw [List.take_add_one, gk]; rfl
      have hR3 := hR1.fm (Same.fm b.sm)
      have hke := hR3.ky e he
      refine ⟨e.2.1, _, rfl, SqT.of hke, rfl, _, _, rfl, _, _, rfl, rfl, ?_⟩
      refine ⟨_, rfl, _, rfl, _, rfl, by show 2 ≤ sizeLine; omega, fun t nt => ?_⟩
      have s4 := same_new (o := .tup [.str (hdS e.1.1), .int (e.1.2 : Int)]) nt
      have b4 := b.same s4
      have k4 : KeyO (upd H3 t (.tup [.str (hdS e.1.1), .int (e.1.2 : Int)])) t e.1 := upd_same
      have er4 := s4 _ _ er
      have hR4 := hR1.fm (Same.fm b4.sm)
      obtain ⟨e2, g1, g2, g3⟩ := find_of (List.mem_map.mpr ⟨e, he, rfl⟩ : e.1 ∈ es.map (·.1))
      obtain rfl : e2 = e := nd_inj hR.nd g2 he g3
      have hw := hR4.vl e2 g2
      refine ⟨a, t, es, e2.1, e2, rfl, rfl, hR4.rd, hR4.keys, dp_K k4, g1, ?_⟩
      generalize upd H3 t (.tup [.str (hdS e2.1.1), .int (e2.1.2 : Int)]) = H4 at b4 k4 er4 hw
      refine ⟨_, rfl, _, rfl, _, rfl, by show 2 ≤ sizeLine; omega, fun t5 nt5 => ?_⟩
      have s5 := same_new (o := .tup [.str (hdS e2.1.1), .int (e2.1.2 : Int)]) nt5
      have b5 := b4.same s5
      have k5 : KeyO (upd H4 t5 (.tup [.str (hdS e2.1.1), .int (e2.1.2 : Int)])) t5 e2.1 := upd_same
      have er5 := s5 _ _ er4
      have hw5 := hw.fm (Same.fm s5)
      obtain ⟨e6, j1, j2, j3⟩ := find_of ((hm1 e2.1).mpr (List.mem_map.mpr ⟨e2, g2, rfl⟩))
      have v6 := (hv1 e6 j2).2
      rw [j3] at v6
      refine ⟨p1, t5, es1, e2.1, e6, rfl, rfl, .inl (b5.sm _ _ hp1), fun e he => dp_K ((hv1 e he).1.fm (Same.fm b5.sm)), dp_K k5, j1, ?_⟩
      rw [v6]
      generalize upd H4 t5 (.tup [.str (hdS e2.1.1), .int (e2.1.2 : Int)]) = H5 at b5 k5 er5 hw5
      refine ⟨_, rfl, ?_⟩
      cases hSt : St (es.map (·.1)) f e2.1 with
      | false =>
        refine iteF (iteF ⟨_, _, _, _, en, rfl, er5, ?_⟩)
        rw [etk, List.filter_append, List.filter_cons, hSt, if_neg (by decide), List.filter_nil, List.append_nil]
        exact b5
      | true =>
        have ef : (L.take (i + 1)).filter (St (es.map (·.1)) f) = (L.take i).filter (St (es.map (·.1)) f) ++ [e2.1] := by
          rw [etk, List.filter_append, List.filter_cons, hSt, if_pos rfl, List.filter_nil]
        rw [ef]
        have ll : ((L.take i).filter (St (es.map (·.1)) f)).length ≤ 1000 := by
          refine Nat.le_trans (List.length_filter_le _ _) ?_
          have : L.length = Es.length := by rw [← eK, List.length_map]
          rw [List.length_take]
          omega
        generalize (L.take i).filter (St (es.map (·.1)) f) = l at b b4 b5 ll
        refine iteT ?_
        cases hfe : f e2.1 with
        | inl n =>
          rw [hfe] at hw5
          obtain ⟨va, ev, hva⟩ := hw5
          rw [ev]
          refine ⟨_, rfl, va, _, _, _, rfl, rfl, SqT.of hva, atI_nat (j := 0) rfl, rfl, _, rfl, ite2 (fun z => by simp at z) (fun _ => ⟨_, _, _, _, en, rfl, er5, b5.skipW (by rw [hfe]; rfl)⟩)⟩
        | inr pq =>
          have hsay : isSay (f e2.1) = true := by rw [hfe]; rfl
          have hw5' := hw5
          rw [hfe] at hw5'
          obtain ⟨bb, ii⟩ := pq
          obtain ⟨va, iv, ev, hva, _⟩ := hw5'
          rw [ev] at hw5 ⊢
          have nw : ¬ V.str (wdS bb) = V.str "withdraw" := fun z => wd_no bb (V.str.inj z)
          refine ⟨_, rfl, va, _, _, _, rfl, rfl, SqT.of hva, atI_nat (j := 0) rfl, rfl, _, rfl, ite2 (fun _ => ?_) (fun z => by rw [decide_eq_false nw] at z; exact absurd rfl z)⟩
          refine ⟨_, rfl, ⟨D, en, rfl, .inl b5.hd⟩, _, rfl, by show 0 ≤ sizeLine; omega, fun l0 nl0 => ?_⟩
          have s6 := same_new (o := .lst []) nl0
          have b6 := b5.same s6
          have hw6 := hw5.fm (Same.fm s6)
          have el : upd H5 l0 (.lst []) l0 = some (.lst []) := upd_same
          have er6 := s6 _ _ er5
          refine ⟨D, va, en, f e2.1, .ref l0, rfl, rfl, .inl b6.hd, (fun e he => dp_W (b6.ky e he)), dp_W hw6, ?_⟩
          generalize upd H5 l0 (.lst []) = H6 at b6 hw6 el er6
          obtain ⟨q, eq, hq, hin⟩ : ∃ q, (((en.find? fun e => decide (e.1 = f e2.1)).map (·.2.2)).getD (.ref l0)) = .ref q ∧ LsK H6 q (firsts (byW f l (f e2.1))) ∧ (firsts (byW f l (f e2.1)) ≠ [] → f e2.1 ∈ en.map (·.1)) := by
            by_cases hin : f e2.1 ∈ en.map (·.1)
            · obtain ⟨e7, m1, m2, m3⟩ := find_of hin
              obtain ⟨q, a1, a2⟩ := b6.vl e7 m2
              rw [m3] at a2
              exact ⟨q, by rw [m1]; exact a1, a2, fun _ => hin⟩
            · have nb : byW f l (f e2.1) = [] := by
                unfold byW
                rw [List.filter_eq_nil_iff]
                exact fun k hk z => hin ((b6.mem _).mpr ⟨hsay, k, hk, of_decide_eq_true z⟩)
              exact ⟨l0, by rw [find_no hin]; rfl, ⟨[], el, by rw [nb]; exact .nil⟩, fun z => by rw [nb] at z; exact absurd rfl z⟩
          rw [eq]
          have hS4 := firsts_len (byW f l (f e2.1))
          obtain ⟨ts, ets, hts⟩ := id hq
          have lts := each_len hts
          refine ⟨_, rfl, _, rfl, q, rfl, ⟨_, SqL.of ets⟩, fun D2 nD2 => ?_⟩
          generalize hS : firsts (byW f l (f e2.1)) = S at hq hin hS4 hts lts
          refine lc_list (xs := ts.map V.ref) (fun m H' => Same H6 H' ∧ H' D2 = some (.lst ((S.take m).map fun k => V.str (hdS k.1)))) ⟨same_new nD2, upd_same⟩ ?_ ?_ ?_
          · rintro m H' _ ⟨s, _⟩
            exact SqL.of (s _ _ ets)
          · rintro m y H' hy ⟨s, eD⟩
            obtain ⟨t7, ht7, rfl⟩ := map_get hy
            obtain ⟨k7, hk7, r7⟩ := each_get hts ht7
            have r7 := KeyO.fm (Same.fm s) r7
            refine ⟨t7, _, rfl, SqT.of r7, rfl, _, _, rfl, _, _, rfl, rfl, rfl, _, rfl, _, eD, by rw [List.length_map, List.length_take]; omega, same_upd nD2 s, ?_⟩
            rw [upd_same, List.take_add_one, hk7, List.map_append]
            rfl
          · rintro H7 ⟨s7, eD7⟩
            rw [List.length_map, lts, List.take_length] at eD7
            have b7 := b6.same s7
            have er7 := s7 _ _ er6
            have hw7 := hw6.fm (Same.fm s7)
            have ets7 := s7 _ _ ets
            have hts7 := each_imp (fun _ _ h => KeyO.fm (Same.fm s7) h) hts
            refine ⟨D2, _, rfl, .inl (SqL.of eD7), rfl, flat_hands S, _, rfl, ?_⟩
            rw [if_pos rfl, in_hands]
            cases na : S.any (fun x => decide (x.1 = e2.1.1)) with
            | true =>
              refine iteF ⟨_, _, _, _, en, rfl, er7, b7.seen (hin fun z => by rw [z] at na; cases na) (by rw [hS]; exact na)⟩
            | false =>
              refine iteT ⟨_, rfl, _, rfl, _, rfl, by show 2 ≤ sizeLine; omega, fun t9 nt9 => ⟨by show 1 ≤ sizeLine; omega, fun lb nlb => ?_⟩⟩
              have s9 := same_new (o := .tup [.str (hdS e2.1.1), .int (e2.1.2 : Int)]) nt9
              have k9 : KeyO (upd H7 t9 (.tup [.str (hdS e2.1.1), .int (e2.1.2 : Int)])) t9 e2.1 := upd_same
              have s10 := same_trans s9 (same_new (o := .lst [.ref t9]) nlb)
              have k10 := KeyO.fm (Same.fm (same_new (o := .lst [.ref t9]) nlb)) k9
              have elb : upd (upd H7 t9 (.tup [.str (hdS e2.1.1), .int (e2.1.2 : Int)])) lb (.lst [.ref t9]) lb = some (.lst [.ref t9]) := upd_same
              have ets10 := s10 _ _ ets7
              refine ⟨q, lb, _, _, rfl, rfl, ets10, elb, by rw [List.length_map]; show ts.length + 1 ≤ sizeLine; omega, fun r nr => ?_⟩
              generalize upd (upd H7 t9 (.tup [.str (hdS e2.1.1), .int (e2.1.2 : Int)])) lb (.lst [.ref t9]) = H10 at s10 k10 nr ets10
              have s11 := same_new (o := .lst (ts.map V.ref ++ [.ref t9])) nr
              have er11 : upd H10 r (.lst (ts.map V.ref ++ [.ref t9])) r = some (.lst (ts.map V.ref ++ [.ref t9])) := upd_same
              have s12 := same_trans s10 s11
              have b12 := b7.same s12
              have hw12 := hw7.fm (Same.fm s12)
              have hq12 : LsK (upd H10 r (.lst (ts.map V.ref ++ [.ref t9]))) r (firsts (byW f l (f e2.1)) ++ [e2.1]) := by
                rw [hS]
                exact ⟨ts ++ [t9], by rw [er11, List.map_append]; rfl, each_snoc' (KeyO.fm (Same.fm s11) k10) (each_imp (fun _ _ h => KeyO.fm (Same.fm s12) h) hts7)⟩
              have er12 := s12 _ _ er7
              generalize upd H10 r (.lst (ts.map V.ref ++ [.ref t9])) = H12 at b12 hw12 hq12 er12
              have len1 : en.length < sizeLine := by have := b12.len_le; omega
              refine ⟨_, rfl, _, rfl, D, va, en, f e2.1, rfl, rfl, b12.hd, (fun e he => dp_W (b12.ky e he)), dp_W hw12, len1, _, _, _, _, _, rfl, (upd_ne fun z => by rw [z, b12.hd] at er12; cases er12).trans er12, b12.put hsay hw12 hq12 (by rw [hS]; exact na)⟩
    · rintro σ H3 ⟨y3, y4, y5, y6, en, rfl, er, b⟩
      have lE : L.length = Es.length := by rw [← eK, List.length_map]
      rw [List.length_map, ← lE, List.take_length, ← hLL] at b
      exact ⟨_, rfl, q H1 H3 D en le1 hT1 b⟩
end
end K20
namespace K20
open PySem PySem.Spec PyProof.Rows L2 TL TR QR
open GX (dNO LExt)
open GxR (TabB TabG Tabbed)
open LamX (TabS CodeO)
section
variable {P : Program} {w : World} {K : PySem.W.Frag} {mg : Str → Option Value} {base : Heap}
def spLD (P : Program) (w : World) (K : PySem.W.Frag) (T4 : Addr) : Sp := fun vs H Q _ => ∃ (a : Addr) (nv : V) (es : List (Key × Addr × V)) (f : Key → What) (i : _root_.Fin 6) (b : Bool), vs = [.ref a, nv, .str (wdS b)] ∧ RecAt P w H a es f ∧ es.length ≤ 1000 ∧ Valid (es.map (·.1)) f ∧ NmAt H nv (nmOf i) ∧ TabS H T4 qLS ∧
  ∀ H' p, LExt T4 H H' → TabS H' T4 qLS → LsK H' p (saidL (es.map (·.1)) f (.inr (b, i))) → Q (.ref p) H'
theorem ok_LD {f fSY : Addr} {fd fdSY : FuncData} (F : Fun K "_law_said" "_law_said" sLD f fd)
    (GSY : FnOk P w K mg base CX0 3 fSY fdSY ["records"] (spSY P w K T4)) (bSY : Binds K fdSY ["records"] []) (gSY : mg "_law_sayings" = some (.ref fSY)) (kSY : PySem.W.keepIn K (.ref fSY) = true) : FnOk P w K mg base CX0 4 f fd ["records", "name", "word"] (spLD P w K T4) := by
  refine F.ok scLD (fun vs H Q E h => ?_) (fun cdv A outer s H vs Q E hr h => ?_)
  · obtain ⟨a, nv, es, f, i, b, rfl, _⟩ := h
    rfl
  · obtain ⟨a, nv, es, f, i, b, rfl, hR, hl, hv, hn, hT, q⟩ := h
    have hu := hr.units
    have hu1 := hu_of hr
    have hr1 : Room 1 _ := hr.mono (by decide)
    have hr2 : Room 2 _ := hr.mono (by decide)
    have hr3 : Room 3 _ := hr.mono (by decide)
    have zl := zl
    refine ⟨_, (pss_one (ps_ret (GX.pe_bmN (T := ktW) PySem.F.plainAttrs_dict PySem.F.slot_dict_get PySem.F.type_dict_get (GX.mt_getN (T := ktW) hu) (pe_call GSY hr3 (by rfl) gSY kSY bSY .nil pass0 (pa_cons (pv 0) pa_nil)) (pa_cons (pe_tup (pa_cons (pv 2) (pa_cons (pv 1) pa_nil))) (pa_cons (pe_lst (pa_nil)) pa_nil))))), ?_⟩
    dsimp only [tNext, tSeq, tIfS, tAsg, gName, tC, cxOf]
    refine ⟨_, rfl, a, es, f, rfl, hR, hl, hv, hT, fun H1 H2 p en le hT1 hs => ⟨⟨p, en, rfl, .inl hs.hd⟩, _, rfl, _, rfl, by show 2 ≤ sizeLine; omega, fun t nt => ⟨by show 0 ≤ sizeLine; omega, fun l0 nl0 => ?_⟩⟩⟩
    obtain ⟨ps, hPs, _⟩ := id hT
    have s1 := same_new (o := .tup [.str (wdS b), nv]) nt
    have s2 := same_new (o := .lst []) nl0
    have s3 := same_trans s1 s2
    have n2 := (hn.ts (LExt.fm ⟨ps, hPs⟩ le).ts).ts (Same.ts (same_trans hs.sm s3))
    have hs3 := hs.same s3
    have hw : WhatAt (upd (upd H2 t (.tup [.str (wdS b), nv])) l0 (.lst [])) (.ref t) (.inr (b, i)) := ⟨t, nv, rfl, s2 _ _ upd_same, n2⟩
    have el : upd (upd H2 t (.tup [.str (wdS b), nv])) l0 (.lst []) l0 = some (.lst []) := upd_same
    refine ⟨p, t, en, .inr (b, i), .ref l0, rfl, rfl, .inl hs3.hd, (fun e he => dp_W (hs3.ky e he)), dp_W hw, ?_⟩
    generalize upd (upd H2 t (.tup [.str (wdS b), nv])) l0 (.lst []) = H3 at hs3 el
    have le3 := LExt.trans le (LExt.same hs3.sm)
    have hT3 := tabs_same hs3.sm hT1
    by_cases hin : (.inr (b, i) : What) ∈ en.map (·.1)
    · obtain ⟨e7, m1, m2, m3⟩ := find_of hin
      obtain ⟨q7, a1, a2⟩ := hs3.vl e7 m2
      rw [m1]
      show Q e7.2.2 H3
      rw [a1]
      rw [m3, said_eq] at a2
      exact q H3 q7 le3 hT3 a2
    · have nb : byW f (stL (es.map (·.1)) f) (.inr (b, i)) = [] := by
        unfold byW
        rw [List.filter_eq_nil_iff]
        exact fun k hk z => hin ((hs3.mem _).mpr ⟨rfl, k, hk, of_decide_eq_true z⟩)
      rw [find_no hin]
      exact q H3 l0 le3 hT3 ⟨[], el, by rw [← said_eq, nb]; exact .nil⟩
end
end K20
namespace K20
open PySem PySem.Spec PyProof.Rows L2 TL TR QR
open GX (dNO)
abbrev sID : Stmt := topS 24
abbrev nID : List Str := ["author", "number"]
theorem scID : FnScope nID ["author", "number"] (defScope sID) := ⟨rfl, rfl, rfl, by decide +kernel, rfl, by decide +kernel, by decide +kernel⟩
abbrev sHA : Stmt := topS 25
abbrev nHA : List Str := ["state"]
theorem scHA : FnScope nHA ["state"] (defScope sHA) := ⟨rfl, rfl, rfl, by decide +kernel, rfl, by decide +kernel, by decide +kernel⟩
abbrev sRC : Stmt := topS 26
abbrev nRC : List Str := ["state", "ids", "hand", "number", "kind", "names"]
theorem scRC : FnScope nRC ["state", "ids", "hand", "number"] (defScope sRC) := ⟨rfl, rfl, rfl, by decide +kernel, rfl, by decide +kernel, by decide +kernel⟩
abbrev sRS : Stmt := topS 27
abbrev nRS : List Str := ["state", "ids", "most", "records", "turn", "hand", "number", "key"]
theorem scRS : FnScope nRS ["state", "ids", "most"] (defScope sRS) := ⟨rfl, rfl, rfl, by decide +kernel, rfl, by decide +kernel, by decide +kernel⟩
section
variable {P : Program} {w : World} {K : PySem.W.Frag} {mg : Str → Option Value} {base : Heap}
def spID : Sp := fun vs H Q _ => ∃ (wd : List Nat) (n : Nat), vs = [.str (Sg wd), .int (n : Int)] ∧ ∀ H' t, Same H H' → NmAt H' (.ref t) (lab3, wd, n) → Q (.ref t) H'
theorem ok_ID {f : Addr} {fd : FuncData} (F : Fun K "_law_id" "_law_id" sID f fd) : FnOk P w K mg base CX0 1 f fd ["author", "number"] spID := by
  refine F.ok scID (fun vs H Q E h => ?_) (fun cdv A outer s H vs Q E hr h => ?_)
  · obtain ⟨wd, n, rfl, _⟩ := h
    rfl
  · obtain ⟨wd, n, rfl, q⟩ := h
    have hu := hr.units
    have hu1 := hu_of hr
    have zl := zl
    refine ⟨_, (pss_one (ps_ret (pe_tup (pa_cons (pe_tup (pa_cons (pe_str) (pa_cons (pe_int) (pa_cons (pe_tup (pa_cons (pe_int) (pa_cons (pe_int) pa_nil))) pa_nil)))) (pa_cons (pv 0) (pa_cons (pv 1) pa_nil)))))), ?_⟩
    refine ⟨by show 2 ≤ sizeLine; omega, fun ma nm => ⟨by show 3 ≤ sizeLine; omega, fun la nl => ⟨_, rfl, _, rfl, by show 3 ≤ sizeLine; omega, fun t nt => ?_⟩⟩⟩
    have s1 := same_new (o := .tup [.int 0, .int 5]) nm
    have s2 := same_new (o := .tup [.str "label", .int 3, .ref ma]) nl
    have s3 := same_new (o := .tup [.ref la, .str (Sg wd), .int (n : Int)]) nt
    exact q _ t (same_trans (same_trans s1 s2) s3) ⟨t, .ref la, rfl, upd_same, la, ma, rfl, s3 _ _ upd_same, s3 _ _ (s2 _ _ upd_same)⟩
def spHA : Sp := fun vs H Q _ => ∃ (p c : Addr), vs = [.ref p] ∧ StateAt H p c ∧ ∀ H' (h : _root_.Fin 4), Dr p c H H' → Q (.str (hdS h)) H'
theorem ok_HA {f fT : Addr} {fd fdT : FuncData} (F : Fun K "_law_hand" "_law_hand" sHA f fd)
    (GT : FnOk P w K mg base CX0 1 fT fdT ["state", "most"] spTake) (bT : Binds K fdT ["state", "most"] []) (gT : mg "_law_take" = some (.ref fT)) (kT : PySem.W.keepIn K (.ref fT) = true) : FnOk P w K mg base CX0 2 f fd ["state"] spHA := by
  refine F.ok scHA (fun vs H Q E h => ?_) (fun cdv A outer s H vs Q E hr h => ?_)
  · obtain ⟨p, c, rfl, _⟩ := h
    rfl
  · obtain ⟨p, c, rfl, st, q⟩ := h
    have hu := hr.units
    have hu1 := hu_of hr
    have hr1 : Room 1 _ := hr.mono (by decide)
    have zl := zl
    refine ⟨_, (pss_one (ps_ret (pe_ix ix_list (pe_lst (pa_cons (pe_str) (pa_cons (pe_str) (pa_cons (pe_str) (pa_cons (pe_str) pa_nil))))) (pe_call GT hr1 (by rfl) gT kT bT .nil pass0 (pa_cons (pv 0) (pa_cons (pe_int) pa_nil))) (fun _ _ => rfl)))), ?_⟩
    dsimp only [tNext, tSeq, tIfS, tAsg, gName, tC, cxOf]
    refine ⟨by show 4 ≤ sizeLine; omega, fun l nl => ?_⟩
    have s1 := same_new (o := .lst [.str "ann", .str "bob", .str "cy", .str "dee"]) nl
    have np := st.new nl
    have st1 := st.same s1
    refine ⟨_, rfl, p, c, 4, rfl, by decide, st1, fun H2 r _ hr2 st2 d2 => ?_⟩
    have hr2 := hr2 (by decide)
    have d : Dr p c H H2 := ((Dr.refl st).same s1).drawn st2 d2
    have el : H2 l = some (.lst [.str "ann", .str "bob", .str "cy", .str "dee"]) := (d2 l np.1 np.2).trans upd_same
    refine ⟨l, _, _, .str (hdS ⟨r, hr2⟩), rfl, rfl, SqL.of el, ?_, q H2 _ d⟩
    refine atI_nat ?_
    exact (by decide +kernel : ∀ i : _root_.Fin 4, ([.str "ann", .str "bob", .str "cy", .str "dee"] : List V)[i.1]? = some (.str (hdS i))) ⟨r, hr2⟩
/-- the ids that are drawn from -/
def IdsAt (H : Hp) (li : Addr) : Prop := ∃ v0 v1 v2, H li = some (.lst [v0, v1, v2]) ∧ NmAt H v0 (nmOf 0) ∧ NmAt H v1 (nmOf 1) ∧ NmAt H v2 (nmOf 2)
theorem IdsAt.fm {H H' : Hp} {li : Addr} (s : TS H H') (hl : ∀ o, H li = some o → H' li = some o) (h : IdsAt H li) : IdsAt H' li := by
  obtain ⟨v0, v1, v2, a, b, c, d⟩ := h
  exact ⟨v0, v1, v2, hl _ a, b.ts s, c.ts s, d.ts s⟩
theorem IdsAt.dr {H H' : Hp} {p c li : Addr} (st : StateAt H p c) (n1 : li ≠ p) (n2 : li ≠ c) (d : Dr p c H H') (h : IdsAt H li) : IdsAt H' li := h.fm (d.ts st) fun o e => d.ou _ _ n1 n2 e
theorem ids_ok : ∀ i : _root_.Fin 6, okNm (nmOf i) = true := by decide +kernel
/-- what may be drawn -/
def Rec4 (x : What) : Prop := ∀ b i, x = .inr (b, i) → i.1 < 4
def spRC : Sp := fun vs H Q _ => ∃ (p c li : Addr) (h : _root_.Fin 4) (n : Nat), vs = [.ref p, .ref li, .str (hdS h), .int (n : Int)] ∧ StateAt H p c ∧ li ≠ p ∧ li ≠ c ∧ IdsAt H li ∧ n ≤ 1000 ∧
  ∀ H' v x, Dr p c H H' → WhatAt H' v x → okW n x = true → Rec4 x → Q v H'
theorem ok_RC {f fT fID : Addr} {fd fdT fdID : FuncData} (F : Fun K "_law_record" "_law_record" sRC f fd)
    (GT : FnOk P w K mg base CX0 1 fT fdT ["state", "most"] spTake) (bT : Binds K fdT ["state", "most"] []) (gT : mg "_law_take" = some (.ref fT)) (kT : PySem.W.keepIn K (.ref fT) = true)
    (GID : FnOk P w K mg base CX0 1 fID fdID ["author", "number"] spID) (bID : Binds K fdID ["author", "number"] []) (gID : mg "_law_id" = some (.ref fID)) (kID : PySem.W.keepIn K (.ref fID) = true)
    (m_len : mg "len" = none) : FnOk P w K mg base CX0 2 f fd ["state", "ids", "hand", "number"] spRC := by
  refine F.ok scRC (fun vs H Q E h => ?_) (fun cdv A outer s H vs Q E hr h => ?_)
  · obtain ⟨p, c, li, h, n, rfl, _⟩ := h
    rfl
  · obtain ⟨p, c, li, h, n, rfl, st, n1, n2, hi, hn, q⟩ := h
    have hu := hr.units
    have hu1 := hu_of hr
    have hr1 : Room 1 _ := hr.mono (by decide)
    have zl := zl
    refine ⟨_, (pss_cons (ps_set (i := 4) scRC.nd rfl (.inl rfl) (pe_call GT hr1 (by rfl) gT kT bT .nil pass0 (pa_cons (pv 0) (pa_cons (pe_int) pa_nil))))
      (pss_cons (ps_if (PW.pt (pw_and (pt_cmpR op_lt (pv 4) (pe_int) (nomark _)) (pw_and1 (pt_cmpR op_gt (pv 3) (pe_int) (nomark _)))))
      (pss_one (ps_ret (pe_tup (pa_cons (pe_str) (pa_cons (pe_op op_add (pe_int) (pe_call GT hr1 (by rfl) gT kT bT .nil pass0 (pa_cons (pv 0) (pa_cons (pe_op op_sub (pv 3) (pe_int)) pa_nil)))) pa_nil))))) pss_nil)
      (pss_cons (ps_set (i := 5) scRC.nd rfl (.inl rfl) (pe_op op_cat (pv 1) (pe_lst (pa_cons (pe_call GID hr1 (by rfl) gID kID bID .nil pass0 (pa_cons (pe_str) (pa_cons (pe_int) pa_nil))) pa_nil))))
      (pss_one (ps_ret (pe_tup (pa_cons (pe_ix ix_list (pe_lst (pa_cons (pe_str) (pa_cons (pe_str) (pa_cons (pe_str) (pa_cons (pe_str) (pa_cons (pe_str) pa_nil)))))) (pe_op op_mod (pv 4) (pe_int)) (fun _ _ => rfl)) (pa_cons (pe_ix ix_list (pv 5) (pe_call GT hr1 (by rfl) gT kT bT .nil pass0 (pa_cons (pv 0) (pa_cons (pe_callB call_len_seq (by rfl) m_len PySem.boot_len (pa_cons (pv 5) pa_nil)) pa_nil))) (fun _ _ => rfl)) pa_nil)))))))), ?_⟩
    dsimp only [tNext, tSeq, tIfS, tAsg, gName, tC, cxOf]
    refine ⟨_, rfl, p, c, 7, rfl, by decide, st, fun H1 kd _ hk st1 dr1 => ?_⟩
    have hk := hk (by decide)
    have d1 : Dr p c H H1 := (Dr.refl st).drawn st1 dr1
    have hi1 := hi.dr st n1 n2 d1
    have names : ∀ R : VK, (∀ H2 l v0 v1 v2 v3, Dr p c H H2 → H1 l = none → H2 l = some (.lst [v0, v1, v2, v3]) → NmAt H2 v0 (nmOf 0) → NmAt H2 v1 (nmOf 1) → NmAt H2 v2 (nmOf 2) → NmAt H2 v3 (nmOf 3) → R (.ref l) H2) →
        tOp rCat (tVar 1) (tLst (tCons (tCall spID [] E0 (tCons (tC (.str "zed")) (tCons (tC (.int 9)) tNil))) tNil)) [some (.ref p), some (.ref li), some (.str (hdS h)), some (.int (n : Int)), some (.int (kd : Int)), none] H1 R := fun R hR => by
      refine ⟨_, rfl, [122, 101, 100], 9, by rfl, fun H2 t s2 hz => ⟨by show 1 ≤ sizeLine; omega, fun lz nz => ?_⟩⟩
      have s3 := same_new (o := .lst [.ref t]) nz
      obtain ⟨v0, v1, v2, e0, a0, a1, a2⟩ := (hi1.fm (Same.ts s2) fun o e => s2 _ _ e).fm (Same.ts s3) fun o e => s3 _ _ e
      refine ⟨li, lz, _, _, rfl, rfl, e0, upd_same, by show 4 ≤ sizeLine; omega, fun l nl => ?_⟩
      have s4 := same_new (o := .lst ([v0, v1, v2] ++ [.ref t])) nl
      exact hR _ l v0 v1 v2 (.ref t) (((d1.same s2).same s3).same s4) (same_none s2 (same_none s3 nl)) upd_same (a0.ts (Same.ts s4)) (a1.ts (Same.ts s4)) (a2.ts (Same.ts s4)) ((hz.ts (Same.ts s3)).ts (Same.ts s4))
    have words : ∀ k : _root_.Fin 5, ∃ b : Bool, ([.str "agree", .str "refuse", .str "agree", .str "agree", .str "agree"] : List V)[k.1]? = some (.str (wdS b)) := fun k =>
      (by decide +kernel : ∀ k : _root_.Fin 5, ([.str "agree", .str "refuse", .str "agree", .str "agree", .str "agree"] : List V)[k.1]? = some (.str (wdS true)) ∨ ([.str "agree", .str "refuse", .str "agree", .str "agree", .str "agree"] : List V)[k.1]? = some (.str (wdS false))) k |>.elim (fun h => ⟨true, h⟩) fun h => ⟨false, h⟩
    have tail : tOp rCat (tVar 1) (tLst (tCons (tCall spID [] E0 (tCons (tC (.str "zed")) (tCons (tC (.int 9)) tNil))) tNil)) [some (.ref p), some (.ref li), some (.str (hdS h)), some (.int (n : Int)), some (.int (kd : Int)), none] H1 fun v H' =>
        tRet (tTup (tCons (tOp (rIxL K) (tLst (tCons (tC (.str "agree")) (tCons (tC (.str "refuse")) (tCons (tC (.str "agree")) (tCons (tC (.str "agree")) (tCons (tC (.str "agree")) tNil)))))) (tOp (rI (fun x j => 0 < j) fun i j => V.int (i % j)) (tVar 4) (tC (.int 5))))
          (tCons (tOp (rIxL K) (tVar 5) (tCall spTake [] E0 (tCons (tVar 0) (tCons (tCB (fun xs H Q => ∃ p ys, xs = [V.ref p] ∧ (SqL K H p ys ∨ SqT K H p ys) ∧ Q (V.int ↑ys.length) H) (tCons (tVar 5) tNil)) tNil)))) tNil)))
          { nx := fun x H' => Q V.non H', rt := Q } [some (.ref p), some (.ref li), some (.str (hdS h)), some (.int (n : Int)), some (.int (kd : Int)), some v] H' := by
      refine names _ fun H2 l v0 v1 v2 v3 d2 nl el a0 a1 a2 a3 => ?_
      have nlp : l ≠ p ∧ l ≠ c := d1.st.new nl
      refine ⟨by show 5 ≤ sizeLine; omega, fun lw nlw => ?_⟩
      have s5 := same_new (o := .lst [.str "agree", .str "refuse", .str "agree", .str "agree", .str "agree"]) nlw
      have d5 := d2.same s5
      have ew : upd H2 lw (.lst [.str "agree", .str "refuse", .str "agree", .str "agree", .str "agree"]) lw = some (.lst [.str "agree", .str "refuse", .str "agree", .str "agree", .str "agree"]) := upd_same
      have el5 := s5 _ _ el
      have b0 := a0.ts (Same.ts s5)
      have b1 := a1.ts (Same.ts s5)
      have b2 := a2.ts (Same.ts s5)
      have b3 := a3.ts (Same.ts s5)
      generalize upd H2 lw (.lst [.str "agree", .str "refuse", .str "agree", .str "agree", .str "agree"]) = H5 at d5 ew el5 b0 b1 b2 b3
      obtain ⟨b, hb⟩ := words ⟨kd % 5, Nat.mod_lt _ (by decide)⟩
      refine ⟨_, rfl, _, _, rfl, rfl, by show (0 : Int) < 5; decide, lw, _, ((kd % 5 : Nat) : Int), .str (wdS b), rfl, by rw [Int.natCast_emod]; rfl, SqL.of ew, atI_nat hb, ?_⟩
      refine ⟨_, rfl, _, rfl, _, rfl, l, _, rfl, .inl (SqL.of el5), p, c, 4, rfl, by decide, d5.st, fun H6 r _ hr6 st6 dr6 => ?_⟩
      have hr6 := hr6 (by decide)
      have d6 := d5.drawn st6 dr6
      have el6 := (dr6 l nlp.1 nlp.2).trans el5
      have t6 : K20.TS H5 H6 := fun x xs e => by
        obtain ⟨⟨_, e1⟩, ⟨_, e2⟩⟩ := d5.st.some
        exact (dr6 x (fun z => by rw [z, e1] at e; cases e) (fun z => by rw [z, e2] at e; cases e)).trans e
      obtain ⟨vi, hvi, hni⟩ : ∃ vi, ([v0, v1, v2, v3] : List V)[r]? = some vi ∧ NmAt H6 vi (nmOf ⟨r, by omega⟩) := by
        match r, hr6 with
        | 0, _ => exact ⟨v0, rfl, b0.ts t6⟩
        | 1, _ => exact ⟨v1, rfl, b1.ts t6⟩
        | 2, _ => exact ⟨v2, rfl, b2.ts t6⟩
        | 3, _ => exact ⟨v3, rfl, b3.ts t6⟩
      refine ⟨l, _, _, vi, rfl, rfl, SqL.of el6, atI_nat hvi, by show 2 ≤ sizeLine; omega, fun t nt => ?_⟩
      have s7 := same_new (o := .tup [.str (wdS b), vi]) nt
      exact q _ (.ref t) (.inr (b, ⟨r, by omega⟩)) (d6.same s7) ⟨t, vi, rfl, upd_same, hni.ts (Same.ts s7)⟩ (ids_ok _) fun b' i e => by
        cases e
        exact hr6
    refine ⟨_, rfl, _, _, rfl, rfl, _, rfl, ite2 (fun h1 => ⟨_, rfl, _, _, rfl, rfl, _, rfl, ite2 (fun h2 => ?_) (fun _ => tail)⟩) (fun _ => iteF tail)⟩
    have h2 : (1 : Int) < (n : Int) := of_decide_eq_true h2
    refine ⟨_, rfl, _, rfl, _, _, rfl, rfl, p, c, n - 1, by show [V.ref p, V.int ((n : Int) - 1)] = _; rw [show ((n : Int) - 1) = ((n - 1 : Nat) : Int) by omega], by omega, st1, fun H2 r _ hr2 st2 dr2 => ?_⟩
    have hr2 := hr2 (by omega)
    refine ⟨_, _, rfl, rfl, by show 2 ≤ sizeLine; omega, fun t nt => ?_⟩
    have s3 := same_new (o := .tup [.str "withdraw", .int (1 + (r : Int))]) nt
    exact q _ (.ref t) (.inl (1 + r)) ((d1.drawn st2 dr2).same s3) ⟨t, rfl, by rw [upd_same]; simp⟩ (decide_eq_true ⟨by omega, by omega⟩) fun _ _ z => nomatch z
/-- [key for key in d if key[0] == h] -/
theorem lk_keys {i j : Nat} {tt : TT} {σ : L2.St} {H : Hp} {Q : VK} {d : Addr} {es : List (Key × Addr × V)} (pr : Key → Bool) (hd : H d = some (dNO ktK P w d es)) (hk : ∀ e ∈ es, KeyO H e.2.1 e.1) (hl : es.length ≤ 1000)
    (hi : σ[i]? = some (some (.ref d))) (hj : ∀ v, wipe (((wipe σ [j]).set j (some v))) [j] = wipe σ [j]) (hjj : ∀ v : V, ((wipe σ [j]).set j (some v))[j]? = some (some v))
    (step : ∀ e ∈ es, ∀ (H1 : Hp) (R : Bool → Hp → Prop), KeyO H1 e.2.1 e.1 → R (pr e.1) H1 → tt ((wipe σ [j]).set j (some (.ref e.2.1))) H1 R)
    (q : ∀ D H', Same H H' → H D = none → H' D = some (.lst ((es.filter fun e => pr e.1).map fun e => V.ref e.2.1)) → Q (.ref D) H') :
    tLockE (tLc (GX.iKeysN ktK P w (tVar i)) (gName j) tt (tVar j) [j]) σ H Q := by
  have zl := zl
  refine ⟨d, _, hd, trivial, fun od => ?_⟩
  have fL : Fm H (upd H d (.frz od (dNO ktK P w d es))) := Fm.lock hd
  have hL0 : upd H d (.frz od (dNO ktK P w d es)) d = some (.frz od (dNO ktK P w d es)) := upd_same
  refine ⟨_, hi, d, od, es, rfl, hL0, fun D nD => ?_⟩
  have nDd : D ≠ d := fun e => by rw [e, hL0] at nD; cases nD
  refine lc_it (GX.walk_N (T := ktK) (P := P) (w := w)) (fun m H' => Same (upd H d (.frz od (dNO ktK P w d es))) H' ∧ H' D = some (.lst (((es.take m).filter fun e => pr e.1).map fun e => V.ref e.2.1))) ⟨same_new nD, upd_same⟩ ?_ ?_ ?_
  · rintro m H' _ ⟨s, _⟩
    exact s _ _ hL0
  · rintro m x H0 H1 hm ⟨s, eD⟩ ⟨rfl, e, he, rfl⟩
    have hem := List.mem_of_getElem? he
    have hke : KeyO H1 e.2.1 e.1 := (hk e hem).fm (fL.trans (Same.fm s))
    refine ⟨hj _, step e hem H1 _ hke ?_⟩
    cases hp : pr e.1 with
    | true =>
      rw [if_pos rfl]
      refine ⟨_, hjj _, _, eD, ?_, same_upd nD s, ?_⟩
      · rw [List.length_map]
        have := List.length_filter_le (fun e : Key × Addr × V => pr e.1) (es.take m)
        rw [List.length_take] at this
        omega
      · rw [upd_same, List.take_add_one, he]
        simp [List.filter_append, hp]
    | false =>
      rw [if_neg (by decide)]
      refine ⟨s, ?_⟩
      rw [eD, List.take_add_one, he]
      simp [List.filter_append, hp]
  · rintro H' ⟨s, eD⟩
    have hlock := s _ _ hL0
    rw [List.take_length] at eD
    refine ⟨hlock, q D _ (fun b o hb => ?_) ?_ ((upd_ne nDd).trans eD)⟩
    · by_cases e : b = d
      · subst e
        rw [hd] at hb
        cases hb
        exact upd_same
      · rw [upd_ne e]
        exact s b o ((upd_ne e).trans hb)
    · rw [upd_ne nDd] at nD
      exact nD
/-- what stands in a dict of records that was drawn -/
structure Drawn25 (es : List (Key × Addr × V)) (f : Key → What) : Prop where
  ok : ∀ k ∈ es.map (·.1), okRec k (f k) = true
  r4 : ∀ k ∈ es.map (·.1), Rec4 (f k)
  nb : ∀ k ∈ es.map (·.1), k.2 < 100
theorem hd_key : ∀ (h : _root_.Fin 4) (n : Nat), 1 ≤ n → n ≤ 99999 → keyB (hdS h) n = true := fun h n h1 h2 => by
  unfold keyB
  rw [decide_eq_true ⟨h1, h2⟩, Bool.and_true]
  exact (by decide +kernel : ∀ h : _root_.Fin 4, wordB (hdS h) letters 8 = true) h
def spRS (P : Program) (w : World) (K : PySem.W.Frag) : Sp := fun vs H Q _ => ∃ (p c li : Addr), vs = [.ref p, .ref li, .int 25] ∧ StateAt H p c ∧ li ≠ p ∧ li ≠ c ∧ IdsAt H li ∧
  ∀ H' q es f, Dr p c H H' → H q = none → H' q = some (dNO ktK P w q es) → RecAt P w H' q es f → es.length ≤ 25 → Drawn25 es f → Q (.ref q) H'
theorem ok_RS {f fT fHA fRC : Addr} {fd fdT fdHA fdRC : FuncData} (F : Fun K "_law_records" "_law_records" sRS f fd)
    (GT : FnOk P w K mg base CX0 1 fT fdT ["state", "most"] spTake) (bT : Binds K fdT ["state", "most"] []) (gT : mg "_law_take" = some (.ref fT)) (kT : PySem.W.keepIn K (.ref fT) = true)
    (GHA : FnOk P w K mg base CX0 2 fHA fdHA ["state"] spHA) (bHA : Binds K fdHA ["state"] []) (gHA : mg "_law_hand" = some (.ref fHA)) (kHA : PySem.W.keepIn K (.ref fHA) = true)
    (GRC : FnOk P w K mg base CX0 2 fRC fdRC ["state", "ids", "hand", "number"] spRC) (bRC : Binds K fdRC ["state", "ids", "hand", "number"] []) (gRC : mg "_law_record" = some (.ref fRC)) (kRC : PySem.W.keepIn K (.ref fRC) = true)
    (m_len : mg "len" = none) (m_range : mg "range" = none) : FnOk P w K mg base CX0 3 f fd ["state", "ids", "most"] (spRS P w K) := by
  refine F.ok scRS (fun vs H Q E h => ?_) (fun cdv A outer s H vs Q E hr h => ?_)
  · obtain ⟨p, c, li, rfl, _⟩ := h
    rfl
  · obtain ⟨p, c, li, rfl, st, n1, n2, hi, q⟩ := h
    have hu := hr.units
    have hu1 := hu_of hr
    have hr1 : Room 1 _ := hr.mono (by decide)
    have hr2 : Room 2 _ := hr.mono (by decide)
    have zl := zl
    refine ⟨_, (pss_cons (ps_set (i := 3) scRS.nd rfl (.inl rfl) ((GX.pe_dnewN (T := ktK))))
      (pss_cons (ps_for PassesOwn.never rfl (pi_range1 (by rfl) m_range (pa_cons (pe_call GT hr1 (by rfl) gT kT bT .nil pass0 (pa_cons (pv 0) (pa_cons (pe_op op_add (pv 2) (pe_int)) pa_nil))) pa_nil)) (pg_name (i := 4) scRS.nd rfl (.inl rfl))
      (pss_cons (ps_set (i := 5) scRS.nd rfl (.inr rfl) (pe_call GHA hr2 (by rfl) gHA kHA bHA .nil pass0 (pa_cons (pv 0) pa_nil)))
      (pss_cons (ps_set (i := 6) scRS.nd rfl (.inl rfl) (pe_op op_add (pe_op op_add (pe_int) (pe_callB call_len_seq (by rfl) m_len PySem.boot_len (pa_cons (pe_lock (pe_lc (own := [("key", 7)]) (g := gName 7) (tt := tTest (tOp rEq (tOp (rIxT K) (tVar 7) (tC (.int 0))) (tVar 5))) (te := tVar 7) rfl scRS.nd (GX.pi_keysN (T := ktK) (pv 3)) (blkOk_by (N := nRS) (sc := defScope sRS) (by decide +kernel)) (fun _ _ _ _ _ => by exact pg_name (i := 7) scRS.nd rfl (.inl rfl)) (fun _ _ _ _ _ => by exact pts_one (pt_cmpR op_eq (pe_ix ix_tup (pv 7) (pe_int) (fun _ _ => rfl)) (pv 5) (nomark _))) (fun _ _ _ _ _ => by exact pv 7))) pa_nil))) (pe_ix ix_list (pe_lst (pa_cons (pe_int) (pa_cons (pe_int) (pa_cons (pe_int) (pa_cons (pe_int) pa_nil))))) (pe_call GT hr1 (by rfl) gT kT bT .nil pass0 (pa_cons (pv 0) (pa_cons (pe_int) pa_nil))) (fun _ _ => rfl))))
      (pss_one (ps_if (pt_cmpR (GX.op_notInN (T := ktK) hu) (pe_tup (pa_cons (pv 5) (pa_cons (pv 6) pa_nil))) (pv 3) (by rfl))
      (pss_one (ps_asg (pe_call GRC hr2 (by rfl) gRC kRC bRC .nil pass0 (pa_cons (pv 0) (pa_cons (pv 1) (pa_cons (pv 5) (pa_cons (pv 6) pa_nil))))) (pg_sub (pv 3) (pe_tup (pa_cons (pv 5) (pa_cons (pv 6) pa_nil))) (GX.set_N (T := ktK) hu)))) pss_nil)))))
      (pss_one (ps_ret (pv 3))))), ?_⟩
    dsimp only [tNext, tSeq, tIfS, tAsg, gName, tC, cxOf]
    refine fun D nD => ?_
    have nDp := st.new nD
    have s1 := same_new (o := dNO ktK P w D []) nD
    refine ⟨_, rfl, _, rfl, _, _, rfl, rfl, p, c, 26, rfl, by decide, st.same s1, fun H1 many _ hm st1 dr1 => ⟨_, rfl, ?_⟩⟩
    have hm := hm (by decide)
    have d1 : Dr p c H H1 := ((Dr.refl st).same s1).drawn st1 dr1
    have eD1 : H1 D = some (dNO ktK P w D []) := (dr1 D nDp.1 nDp.2).trans upd_same
    refine ⟨by omega, by omega, ?_⟩
    refine for_it (walk_range (lo := 0) (n := ((many : Int)).toNat)) (fun i σ H' => ∃ (y4 y5 y6 : Option V) (es : List (Key × Addr × V)) (f : Key → What), σ = [some (.ref p), some (.ref li), some (.int 25), some (.ref D), y4, y5, y6, none] ∧ Dr p c H H' ∧ H' D = some (dNO ktK P w D es) ∧ RecAt P w H' D es f ∧ es.length ≤ i ∧ Drawn25 es f)
      ⟨none, none, none, [], fun _ => .inl 0, rfl, d1, eD1, ⟨.inl eD1, (fun _ h => nomatch h), (fun _ h => nomatch h), List.nodup_nil⟩, Nat.le_refl _, (fun _ h => nomatch h), (fun _ h => nomatch h), (fun _ h => nomatch h)⟩ ?_ ?_ ?_
    · exact fun _ _ _ _ _ => trivial
    · rintro i x σ H2 H2' hi' ⟨y4, y5, y6, es, f, rfl, d2, eD2, hR2, l2, dr2⟩ ⟨rfl, rfl⟩
      refine ⟨_, rfl, p, c, rfl, d2.st, fun H3 h d3 => ?_⟩
      have d13 := d2.trans d3
      have eD3 := d3.ou D _ nDp.1 nDp.2 eD2
      have hR3 := hR2.fm (d3.fm d2.st)
      change tLockE (tLc (GX.iKeysN ktK P w (tVar 3)) (gName 7) (tTest (tOp rEq (tOp (rIxT K) (tVar 7) (tC (V.int 0))) (tVar 5))) (tVar 7) [7]) _ H3 _
      refine lk_keys (i := 3) (j := 7) (fun k => decide (k.1 = h)) eD3 hR3.ky (by omega) rfl (fun _ => rfl) (fun _ => rfl) (fun e he H4 R hk hR => ?_) fun D4 H4 s4 nD4 e4 => ?_
      · refine ⟨_, rfl, e.2.1, _, _, _, rfl, rfl, SqT.of hk, atI_nat (j := 0) rfl, _, rfl, rfl, _, rfl, to_dec ?_ hR⟩
        exact decide_eq_decide.mpr ⟨fun z => hd_inj _ _ (V.str.inj z), fun z => by rw [z]⟩
      have cl : ((es.filter fun e => decide (e.1.1 = h)).map fun e => V.ref e.2.1).length ≤ 25 := by
        rw [List.length_map]
        exact Nat.le_trans (List.length_filter_le _ _) (by omega)
      generalize (es.filter fun e => decide (e.1.1 = h)).map (fun e => V.ref e.2.1) = ks at e4 cl
      have nDp4 := d13.st.new nD4
      refine ⟨D4, ks, rfl, .inl (SqL.of e4), _, _, rfl, rfl, by show 4 ≤ sizeLine; omega, fun l4 nl4 => ?_⟩
      have s5 := same_trans s4 (same_new (o := .lst [.int 0, .int 0, .int 0, .int 3]) nl4)
      have d5 := d13.same s5
      have nl4p : l4 ≠ p ∧ l4 ≠ c := (d13.st.same s4).new nl4
      have el5 : upd H4 l4 (.lst [.int 0, .int 0, .int 0, .int 3]) l4 = some (.lst [.int 0, .int 0, .int 0, .int 3]) := upd_same
      have eD5 := s5 _ _ eD3
      have hR5 := hR3.fm (Same.fm s5)
      generalize upd H4 l4 (.lst [.int 0, .int 0, .int 0, .int 3]) = H5 at s5 d5 el5 eD5 hR5
      refine ⟨_, rfl, p, c, 4, rfl, by decide, d5.st, fun H6 r _ hr6 st6 dr6 => ?_⟩
      have hr6 := hr6 (by decide)
      have d56 : Dr p c H5 H6 := (Dr.refl d5.st).drawn st6 dr6
      have d6 := d5.trans d56
      have el6 := d56.ou _ _ nl4p.1 nl4p.2 el5
      have eD6 := d56.ou _ _ nDp.1 nDp.2 eD5
      have hR6 := hR5.fm (d56.fm d5.st)
      obtain ⟨off, hoff, ho3⟩ : ∃ off : Nat, ([.int 0, .int 0, .int 0, .int 3] : List V)[r]? = some (.int (off : Int)) ∧ off ≤ 3 := by
        match r, hr6 with
        | 0, _ => exact ⟨0, rfl, by decide⟩
        | 1, _ => exact ⟨0, rfl, by decide⟩
        | 2, _ => exact ⟨0, rfl, by decide⟩
        | 3, _ => exact ⟨3, rfl, by decide⟩
      refine ⟨l4, _, _, _, rfl, rfl, SqL.of el6, atI_nat hoff, _, _, rfl, rfl, ?_⟩
      obtain ⟨n, en, hn1, hn2⟩ : ∃ n : Nat, (1 : Int) + (ks.length : Int) + (off : Int) = (n : Int) ∧ 1 ≤ n ∧ n < 100 := ⟨1 + ks.length + off, by omega, by omega, by omega⟩
      show tIfS (tTest (tOp (GX.rNotInN ktK P w K) (tTup (tCons (tVar 5) (tCons (tVar 6) tNil))) (tVar 3)))
        (tAsg (tCall spRC [] E0 (tCons (tVar 0) (tCons (tVar 1) (tCons (tVar 5) (tCons (tVar 6) tNil))))) (gSub (tVar 3) (tTup (tCons (tVar 5) (tCons (tVar 6) tNil))) (GX.rSetN ktK P w K))) tNext _
        [some (.ref p), some (.ref li), some (.int 25), some (.ref D), some (.int (0 + (i : Nat))), some (.str (hdS h)), some (.int ((1 : Int) + (ks.length : Int) + (off : Int))), none] H6
      rw [en]
      refine ⟨_, rfl, _, rfl, by show 2 ≤ sizeLine; omega, fun t nt => ?_⟩
      have s7 := same_new (o := .tup [.str (hdS h), .int (n : Int)]) nt
      have d7 := d6.same s7
      have k7 : KeyO (upd H6 t (.tup [.str (hdS h), .int (n : Int)])) t (h, n) := upd_same
      have eD7 := s7 _ _ eD6
      have hR7 := hR6.fm (Same.fm s7)
      refine ⟨_, rfl, D, t, es, (h, n), rfl, rfl, .inl eD7, hR7.keys, dp_K k7, _, rfl, ?_⟩
      generalize upd H6 t (.tup [.str (hdS h), .int (n : Int)]) = H7 at d7 k7 eD7 hR7
      by_cases hin : (h, n) ∈ es.map (·.1)
      · rw [is_yes hin]
        exact iteF ⟨_, _, _, es, f, rfl, d7, eD7, hR7, by omega, dr2⟩
      · rw [is_no hin]
        refine iteT ⟨_, rfl, _, rfl, _, rfl, _, rfl, p, c, li, h, n, rfl, d7.st, n1, n2, hi.dr st n1 n2 d7, by omega, fun H8 v x d8 hw okx r4 => ⟨_, rfl, _, rfl, _, rfl, by show 2 ≤ sizeLine; omega, fun t2 nt2 => ?_⟩⟩
        have d78 := d7.trans d8
        have eD8 := d8.ou _ _ nDp.1 nDp.2 eD7
        have hR8 := hR7.fm (d8.fm d7.st)
        have s9 := same_new (o := .tup [.str (hdS h), .int (n : Int)]) nt2
        have k9 : KeyO (upd H8 t2 (.tup [.str (hdS h), .int (n : Int)])) t2 (h, n) := upd_same
        have d9 := d78.same s9
        have eD9 := s9 _ _ eD8
        have hR9 := hR8.fm (Same.fm s9)
        have hw9 := hw.fm (Same.fm s9)
        refine ⟨D, t2, es, (h, n), rfl, rfl, eD9, hR9.keys, dp_K k9, by omega, ?_⟩
        generalize upd H8 t2 (.tup [.str (hdS h), .int (n : Int)]) = H9 at k9 d9 eD9 hR9 hw9
        have hR10 := hR9.put eD9 k9 hw9
        refine ⟨_, _, _, _, _, rfl, ⟨d9.st.upd nDp, fun b o e1 e2 e3 => ?_⟩, upd_same, hR10, Nat.le_trans dst_len (by omega), fun k hk => ?_, fun k hk => ?_, fun k hk => ?_⟩
        · rw [upd_ne (ne_of_none e3 nD)]
          exact d9.ou b o e1 e2 e3
        · rw [dst_add, mem_addK] at hk
          unfold setF
          by_cases z : k = (h, n)
          · rw [if_pos z, z]
            unfold okRec
            rw [hd_key h n hn1 (by omega), okx]
            rfl
          · rw [if_neg z]
            exact dr2.ok k (hk.resolve_right z)
        · rw [dst_add, mem_addK] at hk
          unfold setF
          by_cases z : k = (h, n)
          · rw [if_pos z]
            exact r4
          · rw [if_neg z]
            exact dr2.r4 k (hk.resolve_right z)
        · rw [dst_add, mem_addK] at hk
          rcases hk with hk | rfl
          · exact dr2.nb k hk
          · exact hn2
    · rintro σ H2 ⟨y4, y5, y6, es, f, rfl, d2, eD2, hR2, l2, dr2⟩
      exact ⟨_, rfl, q H2 D es f d2 nD eD2 hR2 (by omega) dr2⟩
end
end K20
namespace K20
open PySem PySem.Spec PyProof.Rows L2 TL TR QR
open GX (dNO)
open GxR (TabB TabG Tabbed)
abbrev sPU : Stmt := topS 32
abbrev nPU : List Str := ["state", "records", "rows", "found", "turn", "key"]
theorem scPU : FnScope nPU ["state", "records"] (defScope sPU) := ⟨rfl, rfl, rfl, by decide +kernel, rfl, by decide +kernel, by decide +kernel⟩
theorem passN {P : Program} {w : World} {X : Cx} : Passes (L2.CX P w) X E0 := fun _ _ _ _ _ _ _ ⟨_, _, _, _, _, _, _, _, _, _, _, _, h⟩ => h.elim
/-- draws were made, objects laid, tables have grown -/
structure DT (p c : Addr) (Ts : List Addr) (H H' : Hp) : Prop where
  st : StateAt H' p c
  tg : TG Ts H'
  ou : ∀ b o, b ≠ p → b ≠ c → b ∉ Ts → H b = some o → H' b = some o
section
variable {p c : Addr} {Ts : List Addr} {H H1 H' : Hp}
theorem DT.refl (st : StateAt H p c) (g : TG Ts H) : DT p c Ts H H := ⟨st, g, fun _ _ _ _ _ e => e⟩
theorem DT.same (d : DT p c Ts H H1) (s : Same H1 H') : DT p c Ts H H' := ⟨d.st.same s, d.tg.same s, fun b o n1 n2 n3 e => s _ _ (d.ou b o n1 n2 n3 e)⟩
theorem lst_no (g : TG Ts H) {b : Addr} {o : HO} (h : H b = some o) (n : ∀ ps, o ≠ .tbl ps) : b ∉ Ts := fun z => tab_ne (g b z) h n rfl
theorem DT.tbs (d : DT p c Ts H H1) (t : Tbs Ts H1 H') : DT p c Ts H H' := by
  obtain ⟨⟨_, e1⟩, ⟨_, e2⟩⟩ := d.st.some
  refine ⟨d.st.mono (fun o e => t.at_ d.tg e fun _ z => ?_) fun o e => t.at_ d.tg e fun _ z => ?_, t.tg, fun b o n1 n2 n3 e => t.sm b o n3 (d.ou b o n1 n2 n3 e)⟩
  · rw [e1] at e
    cases e
    cases z
  · rw [e2] at e
    cases e
    cases z
theorem DT.drawn (d : DT p c Ts H H1) (st : StateAt H' p c) (dr : Drawn p c H1 H') : DT p c Ts H H' := by
  obtain ⟨⟨_, e1⟩, ⟨_, e2⟩⟩ := d.st.some
  refine ⟨st, fun T hT => ?_, fun b o n1 n2 n3 e => (dr b n1 n2).trans (d.ou b o n1 n2 n3 e)⟩
  obtain ⟨ps, h1, h2⟩ := d.tg T hT
  exact ⟨ps, (dr T (fun z => by rw [z, e1] at h1; cases h1) fun z => by rw [z, e2] at h1; cases h1).trans h1, h2⟩
theorem DT.at_ (d : DT p c Ts H H1) (st : StateAt H p c) (g : TG Ts H) {b : Addr} {o : HO} (h : H b = some o) (n : ∀ ps, o ≠ .tbl ps) (n2 : ∀ xs, o ≠ .lst xs) : H1 b = some o := by
  obtain ⟨⟨_, e1⟩, ⟨_, e2⟩⟩ := st.some
  exact d.ou b o (fun z => by rw [z, e1] at h; cases h; exact n2 _ rfl) (fun z => by rw [z, e2] at h; cases h; exact n2 _ rfl) (lst_no g h n) h
theorem DT.fm (d : DT p c Ts H H1) (st : StateAt H p c) (g : TG Ts H) : Fm H H1 := fm_nt fun b o n n2 e => d.at_ st g e n n2
theorem DT.none {x : Addr} (d : DT p c Ts H H1) (n : H1 x = Option.none) : H x = Option.none := by
  cases e : H x with
  | none => rfl
  | some o =>
    obtain ⟨⟨_, e1⟩, ⟨_, e2⟩⟩ := d.st.some
    by_cases n1 : x = p
    · rw [n1, e1] at n; cases n
    · by_cases n2 : x = c
      · rw [n2, e2] at n; cases n
      · by_cases n3 : x ∈ Ts
        · obtain ⟨ps, h, _⟩ := d.tg x n3
          rw [h] at n
          cases n
        · rw [d.ou x o n1 n2 n3 e] at n
          cases n
end
theorem lst_upd {p c rl : Addr} {Ts : List Addr} {H H4 : Hp} {xs ys : List V} (d : DT p c Ts H H4) (n : rl ≠ p ∧ rl ≠ c) (e : H4 rl = some (.lst xs)) (nt : rl ∉ Ts) (n0 : H rl = none) : DT p c Ts H (upd H4 rl (.lst ys)) :=
  ⟨d.st.upd n, fun T hT => by
    obtain ⟨ps, h1, h2⟩ := d.tg T hT
    exact ⟨ps, (upd_ne fun z => nt (by rw [← z]; exact hT)).trans h1, h2⟩, fun b o n1 n2 n3 h => (upd_ne (ne_of_none h n0)).trans (d.ou b o n1 n2 n3 h)⟩
theorem fm_drawn {p c : Addr} {H H1 : Hp} (st : StateAt H p c) (dr : Drawn p c H H1) : Fm H H1 := fm_nt fun b o _ n e => by
  obtain ⟨⟨_, e1⟩, ⟨_, e2⟩⟩ := st.some
  exact (dr b (fun z => by rw [z, e1] at e; cases e; exact n _ rfl) (fun z => by rw [z, e2] at e; cases e; exact n _ rfl)).trans e
theorem addK_old {κ : Type} [DecidableEq κ] {ks : List κ} {k : κ} (h : k ∈ ks) : addK ks k = ks := if_pos h
section
variable {P : Program} {w : World} {K : PySem.W.Frag} {mg : Str → Option Value} {base : Heap} {C : Addr}
def spPU (P : Program) (w : World) (K : PySem.W.Frag) (Ts : List Addr) : Sp := fun vs H Q _ => ∃ (p c a : Addr) (es : List (Key × Addr × V)) (f : Key → What), vs = [.ref p, .ref a] ∧ StateAt H p c ∧ TG Ts H ∧ RecAt P w H a es f ∧ es.length ≤ 25 ∧ Drawn25 es f ∧
  ∀ H' q es' f', DT p c Ts H H' → H q = none → H' q = some (dNO ktK P w q es') → RecAt P w H' q es' f' → (∀ k ∈ es'.map (·.1), f' k = f k) → (es'.map (·.1)).Perm (es.map (·.1)) → Q (.ref q) H'
theorem ok_PU {f fWR fT : Addr} {fd fdWR fdT : FuncData} (F : Fun K "_law_put" "_law_put" sPU f fd)
    (GWR : FnOk P w K mg base (L2.CX P w) 6 fWR fdWR ["records", "key", "what"] (spWR P w K Ts C)) (bWR : Binds K fdWR ["records", "key", "what"] []) (gWR : mg "with_record" = some (.ref fWR)) (kWR : PySem.W.keepIn K (.ref fWR) = true)
    (GT : FnOk P w K mg base CX0 1 fT fdT ["state", "most"] spTake) (bT : Binds K fdT ["state", "most"] []) (gT : mg "_law_take" = some (.ref fT)) (kT : PySem.W.keepIn K (.ref fT) = true)
    (m_len : mg "len" = none) (m_range : mg "range" = none) (m_sorted : mg "sorted" = none) : FnOk P w K mg base CX0 7 f fd ["state", "records"] (spPU P w K Ts) := by
  refine F.ok scPU (fun vs H Q E h => ?_) (fun cdv A outer s H vs Q E hr h => ?_)
  · obtain ⟨p, c, a, es, f, rfl, _⟩ := h
    rfl
  · obtain ⟨p, c, a, es, f, rfl, st, g, hR, hl, hd, q⟩ := h
    have hu := hr.units
    have hu1 := hu_of hr
    have hr1 : Room 1 _ := hr.mono (by decide)
    have hr2 : Room 2 _ := hr.mono (by decide)
    have hr3 : Room 3 _ := hr.mono (by decide)
    have hr4 : Room 4 _ := hr.mono (by decide)
    have hr5 : Room 5 _ := hr.mono (by decide)
    have hr6 : Room 6 _ := hr.mono (by decide)
    have zl := zl
    refine ⟨_, (pss_cons (ps_set (i := 2) scPU.nd rfl (.inl rfl) (pe_callB (GX.cr_sortedN (T := ktK) rfl hu) (by rfl) m_sorted (by decide +kernel) (pa_cons (pv 1) pa_nil)))
      (pss_cons (ps_set (i := 3) scPU.nd rfl (.inl rfl) ((GX.pe_dnewN (T := ktK))))
      (pss_cons (ps_for PassesOwn.never rfl (pi_range1 (by rfl) m_range (pa_cons (pe_callB call_len_seq (by rfl) m_len PySem.boot_len (pa_cons (pv 2) pa_nil)) pa_nil)) (pg_name (i := 4) scPU.nd rfl (.inl rfl))
      (pss_cons (ps_set (i := 5) scPU.nd rfl (.inl rfl) (pe_bm PySem.F.plainAttrs_list PySem.F.slot_list_pop PySem.F.type_list_pop mt_popAt (pv 2) (pa_cons (pe_call GT hr1 (by rfl) gT kT bT .nil pass0 (pa_cons (pv 0) (pa_cons (pe_callB call_len_seq (by rfl) m_len PySem.boot_len (pa_cons (pv 2) pa_nil)) pa_nil))) pa_nil)))
      (pss_cons (ps_set (i := 3) scPU.nd rfl (.inl rfl) (pe_call GWR hr6 (by rfl) gWR kWR bWR .nil passN (pa_cons (pv 3) (pa_cons (pv 5) (pa_cons (pe_ix (GX.ix_N (T := ktK) hu) (pv 1) (pv 5) (fun _ _ => rfl)) pa_nil)))))
      (pss_one (ps_if (pt_cmpR op_eq (pe_call GT hr1 (by rfl) gT kT bT .nil pass0 (pa_cons (pv 0) (pa_cons (pe_int) pa_nil))) (pe_int) (nomark _))
      (pss_one (ps_set (i := 3) scPU.nd rfl (.inl rfl) (pe_call GWR hr6 (by rfl) gWR kWR bWR .nil passN (pa_cons (pv 3) (pa_cons (pv 5) (pa_cons (pe_ix (GX.ix_N (T := ktK) hu) (pv 1) (pv 5) (fun _ _ => rfl)) pa_nil)))))) pss_nil)))))
      (pss_one (ps_ret (pv 3)))))), ?_⟩
    dsimp only [tNext, tSeq, tIfS, tAsg, gName, tC, cxOf]
    obtain ⟨al, so⟩ := able_K (fun e : Key × Addr × V => e.1) es
    refine ⟨_, rfl, a, es, rfl, hR.rd, hR.keys, al, so, fun rl nrl D nD => ?_⟩
    have eP : ∀ e ∈ GX.sortN ktK es, e ∈ es := fun e he => List.mem_mergeSort.mp he
    have eL : (GX.sortN ktK es).length = es.length := List.length_mergeSort _
    have ePm : ((GX.sortN ktK es).map (·.1)).Perm (es.map (·.1)) := (List.mergeSort_perm _ _).map _
    have s1 := same_new (o := .lst ((GX.sortN ktK es).map fun e => V.ref e.2.1)) nrl
    have nD0 := same_none s1 nD
    have s2 := same_trans s1 (same_new (o := dNO ktK P w D []) nD)
    have d2 := (DT.refl st g).same s2
    have er : upd (upd H rl (.lst ((GX.sortN ktK es).map fun e => V.ref e.2.1))) D (dNO ktK P w D []) rl = some (.lst ((GX.sortN ktK es).map fun e => V.ref e.2.1)) := (same_new nD) _ _ upd_same
    have eD : upd (upd H rl (.lst ((GX.sortN ktK es).map fun e => V.ref e.2.1))) D (dNO ktK P w D []) D = some (dNO ktK P w D []) := upd_same
    change tFor _ _ _ _ _ (upd (upd H rl (.lst ((GX.sortN ktK es).map fun e => V.ref e.2.1))) D (dNO ktK P w D []))
    generalize upd (upd H rl (.lst ((GX.sortN ktK es).map fun e => V.ref e.2.1))) D (dNO ktK P w D []) = H2 at s2 d2 er eD
    generalize GX.sortN ktK es = Es at er eP eL ePm
    have nrp := st.new nrl
    have lE : (Es.map fun e => V.ref e.2.1).length = es.length := by rw [List.length_map, eL]
    refine ⟨_, rfl, rl, _, rfl, .inl (SqL.of er), _, rfl, by omega, by omega, ?_⟩
    rw [lE]
    refine for_it (walk_range (lo := 0) (n := ((es.length : Nat) : Int).toNat)) (fun i σ H' => ∃ (y4 y5 : Option V) (q2 : Addr) (es2 : List (Key × Addr × V)) (f2 : Key → What) (R : List (Key × Addr × V)), σ = [some (.ref p), some (.ref a), some (.ref rl), some (.ref q2), y4, y5] ∧ DT p c Ts H H' ∧ H q2 = none ∧ H' q2 = some (dNO ktK P w q2 es2) ∧ RecAt P w H' q2 es2 f2 ∧ (∀ k ∈ es2.map (·.1), f2 k = f k) ∧
        H' rl = some (.lst (R.map fun e => V.ref e.2.1)) ∧ R.length + i = es.length ∧ (∀ e ∈ R, e ∈ es) ∧ (R.map (·.1) ++ es2.map (·.1)).Perm (es.map (·.1)))
      ⟨none, none, D, [], fun _ => .inl 0, Es, rfl, d2, nD0, eD, ⟨.inl eD, (fun _ h => nomatch h), (fun _ h => nomatch h), List.nodup_nil⟩, (fun _ h => nomatch h), er, by omega, eP, by rw [List.map_nil, List.append_nil]; exact ePm⟩ ?_ ?_ ?_
    · exact fun _ _ _ _ _ => trivial
    · rintro i x σ H30 H3 hi ⟨y4, y5, q2, es2, f2, R, rfl, d3, nq2, eq2, hR2, hf2, er3, lR, inR, pm⟩ ⟨rfl, rfl⟩
      have hi : i < es.length := by omega
      refine ⟨_, rfl, .inl ⟨rfl, _, SqL.of er3⟩, _, rfl, _, rfl, rl, _, rfl, .inl (SqL.of er3), p, c, R.length, by rw [List.length_map]; rfl, by omega, d3.st, fun H4 r _ hr4 st4 dr4 => ?_⟩
      have hr4 := hr4 (by omega)
      have d4 := d3.drawn st4 dr4
      have er4 := (dr4 rl nrp.1 nrp.2).trans er3
      obtain ⟨e, ge⟩ : ∃ e, R[r]? = some e := ⟨_, List.getElem?_eq_getElem hr4⟩
      have hem := inR e (List.mem_of_getElem? ge)
      have nq := st.new nq2
      have eq4 := (dr4 q2 nq.1 nq.2).trans eq2
      refine ⟨rl, _, (r : Int), r, .ref e.2.1, rfl, rfl, er4, by omega, by omega, by
        unfold seqIndex?
        rw [List.length_map]
        simp
        omega, get_map _ ge, ?_⟩
      rw [List.eraseIdx_eq_take_drop_succ, ← List.map_take, ← List.map_drop, ← List.map_append]
      have Rs : R = R.take r ++ e :: R.drop (r + 1) := take_split ge
      have lR' : (R.take r ++ R.drop (r + 1)).length + (i + 1) = es.length := by
        have := congrArg List.length Rs
        rw [List.length_append, List.length_cons] at this
        rw [List.length_append]
        omega
      have inR' : ∀ e' ∈ R.take r ++ R.drop (r + 1), e' ∈ es := fun e' h' => by
        refine inR e' ?_
        rcases List.mem_append.mp h' with h' | h'
        · exact List.mem_of_mem_take h'
        · exact List.mem_of_mem_drop h'
      have pm1 : (R.map (·.1)).Perm (e.1 :: (R.take r ++ R.drop (r + 1)).map (·.1)) := by
        conv => lhs; rw [Rs]
        rw [List.map_append, List.map_cons, List.map_append]
        exact List.perm_middle
      have nin : e.1 ∉ es2.map (·.1) := fun z => by
        have nd := pm.nodup_iff.mpr hR.nd
        rw [List.nodup_append] at nd
        exact nd.2.2 _ (List.mem_map.mpr ⟨e, List.mem_of_getElem? ge, rfl⟩) _ z rfl
      have l2 : es2.length ≤ 25 := by
        have := pm.length_eq
        rw [List.length_append, List.length_map, List.length_map, List.length_map] at this
        omega
      have pm2 : ((R.take r ++ R.drop (r + 1)).map (·.1) ++ (es2.map (·.1) ++ [e.1])).Perm (es.map (·.1)) := by
        refine List.Perm.trans ?_ pm
        rw [← List.append_assoc]
        refine (List.perm_append_singleton _ _).trans ?_
        rw [← List.cons_append]
        exact pm1.symm.append_right _
      generalize R.take r ++ R.drop (r + 1) = R' at lR' inR' pm2
      have sl := lst_upd d4 nrp er4 (lst_no d4.tg er4 fun _ z => nomatch z) nrl (ys := R'.map fun e => V.ref e.2.1)
      have er5 : upd H4 rl (.lst (R'.map fun e => V.ref e.2.1)) rl = some (.lst (R'.map fun e => V.ref e.2.1)) := upd_same
      have f5 : Fm H4 (upd H4 rl (.lst (R'.map fun e => V.ref e.2.1))) := fm_lst er4
      have eq5 : upd H4 rl (.lst (R'.map fun e => V.ref e.2.1)) q2 = some (dNO ktK P w q2 es2) := (upd_ne fun z => by rw [z, er4] at eq4; cases eq4).trans eq4
      have hR25 : RecAt P w (upd H4 rl (.lst (R'.map fun e => V.ref e.2.1))) q2 es2 f2 := (hR2.fm (fm_drawn d3.st dr4)).fm f5
      change (tSeq _ _ _ [some (.ref p), some (.ref a), some (.ref rl), some (.ref q2), some (.int (0 + (i : Nat))), some (.ref e.2.1)] (upd H4 rl (.lst (R'.map fun e => V.ref e.2.1))))
      generalize upd H4 rl (.lst (R'.map fun e => V.ref e.2.1)) = H5 at sl er5 f5 eq5 hR25
      have nfe := hR.nd
      obtain ⟨e7, m1, m2, m3⟩ := find_of (List.mem_map.mpr ⟨e, hem, rfl⟩ : e.1 ∈ es.map (·.1))
      obtain rfl : e7 = e := nd_inj nfe m2 hem m3
      have wr : ∀ (Ha : Hp) (q2 : Addr) (es2 : List (Key × Addr × V)) (f2 : Key → What) (y4 : Option V) (R2 : VK), DT p c Ts H Ha → H q2 = none → Ha q2 = some (dNO ktK P w q2 es2) → RecAt P w Ha q2 es2 f2 → (∀ k ∈ es2.map (·.1), f2 k = f k) → es2.length ≤ 1000 →
          (∀ Hb q3 es3 f3, DT p c Ts H Hb → Tbs Ts Ha Hb → H q3 = none → Hb q3 = some (dNO ktK P w q3 es3) → RecAt P w Hb q3 es3 f3 → (∀ k ∈ es3.map (·.1), f3 k = f k) → es3.map (·.1) = addK (es2.map (·.1)) e7.1 → R2 (.ref q3) Hb) →
          tCall (spWR P w K Ts C) [] E0 (tCons (tVar 3) (tCons (tVar 5) (tCons (tOp (GX.rIxN ktK P w K) (tVar 1) (tVar 5)) tNil))) [some (.ref p), some (.ref a), some (.ref rl), some (.ref q2), y4, some (.ref e7.2.1)] Ha R2 := by
        intro Ha q2 es2 f2 y4 R2 da nq2 eqa hRa hfa la hq
        have hRo := hR.fm (da.fm st g)
        have hw := hRo.vl e7 m2
        obtain ⟨va, eva⟩ := what_ref hw
        rw [eva] at hw
        refine ⟨_, rfl, _, rfl, _, rfl, _, rfl, a, e7.2.1, es, e7.1, e7, rfl, rfl, hRo.rd, hRo.keys, dp_K (hRo.ky e7 m2), m1, ?_⟩
        rw [eva]
        refine ⟨q2, e7.2.1, va, rfl, da.tg, .inr ⟨es2, f2, e7.1, f e7.1, hRa, la, hRo.ky e7 m2, hw, hd.ok _ (List.mem_map.mpr ⟨e7, m2, rfl⟩), .inr ⟨eqa, fun z => hfa _ z, fun Hb q3 es3 tb nq3 eq3 hR3 hk3 => ?_⟩⟩⟩
        refine hq Hb q3 es3 _ (da.tbs tb) tb (da.none nq3) eq3 hR3 (fun k hk => ?_) hk3
        unfold setF
        by_cases z : k = e7.1
        · rw [if_pos z, z]
        · rw [if_neg z]
          rw [hk3, mem_addK] at hk
          exact hfa k (hk.resolve_right z)
      refine wr H5 q2 es2 f2 _ _ sl nq2 eq5 hR25 hf2 (by omega) fun H6 q3 es3 f3 d6 t6 nq3 eq6 hR6 hf6 hk6 => ?_
      rw [addK_new nin] at hk6
      have er6 := t6.at_ sl.tg er5 fun _ z => nomatch z
      have l3 : es3.length ≤ 26 := by
        have := congrArg List.length hk6
        rw [List.length_map, List.length_append, List.length_map] at this
        simp only [List.length_cons, List.length_nil] at this
        omega
      refine ⟨_, rfl, p, c, 4, rfl, by decide, d6.st, fun H7 r7 _ hr7 st7 dr7 => ⟨rfl, _, rfl, ?_⟩⟩
      have d7 := d6.drawn st7 dr7
      have er7 := (dr7 rl nrp.1 nrp.2).trans er6
      have nq3' := st.new nq3
      have eq7 := (dr7 q3 nq3'.1 nq3'.2).trans eq6
      have hR7 := hR6.fm (fm_drawn d6.st dr7)
      refine ite2 (fun _ => ?_) (fun _ => ⟨_, _, q3, es3, f3, R', rfl, d7, nq3, eq7, hR7, hf6, er7, lR', inR', by rw [hk6]; exact pm2⟩)
      refine wr H7 q3 es3 f3 _ _ d7 nq3 eq7 hR7 hf6 (by omega) fun H8 q4 es4 f4 d8 t8 nq4 eq8 hR8 hf8 hk8 => ⟨_, _, q4, es4, f4, R', rfl, d8, nq4, eq8, hR8, hf8, t8.at_ d7.tg er7 (fun _ z => nomatch z), lR', inR', ?_⟩
      rw [hk8, addK_old (by rw [hk6]; exact List.mem_append_right _ List.mem_cons_self), hk6]
      exact pm2
    · rintro σ H3 ⟨y4, y5, q2, es2, f2, R, rfl, d3, nq2, eq2, hR2, hf2, er3, lR, inR, pm⟩
      have hR0 : R = [] := List.length_eq_zero_iff.mp (by omega)
      subst hR0
      exact ⟨_, rfl, q H3 q2 es2 f2 d3 nq2 eq2 hR2 hf2 pm⟩
end
end K20
namespace K20
open PySem PySem.Spec PyProof.Rows L2 TL TR QR
open GX (dNO)
open GxR (TabB TabG Tabbed)
abbrev sTD : Stmt := topS 33
abbrev nTD : List Str := ["records", "key", "what", "e"]
theorem scTD : FnScope nTD ["records", "key", "what"] (defScope sTD) := ⟨rfl, rfl, rfl, by decide +kernel, rfl, by decide +kernel, by decide +kernel⟩
structure VouF (K : PySem.W.Frag) (mg : Str → Option Value) (C fI CW CP : Addr) : Prop where
  low : PySem.TextX.TextTxt K mg C fI
  ex : ExcC K C
  gW : mg "WardError" = some (.ref CW)
  gP : mg "PatchError" = some (.ref CP)
  teW : PySem.W.exmOne K (.ref C) (.ref CW) = some true
  kV : PySem.W.kitOne K (.ref C) (.ref C) = some true
  kE : PySem.W.kitOne K (.ref C) (.type "ValueError") = some true
  kP : PySem.W.kitOne K (.ref C) (.ref CP) = some false
  mi : mg "isinstance" = none
  mV : mg "ValueError" = none
section
variable {P : Program} {w : World} {K : PySem.W.Frag} {mg : Str → Option Value} {base : Heap} {C fI CW CP : Addr}
def spTD (P : Program) (w : World) (K : PySem.W.Frag) (Ts : List Addr) : Sp := fun vs H Q _ => ∃ (v0 : V) (ka wa : Addr), vs = [v0, .ref ka, .ref wa] ∧ TG Ts H ∧
  ((∃ pl, (v0 = .non ∨ ∃ a, v0 = .ref a) ∧ FaultAt H ka wa pl ∧ ∀ H', Tbs Ts H H' → Q (.str pl) H') ∨
   (∃ k x, v0 = .non ∧ KeyO H ka k ∧ WhatAt H (.ref wa) x ∧ okRec k x = true ∧ ∀ H', Tbs Ts H H' → Q .non H') ∨
   (∃ a es f k x, v0 = .ref a ∧ RecAt P w H a es f ∧ es.length ≤ 1000 ∧ KeyO H ka k ∧ WhatAt H (.ref wa) x ∧ okRec k x = true ∧ k ∈ es.map (·.1) ∧ f k ≠ x ∧ ∀ H', Tbs Ts H H' → Q (.str "other") H'))
theorem ok_TD {f fCK fWR : Addr} {Ts : List Addr} {fd fdCK fdWR : FuncData} (F : Fun K "_law_told" "_law_told" sTD f fd) (L : VouF K mg C fI CW CP)
    (GCK : FnOk P w K mg base (L2.CX P w) 5 fCK fdCK ["key", "what"] (spCK Ts C)) (bCK : Binds K fdCK ["key", "what"] []) (gCK : mg "check_record" = some (.ref fCK)) (kCK : PySem.W.keepIn K (.ref fCK) = true)
    (GWR : FnOk P w K mg base (L2.CX P w) 6 fWR fdWR ["records", "key", "what"] (spWR P w K Ts C)) (bWR : Binds K fdWR ["records", "key", "what"] []) (gWR : mg "with_record" = some (.ref fWR)) (kWR : PySem.W.keepIn K (.ref fWR) = true) :
    FnOk P w K mg base CX0 7 f fd ["records", "key", "what"] (spTD P w K Ts) := by
  refine F.ok scTD (fun vs H Q E h => ?_) (fun cdv A outer s H vs Q E hr h => ?_)
  · obtain ⟨v0, ka, wa, rfl, _⟩ := h
    rfl
  · obtain ⟨v0, ka, wa, rfl, g, h⟩ := h
    have hu := hr.units
    have hu1 := hu_of hr
    have hr1 : Room 1 _ := hr.mono (by decide)
    have hr2 : Room 2 _ := hr.mono (by decide)
    have hr3 : Room 3 _ := hr.mono (by decide)
    have hr4 : Room 4 _ := hr.mono (by decide)
    have hr5 : Room 5 _ := hr.mono (by decide)
    have hr6 : Room 6 _ := hr.mono (by decide)
    have zl := zl
    refine ⟨_, (pss_one (ps_try_as (i := 3) rfl rfl scTD.nd rfl rfl ⟨rfl, by decide, .inl L.gW⟩ takes0
        (fun W pn xe tk _ => (pss_cons (ps_if (pt_cmpR op_isN (pv 0) (pe_non) (nomark _))
      (pss_one (ps_ret (pe_callS GCK hr5 (by rfl) gCK kCK bCK (fun σ => passAt tk σ) (pa_cons (pv 1) (pa_cons (pv 2) pa_nil))))) pss_nil)
      (pss_one (ps_ret (pe_callS GWR hr6 (by rfl) gWR kWR bWR (fun σ => passAt tk σ) (pa_cons (pv 0) (pa_cons (pv 1) (pa_cons (pv 2) pa_nil))))))))
        (fun a oe cls d pn hz hf => (pss_cons (ps_if (PW.pt (pw_and (pt_val (pe_callB (K71E.call_isD L.ex hz hf) (by rfl) L.mi (by decide +kernel) (pa_cons (pv 3) (pa_cons (pe_glob (v := V.ref C) (by rfl) L.low.gC rfl) pa_nil)))) (pw_and (pt_val (pe_callB (K71E.call_isD L.ex hz hf) (by rfl) L.mi (by decide +kernel) (pa_cons (pv 3) (pa_cons (pe_bltn (v := V.ty "ValueError") (u := .type "ValueError") (by rfl) L.mV (by decide +kernel) rfl) pa_nil)))) (pw_and1 (pt_not (pt_val (pe_callB (K71E.call_isD L.ex hz hf) (by rfl) L.mi (by decide +kernel) (pa_cons (pv 3) (pa_cons (pe_glob (v := V.ref CP) (by rfl) L.gP rfl) pa_nil)))))))))
      (pss_one (ps_ret (pe_atOf L.low hz hf (pv 3)))) pss_nil)
      (pss_one (ps_ret (pe_str))))))), ?_⟩
    have han : ∀ (pl : Str) (H1 : Hp), Tbs Ts H H1 → (∀ H', Tbs Ts H H' → Q (.str pl) H') → ∀ (a0 er : Addr), H1 er = none →
        tSeq (tIfS (tAnd (tB (tCB (K71E.rIsD K C a0 (.ref C) (some er)) (tCons (tVar 3) (tCons (tC (V.ref C)) tNil)))) (tAnd (tB (tCB (K71E.rIsD K C a0 (.ref C) (some er)) (tCons (tVar 3) (tCons (tC (V.ty "ValueError")) tNil)))) (tNot (tB (tCB (K71E.rIsD K C a0 (.ref C) (some er)) (tCons (tVar 3) (tCons (tC (V.ref CP)) tNil)))))))
          (tRet (tStepOf C a0 (.ref C) (some er) (tVar 3))) tNext) (tRet (tC (V.str "raised otherwise"))) { nx := fun x H' => Q V.non H', rt := Q } [some v0, some (.ref ka), some (.ref wa), some (.ref a0)] (upd H1 er (.xd [("place", .str pl)])) := fun pl H1 t1 q a0 er her => by
      have t2 := t1.same (same_new (o := .xd [("place", .str pl)]) her)
      refine ⟨_, rfl, _, _, true, er, _, rfl, rfl, rfl, fun u h => h, L.kV, upd_same, true, rfl, iteT ?_⟩
      refine ⟨_, rfl, _, _, true, er, _, rfl, rfl, rfl, fun u h => h, L.kE, upd_same, true, rfl, iteT ?_⟩
      refine ⟨_, rfl, _, _, false, er, _, rfl, rfl, rfl, fun u h => h, L.kP, upd_same, false, rfl, iteT ?_⟩
      exact ⟨_, rfl, rfl, rfl, er, _, rfl, upd_same, q _ t2⟩
    rcases h with ⟨pl, hv, hf, q⟩ | ⟨k, x, rfl, hk, hx, ok, q⟩ | ⟨a, es, f, k, x, rfl, hR, hl, hk, hx, ok, hin, hne, q⟩
    · rcases hv with rfl | ⟨a, rfl⟩
      · refine ⟨_, rfl, rfl, _, rfl, iteT ⟨_, rfl, _, rfl, ck_fault g hf fun H1 t1 er her => ⟨true, L.teW, fun _ a0 _ => ?_, fun q => Bool.noConfusion q⟩⟩⟩
        exact han pl H1 t1 q a0 er her
      · refine ⟨_, rfl, rfl, _, rfl, iteF ⟨_, rfl, _, rfl, _, rfl, a, ka, wa, rfl, g, .inl ⟨pl, hf, fun H1 t1 er her => ⟨true, L.teW, fun _ a0 _ => ?_, fun q => Bool.noConfusion q⟩⟩⟩⟩
        exact han pl H1 t1 q a0 er her
    · exact ⟨_, rfl, rfl, _, rfl, iteT ⟨_, rfl, _, rfl, ck_fine g hk hx ok fun H1 t1 => q H1 t1⟩⟩
    · refine ⟨_, rfl, rfl, _, rfl, iteF ⟨_, rfl, _, rfl, _, rfl, a, ka, wa, rfl, g, .inr ⟨es, f, k, x, hR, hl, hk, hx, ok, .inl ⟨hin, hne, fun H1 t1 er her => ⟨true, L.teW, fun _ a0 _ => ?_, fun q => Bool.noConfusion q⟩⟩⟩⟩⟩
      exact han "other" H1 t1 q a0 er her
end
end K20
namespace K20
open PySem PySem.Spec PyProof.Rows L2 TL TR QR
open GX (dNO)
abbrev sFA : Stmt := topS 34
abbrev nFA : List Str := ["name", "rows", "key", "number"]
theorem scFA : FnScope nFA ["name"] (defScope sFA) := ⟨rfl, rfl, rfl, by decide +kernel, rfl, by decide +kernel, by decide +kernel⟩
/-- a row: a key, what it says, the place of the fault -/
def RowF (H : Hp) (r : Addr) : Prop := ∃ (ka wa : Addr) (pl : Str), H r = some (.tup [.ref ka, .ref wa, .str pl]) ∧ FaultAt H ka wa pl
theorem RowF.ts {H H' : Hp} {r : Addr} (s : TS H H') : RowF H r → RowF H' r := fun ⟨ka, wa, pl, a, b⟩ => ⟨ka, wa, pl, s _ _ a, b.ts s⟩
/-- a key that is none -/
def KF (H : Hp) (k : Addr) : Prop := ∃ (h : Str) (n : Nat), H k = some (.tup [.str h, .int (n : Int)]) ∧ h.length ≤ 100000 ∧ keyB h n = false
theorem KF.ts {H H' : Hp} {k : Addr} (s : TS H H') : KF H k → KF H' k := fun ⟨h, n, a, b⟩ => ⟨h, n, s _ _ a, b⟩
theorem kf_new {H : Hp} {k : Addr} {h : Str} {n : Nat} (_ : H k = none) (hb : keyB h n = false) (hl : h.length ≤ 100000) : KF (upd H k (.tup [.str h, .int (n : Int)])) k := ⟨h, n, upd_same, hl, hb⟩
theorem five {H : Hp} {k0 k1 k2 k3 k4 : Addr} (h0 : KF H k0) (h1 : KF H k1) (h2 : KF H k2) (h3 : KF H k3) (h4 : KF H k4) : ∀ k ∈ [k0, k1, k2, k3, k4], KF H k := by
  intro k hk
  simp only [List.mem_cons, List.not_mem_nil, or_false] at hk
  rcases hk with rfl | rfl | rfl | rfl | rfl <;> assumption
/-- the rows so far -/
structure RL (H : Hp) (D : Addr) (n : Nat) : Prop where
  ex : ∃ rs : List Addr, H D = some (.lst (rs.map V.ref)) ∧ (∀ r ∈ rs, RowF H r) ∧ rs.length = n
  le : n ≤ 100
theorem RL.same {H H' : Hp} {D : Addr} {n : Nat} (s : Same H H') (h : RL H D n) : RL H' D n := by
  obtain ⟨⟨rs, a, b, c⟩, d⟩ := h
  exact ⟨⟨rs, s _ _ a, fun r hr => (b r hr).ts (Same.ts s), c⟩, d⟩
section
variable {P : Program} {w : World} {K : PySem.W.Frag} {mg : Str → Option Value} {base : Heap}
/-- a row more -/
theorem RL.app {H : Hp} {D r : Addr} {n : Nat} {R : VK} (h : RL H D n) (hn : n < 100) (hr : RowF H r) (q : ∀ H', RL H' D (n + 1) → EX D H H' → R .non H') : rAppend (.ref D) [.ref r] H R := by
  have zl := zl
  obtain ⟨⟨rs, a, b, c⟩, d⟩ := h
  have tl := ts_oth (o := .lst ((rs ++ [r]).map V.ref)) a fun _ z => nomatch z
  have e1 : rs.map V.ref ++ [V.ref r] = (rs ++ [r]).map V.ref := by rw [List.map_append]; rfl
  have fin : R .non (upd H D (.lst ((rs ++ [r]).map V.ref))) := q _ ⟨⟨rs ++ [r], upd_same, fun x hx => by
    rcases List.mem_append.mp hx with hx | hx
    · exact (b x hx).ts tl
    · rw [List.mem_singleton.mp hx]
      exact hr.ts tl, by rw [List.length_append, c]; rfl⟩, by omega⟩ EX.upd
  rw [← e1] at fin
  exact ⟨D, _, _, rfl, rfl, a, by rw [List.length_map]; omega, fin⟩
def spFA : Sp := fun vs H Q _ => ∃ (nv : V), vs = [nv] ∧ NmAt H nv (nmOf 0) ∧ ∀ H' D n, Same H H' → RL H' D n → Q (.ref D) H'
theorem ok_FA {f : Addr} {fd : FuncData} (F : Fun K "_law_faults" "_law_faults" sFA f fd) : FnOk P w K mg base CX0 1 f fd ["name"] spFA := by
  refine F.ok scFA (fun vs H Q E h => ?_) (fun cdv A outer s H vs Q E hr h => ?_)
  · obtain ⟨nv, rfl, _⟩ := h
    rfl
  · obtain ⟨nv, rfl, hn, q⟩ := h
    have hu := hr.units
    have hu1 := hu_of hr
    have zl := zl
    refine ⟨_, (pss_cons (ps_set (i := 1) scFA.nd rfl (.inl rfl) (pe_lst (pa_nil)))
      (pss_cons (ps_for PassesOwn.never rfl (pi_list (pe_lst (pa_cons (pe_tup (pa_cons (pe_str) (pa_cons (pe_int) pa_nil))) (pa_cons (pe_tup (pa_cons (pe_str) (pa_cons (pe_int) pa_nil))) (pa_cons (pe_tup (pa_cons (pe_op TR.op_repS (pe_str) (pe_int)) (pa_cons (pe_int) pa_nil))) (pa_cons (pe_tup (pa_cons (pe_str) (pa_cons (pe_int) pa_nil))) (pa_cons (pe_tup (pa_cons (pe_str) (pa_cons (pe_int) pa_nil))) pa_nil))))))) (pg_name (i := 2) scFA.nd rfl (.inl rfl))
      (pss_one (ps_expr (pe_bm PySem.F.plainAttrs_list PySem.F.slot_list_append PySem.F.type_list_append mt_append (pv 1) (pa_cons (pe_tup (pa_cons (pv 2) (pa_cons (pe_tup (pa_cons (pe_str) (pa_cons (pv 0) pa_nil))) (pa_cons (pe_str) pa_nil)))) pa_nil)))))
      (pss_cons (ps_expr (pe_bm PySem.F.plainAttrs_list PySem.F.slot_list_append PySem.F.type_list_append mt_append (pv 1) (pa_cons (pe_tup (pa_cons (pe_tup (pa_cons (pe_str) (pa_cons (pe_int) pa_nil))) (pa_cons (pe_tup (pa_cons (pe_str) (pa_cons (pe_int) pa_nil))) (pa_cons (pe_str) pa_nil)))) pa_nil)))
      (pss_cons (ps_for PassesOwn.never rfl (pi_list (pe_lst (pa_cons (pe_int) (pa_cons (pe_int) (pa_cons (pe_un un_neg (pe_int)) pa_nil))))) (pg_name (i := 3) scFA.nd rfl (.inl rfl))
      (pss_one (ps_expr (pe_bm PySem.F.plainAttrs_list PySem.F.slot_list_append PySem.F.type_list_append mt_append (pv 1) (pa_cons (pe_tup (pa_cons (pe_tup (pa_cons (pe_str) (pa_cons (pe_int) pa_nil))) (pa_cons (pe_tup (pa_cons (pe_str) (pa_cons (pv 3) pa_nil))) (pa_cons (pe_str) pa_nil)))) pa_nil)))))
      (pss_cons (ps_expr (pe_bm PySem.F.plainAttrs_list PySem.F.slot_list_append PySem.F.type_list_append mt_append (pv 1) (pa_cons (pe_tup (pa_cons (pe_tup (pa_cons (pe_str) (pa_cons (pe_int) pa_nil))) (pa_cons (pe_tup (pa_cons (pe_str) (pa_cons (pe_tup (pa_cons (pe_ix ix_tup (pv 0) (pe_int) (fun _ _ => rfl)) (pa_cons (pe_str) (pa_cons (pe_int) pa_nil)))) pa_nil))) (pa_cons (pe_str) pa_nil)))) pa_nil)))
      (pss_cons (ps_expr (pe_bm PySem.F.plainAttrs_list PySem.F.slot_list_append PySem.F.type_list_append mt_append (pv 1) (pa_cons (pe_tup (pa_cons (pe_tup (pa_cons (pe_str) (pa_cons (pe_int) pa_nil))) (pa_cons (pe_tup (pa_cons (pe_str) (pa_cons (pe_tup (pa_cons (pe_tup (pa_cons (pe_str) (pa_cons (pe_int) (pa_cons (pe_tup (pa_nil)) pa_nil)))) (pa_cons (pe_str) (pa_cons (pe_int) pa_nil)))) pa_nil))) (pa_cons (pe_str) pa_nil)))) pa_nil)))
      (pss_cons (ps_expr (pe_bm PySem.F.plainAttrs_list PySem.F.slot_list_append PySem.F.type_list_append mt_append (pv 1) (pa_cons (pe_tup (pa_cons (pe_tup (pa_cons (pe_str) (pa_cons (pe_int) pa_nil))) (pa_cons (pe_tup (pa_cons (pe_str) (pa_cons (pe_int) pa_nil))) (pa_cons (pe_str) pa_nil)))) pa_nil)))
      (pss_one (ps_ret (pv 1)))))))))), ?_⟩
    dsimp only [tNext, tSeq, tIfS, tAsg, gName, tC, cxOf]
    have L2' : (2 : Nat) ≤ sizeLine := by omega
    refine ⟨by show 0 ≤ sizeLine; omega, fun D nD => ?_⟩
    have sD := same_new (o := .lst []) nD
    have L3' : (3 : Nat) ≤ sizeLine := by omega
    have add : ∀ {Ha : Hp} {n : Nat} {ka wa r : Addr} {pl : Str}, RL Ha D n → FaultAt Ha ka wa pl → Ha r = none → RL (upd Ha r (.tup [.ref ka, .ref wa, .str pl])) D n ∧ RowF (upd Ha r (.tup [.ref ka, .ref wa, .str pl])) r ∧ EX D Ha (upd Ha r (.tup [.ref ka, .ref wa, .str pl])) := fun {Ha n ka wa r pl} hr hf nr =>
      ⟨hr.same (same_new nr), ⟨ka, wa, pl, upd_same, hf.ts (Same.ts (same_new nr))⟩, EX.same (same_new nr)⟩
    refine ⟨L2', fun k0 n0 => ⟨L2', fun k1 n1 => ⟨_, _, rfl, rfl, by decide, by decide, by decide +kernel, L2', fun k2 n2 => ⟨L2', fun k3 n3 => ⟨L2', fun k4 n4 => ⟨by show 5 ≤ sizeLine; omega, fun l5 n5 => ⟨l5, rfl, ⟨_, SqL.of upd_same⟩, ?_⟩⟩⟩⟩⟩⟩⟩
    have hb2 : keyB (Sg (repL (tl (Str.ofString "a")) 9)) 1 = false := by decide +kernel
    have hl2 : (Sg (repL (tl (Str.ofString "a")) 9)).length ≤ 100000 := by decide +kernel
    have K0 := kf_new (h := "") (n := 1) n0 (by decide +kernel) (by decide +kernel)
    have S1 := same_new (o := .tup [.str "Ann", .int 1]) n1
    have K1 := kf_new (h := "Ann") (n := 1) n1 (by decide +kernel) (by decide +kernel)
    have S2 := same_new (o := .tup [.str (Sg (repL (tl (Str.ofString "a")) 9)), .int 1]) n2
    have K2 := kf_new (h := Sg (repL (tl (Str.ofString "a")) 9)) (n := 1) n2 hb2 hl2
    have S3 := same_new (o := .tup [.str "ann", .int 0]) n3
    have K3 := kf_new (h := "ann") (n := 0) n3 (by decide +kernel) (by decide +kernel)
    have S4 := same_new (o := .tup [.str "ann", .int 100000]) n4
    have K4 := kf_new (h := "ann") (n := 100000) n4 (by decide +kernel) (by decide +kernel)
    have S5 := same_new (o := .lst [.ref k0, .ref k1, .ref k2, .ref k3, .ref k4]) n5
    have T4 := Same.ts S5
    have T3 := (Same.ts S4).trans T4
    have T2 := (Same.ts S3).trans T3
    have T1 := (Same.ts S2).trans T2
    have T0 := (Same.ts S1).trans T1
    have kk := five (K0.ts T0) (K1.ts T1) (K2.ts T2) (K3.ts T3) (K4.ts T4)
    have s0 := same_trans sD (same_trans (same_new (o := .tup [.str "", .int 1]) n0) (same_trans S1 (same_trans S2 (same_trans S3 (same_trans S4 S5)))))
    have eD4 := S4 _ _ (S3 _ _ (S2 _ _ (S1 _ _ (same_new (o := .tup [.str "", .int 1]) n0 _ _ (upd_same : (upd H D (.lst [])) D = _)))))
    have ne5 : l5 ≠ D := fun z => by rw [z, eD4] at n5; cases n5
    have r0 : RL _ D 0 := ⟨⟨[], S5 _ _ eD4, (fun _ h => nomatch h), rfl⟩, by decide⟩
    have sEX : ∀ {Ha H' : Hp}, Same H Ha → EX D Ha H' → Same H H' := fun s e b o h => e b o (ne_of_none h nD) (s b o h)
    have tEX : ∀ {Ha H' : Hp} {n m : Nat}, RL Ha D n → EX D Ha H' → K20.TS Ha H' := fun {Ha H' n m} r e b xs h => e b _ (fun z => by
      obtain ⟨⟨rs, a, _⟩, _⟩ := r
      rw [z, a] at h
      cases h) h
    refine for_list (xs := [k0, k1, k2, k3, k4].map V.ref) (fun i σ H' => ∃ (y2 : Option V), σ = [some nv, some (.ref D), y2, none] ∧ Same H H' ∧ H' l5 = some (.lst ([k0, k1, k2, k3, k4].map V.ref)) ∧ (∀ k ∈ [k0, k1, k2, k3, k4], KF H' k) ∧ RL H' D i)
      ⟨none, rfl, s0, upd_same, kk, r0⟩ ?_ ?_ ?_
    · rintro i σ H' _ ⟨_, _, _, e, _⟩
      exact SqL.of e
    · rintro i x σ Ha hx ⟨y2, rfl, sa, ea, ka, ra⟩
      obtain ⟨k, hk, rfl⟩ := map_get hx
      have hi : i < 5 := (List.getElem?_eq_some_iff.mp hk).1
      obtain ⟨⟨rs, hD, _⟩, _⟩ := id ra
      obtain ⟨h, n, f1, f2, f3⟩ := ka k (List.mem_of_getElem? hk)
      refine ⟨_, rfl, .inl ⟨rfl, _, SqL.of hD⟩, _, rfl, _, rfl, L2', fun wa nwa => ?_⟩
      have sw := same_new (o := .tup [.str "agree", nv]) nwa
      refine ⟨L3', fun r nr => ?_⟩
      obtain ⟨x1, x2, x3⟩ := add (wa := wa) (pl := "key") (ra.same sw) ⟨h, n, sw _ _ f1, f2, .inl ⟨f3, rfl⟩⟩ nr
      dsimp only [tNil]
      refine x1.app (by omega) x2 fun H' r' e' => ?_
      have e2 := x3.trans e'
      exact ⟨_, rfl, sEX (same_trans sa sw) e2, e2 l5 _ ne5 (sw _ _ ea), fun k hk => ((ka k hk).ts (Same.ts sw)).ts (tEX (m := 0) (ra.same sw) e2), r'⟩
    rintro σ Ha ⟨y2, rfl, sa, _, _, ra⟩
    clear kk ne5 S1 S2 S3 S4 S5 T0 T1 T2 T3 T4 K0 K1 K2 K3 K4 eD4 r0 s0 n0 n1 n2 n3 n4 n5
    have ra : RL Ha D 5 := ra
    have an5 : keyB "ann" 5 = true := by decide +kernel
    have an1 : keyB "ann" 1 = true := by decide +kernel
    obtain ⟨⟨rs, hD, _⟩, _⟩ := id ra
    refine ⟨_, rfl, .inl ⟨rfl, _, SqL.of hD⟩, L2', fun ka nka => ⟨L2', fun wa nwa => ?_⟩⟩
    have tup2 : ∀ {Ha : Hp} {ka wa : Addr} {h x : Str} {n : Nat} {v : V}, Ha ka = none → (upd Ha ka (.tup [.str h, .int (n : Int)])) wa = none → Same Ha (upd (upd Ha ka (.tup [.str h, .int (n : Int)])) wa (.tup [.str x, v])) ∧ (upd (upd Ha ka (.tup [.str h, .int (n : Int)])) wa (.tup [.str x, v])) ka = some (.tup [.str h, .int (n : Int)]) ∧ (upd (upd Ha ka (.tup [.str h, .int (n : Int)])) wa (.tup [.str x, v])) wa = some (.tup [.str x, v]) := fun {Ha ka wa h x n v} n1 n2 =>
      ⟨same_trans (same_new n1) (same_new n2), same_new n2 _ _ upd_same, upd_same⟩
    have l3 : ("ann" : Str).length ≤ 100000 := by decide +kernel
    -- ('ann', 1), ('withdraw', 1)
    obtain ⟨sw, ek, ew⟩ := tup2 (h := "ann") (x := "withdraw") (n := 1) (v := .int 1) nka nwa
    refine ⟨L3', fun r nr => ?_⟩
    obtain ⟨x1, x2, x3⟩ := add (pl := "number") (ra.same sw) ⟨"ann", 1, ek, l3, .inr ⟨an1, .inl ⟨1, ew, by decide, rfl⟩⟩⟩ nr
    dsimp only [tNil]
    refine x1.app (by decide) x2 fun Hb rb eb => ?_
    have sb := sEX (same_trans sa sw) (x3.trans eb)
    clear x1 x2 x3 sw ek ew nka nwa nr eb
    -- three numbers
    refine ⟨1, rfl, by show 3 ≤ sizeLine; omega, fun l6 n6 => ⟨l6, rfl, ⟨_, SqL.of upd_same⟩, ?_⟩⟩
    have rb6 := rb.same (same_new (o := .lst [.int 0, .int 5, .int (-1)]) n6)
    have sb6 := same_trans sb (same_new (o := .lst [.int 0, .int 5, .int (-1)]) n6)
    have ne6 : l6 ≠ D := fun z => by
      obtain ⟨⟨rs, hD, _⟩, _⟩ := rb
      rw [z, hD] at n6
      cases n6
    refine for_list (xs := [.int 0, .int 5, .int (-1)]) (fun i σ H' => ∃ (y3 : Option V), σ = [some nv, some (.ref D), y2, y3] ∧ Same H H' ∧ H' l6 = some (.lst [.int 0, .int 5, .int (-1)]) ∧ RL H' D (6 + i)) ⟨none, rfl, sb6, upd_same, rb6⟩ ?_ ?_ ?_
    · rintro i σ H' _ ⟨_, _, _, e, _⟩
      exact SqL.of e
    · rintro i x σ Ha hx ⟨y3, rfl, sa, ea, ra⟩
      have hi : i < 3 := (List.getElem?_eq_some_iff.mp hx).1
      obtain ⟨z, rfl, hz⟩ : ∃ z : Int, x = .int z ∧ ¬ (1 ≤ z ∧ z ≤ 4) := by
        match i, hi, hx with
        | 0, _, hx => cases hx; exact ⟨0, rfl, by decide⟩
        | 1, _, hx => cases hx; exact ⟨5, rfl, by decide⟩
        | 2, _, hx => cases hx; exact ⟨-1, rfl, by decide⟩
      obtain ⟨⟨rs, hD, _⟩, _⟩ := id ra
      refine ⟨_, rfl, .inl ⟨rfl, _, SqL.of hD⟩, L2', fun ka nka => ⟨_, rfl, L2', fun wa nwa => ?_⟩⟩
      obtain ⟨sw, ek, ew⟩ := tup2 (h := "ann") (x := "withdraw") (n := 5) (v := .int z) nka nwa
      refine ⟨L3', fun r nr => ?_⟩
      obtain ⟨x1, x2, x3⟩ := add (pl := "number") (ra.same sw) ⟨"ann", 5, ek, l3, .inr ⟨an5, .inl ⟨z, ew, hz, rfl⟩⟩⟩ nr
      dsimp only [tNil]
      refine x1.app (by omega) x2 fun H' r' e' => ?_
      have e2 := x3.trans e'
      exact ⟨_, rfl, sEX (same_trans sa sw) e2, e2 l6 _ ne6 (sw _ _ ea), r'⟩
    rintro σ Hc ⟨y3, rfl, sc, _, rc⟩
    have rc : RL Hc D 9 := rc
    clear sb6 rb6 ne6 rb sb n6
    -- an id that is none
    obtain ⟨⟨rs2, hD2, _⟩, _⟩ := id rc
    have hn2 := hn.ts (Same.ts sc)
    refine ⟨_, rfl, .inl ⟨rfl, _, SqL.of hD2⟩, L2', fun ka nka => ?_⟩
    have sk := same_new (o := .tup [.str "ann", .int 5]) nka
    obtain ⟨na, lv, env, nn1, nn2⟩ := hn2.ts (Same.ts sk)
    subst env
    have lAnn : (V.str (Str.ofString "ann")) = V.str (Sg [97, 110, 110]) := by rfl
    refine ⟨_, rfl, na, _, _, lv, rfl, rfl, SqT.of nn1, atI_nat (j := 0) rfl, L3', fun ia nia => ⟨L2', fun wa nwa => ?_⟩⟩
    have si := same_new (o := .tup [lv, .str "ann", .int 0]) nia
    have sw2 := same_new (o := .tup [.str "refuse", .ref ia]) nwa
    have s3' := same_trans sk (same_trans si sw2)
    have hna : NmAt _ (.ref ia) (lab3, [97, 110, 110], 0) := ⟨ia, lv, rfl, sw2 _ _ upd_same, nn2.ts (Same.ts (same_trans si sw2))⟩
    refine ⟨L3', fun r nr => ?_⟩
    obtain ⟨x1, x2, x3⟩ := add (pl := "id") (rc.same s3') ⟨"ann", 5, sw2 _ _ (si _ _ upd_same), l3, .inr ⟨an5, .inr ⟨"refuse", .ref ia, _, upd_same, by decide +kernel, hna, by decide, by decide, by decide +kernel, rfl⟩⟩⟩ nr
    dsimp only [tNil]
    refine x1.app (by decide) x2 fun Hd rd ed => ?_
    have sd := sEX (same_trans sc s3') (x3.trans ed)
    clear x1 x2 x3 hna s3' si sw2 sk nka nia nwa nr ed nn1 nn2 hn2
    -- a label that is none
    obtain ⟨⟨rs3, hD3, _⟩, _⟩ := id rd
    refine ⟨_, rfl, .inl ⟨rfl, _, SqL.of hD3⟩, L2', fun ka nka => ?_⟩
    refine ⟨by show 0 ≤ sizeLine; omega, fun ma nma => ⟨L3', fun la nla => ⟨L3', fun ia nia => ⟨L2', fun wa nwa => ⟨L3', fun r nr => ?_⟩⟩⟩⟩⟩
    have sk := same_new (o := .tup [.str "ann", .int 5]) nka
    have sm := same_new (o := .tup []) nma
    have sl := same_new (o := .tup [.str "label", .int 9, .ref ma]) nla
    have si := same_new (o := .tup [.ref la, .str "ann", .int 1]) nia
    have sw2 := same_new (o := .tup [.str "agree", .ref ia]) nwa
    have s3' := same_trans sk (same_trans sm (same_trans sl (same_trans si sw2)))
    have hna : NmAt _ (.ref ia) ((9, []), [97, 110, 110], 1) := ⟨ia, .ref la, rfl, sw2 _ _ upd_same, la, ma, rfl, sw2 _ _ (si _ _ upd_same), sw2 _ _ (si _ _ (sl _ _ upd_same))⟩
    obtain ⟨x1, x2, x3⟩ := add (pl := "id") (rd.same s3') ⟨"ann", 5, sw2 _ _ (si _ _ (sl _ _ (sm _ _ upd_same))), l3, .inr ⟨an5, .inr ⟨"agree", .ref ia, _, upd_same, by decide +kernel, hna, by decide, by decide, by decide +kernel, rfl⟩⟩⟩ nr
    dsimp only [tNil]
    refine x1.app (by decide) x2 fun He re ee => ?_
    have se := sEX (same_trans sd s3') (x3.trans ee)
    clear x1 x2 x3 hna s3' si sw2 sk sm sl nka nia nwa nma nla nr ee
    -- no key
    obtain ⟨⟨rs4, hD4, _⟩, _⟩ := id re
    refine ⟨_, rfl, .inl ⟨rfl, _, SqL.of hD4⟩, L2', fun ka nka => ⟨L2', fun wa nwa => ⟨L3', fun r nr => ?_⟩⟩⟩
    obtain ⟨sw, ek, ew⟩ := tup2 (h := "") (x := "withdraw") (n := 1) (v := .int 7) nka nwa
    obtain ⟨x1, x2, x3⟩ := add (wa := wa) (pl := "key") (re.same sw) ⟨"", 1, ek, by decide +kernel, .inl ⟨by decide +kernel, rfl⟩⟩ nr
    dsimp only [tNil]
    refine x1.app (by decide) x2 fun Hf rf ef => ?_
    exact ⟨_, rfl, q Hf D _ (sEX (same_trans se sw) (x3.trans ef)) rf⟩
end
end K20
/-! what the law's heap holds; the repr of records -/
namespace K20
open PySem PySem.Spec PyProof.Rows L2 TL TR QR
open GX (dNO LExt dictD)
open GxR (TabB TabG Tabbed)
open LamX (TabS CodeO)
/-! ### repr -/
structure Rp (b k : Nat) (d : PyData) : Prop where
  l : d.leavesShort 8 = true
  s : d.showable = true
  h : d.hasDict = false
  b : d.bulk ≤ b
  k : d.depth ≤ k
structure RpAll (b k : Nat) (ds : List PyData) : Prop where
  l : PyData.leavesShortAll 8 ds = true
  s : PyData.showableAll ds = true
  h : PyData.hasDictAll ds = false
  b : PyData.bulkAll ds ≤ b
  k : PyData.depthAll ds ≤ k
theorem RpAll.nil {b k : Nat} : RpAll b k [] := ⟨rfl, rfl, rfl, Nat.zero_le _, Nat.zero_le _⟩
theorem RpAll.cons {a b k : Nat} {d : PyData} {ds : List PyData} (x : Rp a k d) (y : RpAll b k ds) : RpAll (a + 1 + b) k (d :: ds) :=
  ⟨by rw [PyData.leavesShortAll, x.l, y.l]; rfl, by rw [PyData.showableAll, x.s, y.s]; rfl, by rw [PyData.hasDictAll, x.h, y.h]; rfl, by rw [PyData.bulkAll]; have := x.b; have := y.b; omega, by rw [PyData.depthAll]; have := x.k; have := y.k; omega⟩
theorem RpAll.lst {b k : Nat} {ds : List PyData} (y : RpAll b k ds) : Rp b (k + 1) (.list ds) :=
  ⟨by rw [PyData.leavesShort]; exact y.l, by rw [PyData.showable]; exact y.s, by rw [PyData.hasDict]; exact y.h, by rw [PyData.bulk]; exact y.b, by rw [PyData.depth]; have := y.k; omega⟩
theorem RpAll.tup {b k : Nat} {ds : List PyData} (y : RpAll b k ds) : Rp b (k + 1) (.tuple ds) :=
  ⟨by rw [PyData.leavesShort]; exact y.l, by rw [PyData.showable]; exact y.s, by rw [PyData.hasDict]; exact y.h, by rw [PyData.bulk]; exact y.b, by rw [PyData.depth]; have := y.k; omega⟩
theorem RpAll.map {α : Type} {b k : Nat} {f : α → PyData} : ∀ {xs : List α}, (∀ x ∈ xs, Rp b k (f x)) → RpAll ((b + 1) * xs.length) k (xs.map f)
  | [], _ => .nil
  | x :: xs, h => by
    have a := RpAll.cons (h x List.mem_cons_self) (RpAll.map fun y hy => h y (List.mem_cons_of_mem _ hy))
    rw [List.length_cons, Nat.mul_succ, Nat.add_comm]
    exact a
theorem Rp.mono {a b j k : Nat} {d : PyData} (x : Rp a j d) (h1 : a ≤ b) (h2 : j ≤ k) : Rp b k d := ⟨x.l, x.s, x.h, Nat.le_trans x.b h1, Nat.le_trans x.k h2⟩
theorem RpAll.mono {a b j k : Nat} {d : List PyData} (x : RpAll a j d) (h1 : a ≤ b) (h2 : j ≤ k) : RpAll b k d := ⟨x.l, x.s, x.h, Nat.le_trans x.b h1, Nat.le_trans x.k h2⟩
theorem rp_small : ∀ k : Nat, k < 100 → (PyData.int (k : Int)).leavesShort 8 = true ∧ (PyData.int (k : Int)).showable = true := by decide +kernel
theorem rp_int {k j : Nat} (h : k < 100) : Rp 0 j (.int (k : Int)) := ⟨(rp_small k h).1, (rp_small k h).2, rfl, Nat.zero_le _, Nat.zero_le _⟩
theorem rp_hd : ∀ i : _root_.Fin 4, (PyData.str (hdS i)).leavesShort 8 = true ∧ (PyData.str (hdS i)).showable = true ∧ (PyData.str (hdS i)).bulk ≤ 4 := by decide +kernel
theorem rp_key {k : Key} (h : k.2 < 100) : Rp 10 1 (encK k) := by
  obtain ⟨a, b, c⟩ := rp_hd k.1
  have hs : Rp 4 0 (.str (hdS k.1)) := ⟨a, b, rfl, c, Nat.le_refl _⟩
  unfold encK
  exact (RpAll.cons hs (RpAll.cons (rp_int h) (RpAll.nil (b := 0)))).tup.mono (by decide) (by decide)
theorem rp_say : ∀ (b : Bool) (i : _root_.Fin 6), (encW (.inr (b, i))).leavesShort 8 = true ∧ (encW (.inr (b, i))).showable = true ∧ (encW (.inr (b, i))).hasDict = false ∧ (encW (.inr (b, i))).bulk ≤ 60 ∧ (encW (.inr (b, i))).depth ≤ 5 := by decide +kernel
theorem rp_wd : (PyData.str "withdraw").leavesShort 8 = true ∧ (PyData.str "withdraw").showable = true ∧ (PyData.str "withdraw").bulk ≤ 10 := by decide +kernel
theorem rp_what {x : What} (h : ∀ n, x = .inl n → n < 100) : Rp 60 5 (encW x) := by
  rcases x with n | ⟨b, i⟩
  · obtain ⟨a, b, c⟩ := rp_wd
    have hs : Rp 10 0 (.str "withdraw") := ⟨a, b, rfl, c, Nat.le_refl _⟩
    exact (RpAll.cons hs (RpAll.cons (rp_int (h n rfl)) (RpAll.nil (b := 0)))).tup.mono (by decide) (by decide)
  · obtain ⟨a, b', c, d, e⟩ := rp_say b i
    exact ⟨a, b', c, d, e⟩
theorem rp_kvs {f : Key → What} : ∀ {es : List (Key × Addr × V)}, (∀ e ∈ es, Rp 10 1 (encK e.1) ∧ Rp 60 5 (encW (f e.1))) →
    PyData.leavesShortKv 8 (es.map fun e => (encK e.1, encW (f e.1))) = true ∧ PyData.showableKv (es.map fun e => (encK e.1, encW (f e.1))) = true ∧ PyData.bulkKv (es.map fun e => (encK e.1, encW (f e.1))) ≤ 80 * es.length ∧ PyData.depthKv (es.map fun e => (encK e.1, encW (f e.1))) ≤ 6
  | [], _ => ⟨rfl, rfl, Nat.zero_le _, Nat.zero_le _⟩
  | e :: es, h => by
    obtain ⟨h1, h2⟩ := h e List.mem_cons_self
    obtain ⟨i1, i2, i3, i4⟩ := rp_kvs (f := f) (es := es) fun x hx => h x (List.mem_cons_of_mem _ hx)
    have b1 := h1.b
    have b2 := h2.b
    have k1 := h1.k
    have k2 := h2.k
    refine ⟨?_, ?_, ?_, ?_⟩
    · rw [List.map_cons, PyData.leavesShortKv, h1.l, h2.l, i1]
      rfl
    · rw [List.map_cons, PyData.showableKv, h1.s, h2.s, i2]
      rfl
    · rw [List.map_cons, PyData.bulkKv, List.length_cons]
      omega
    · rw [List.map_cons, PyData.depthKv]
      omega
theorem rec_num {es : List (Key × Addr × V)} {f : Key → What} (h : Drawn25 es f) {k : Key} (hk : k ∈ es.map (·.1)) : ∀ n, f k = .inl n → 1 ≤ n ∧ n < k.2 := fun n e => by
  have := h.ok k hk
  unfold okRec at this
  rw [Bool.and_eq_true, e] at this
  exact of_decide_eq_true this.2
theorem rep_facts {es : List (Key × Addr × V)} {f : Key → What} (h : Drawn25 es f) (hl : es.length ≤ 25) : (dictD ktK (fun k => encW (f k)) es).showable = true ∧ (dictD ktK (fun k => encW (f k)) es).depth ≤ 60 ∧ (dictD ktK (fun k => encW (f k)) es).shown.length ≤ sizeLine := by
  obtain ⟨h1, h2, h3, h4⟩ := rp_kvs (f := f) (es := es) fun e he => by
    have hk : e.1 ∈ es.map (·.1) := List.mem_map.mpr ⟨e, he, rfl⟩
    exact ⟨rp_key (h.nb _ hk), rp_what fun n z => Nat.lt_trans (rec_num h hk n z).2 (h.nb _ hk)⟩
  refine ⟨?_, ?_, PyData.shown_fits_bulk (B := 8) (by decide) (by decide) ?_ ?_⟩
  · unfold dictD
    rw [PyData.showable]
    exact h2
  · unfold dictD
    rw [PyData.depth]
    exact Nat.le_trans (Nat.succ_le_succ h4) (by decide)
  · unfold dictD
    rw [PyData.leavesShort]
    exact h1
  · unfold dictD
    rw [PyData.bulk]
    exact Nat.le_trans h3 (Nat.le_trans (Nat.mul_le_mul_left _ hl) (by decide))
/-! ### the heap -/
structure LawH (P : Program) (w : World) (p c : Addr) (Ts : List Addr) (T4 a li : Addr) (es : List (Key × Addr × V)) (f : Key → What) (H : Hp) : Prop where
  st : StateAt H p c
  tg : TG Ts H
  t4 : TabS H T4 qLS
  rc : RecAt P w H a es f
  hd : H a = some (dNO ktK P w a es)
  ids : IdsAt H li
section
variable {P : Program} {w : World} {p c T4 a li : Addr} {Ts : List Addr} {es : List (Key × Addr × V)} {f : Key → What} {H H' : Hp}
theorem tabs_dt (n4 : T4 ∉ Ts) (d : DT p c Ts H H') (st : StateAt H p c) (g : TG Ts H) (h : TabS H T4 qLS) : TabS H' T4 qLS := by
  obtain ⟨ps, a, b, c'⟩ := h
  obtain ⟨⟨_, e1⟩, ⟨_, e2⟩⟩ := st.some
  refine ⟨ps, d.ou _ _ (fun z => by rw [z, e1] at a; cases a) (fun z => by rw [z, e2] at a; cases a) n4 a, b, fun pos cv h => ?_⟩
  obtain ⟨x, y, z⟩ := c' pos cv h
  exact ⟨x, y, d.at_ st g z (fun _ z => nomatch z) fun _ z => nomatch z⟩
theorem LawH.dt (h : LawH P w p c Ts T4 a li es f H) (n4 : T4 ∉ Ts) (lp : li ≠ p ∧ li ≠ c) (d : DT p c Ts H H') : LawH P w p c Ts T4 a li es f H' := by
  have fm := d.fm h.st h.tg
  refine ⟨d.st, d.tg, tabs_dt n4 d h.st h.tg h.t4, h.rc.fm fm, d.at_ h.st h.tg h.hd (fun _ z => nomatch z) (fun _ z => nomatch z), h.ids.fm fm.ts fun o e => ?_⟩
  obtain ⟨_, _, _, e1, _⟩ := h.ids
  rw [e1] at e
  cases e
  exact d.ou _ _ lp.1 lp.2 (lst_no h.tg e1 fun _ z => nomatch z) e1
theorem LawH.same (h : LawH P w p c Ts T4 a li es f H) (s : Same H H') : LawH P w p c Ts T4 a li es f H' :=
  ⟨h.st.same s, h.tg.same s, tabs_same s h.t4, h.rc.fm (Same.fm s), s _ _ h.hd, h.ids.fm (Same.ts s) fun o e => s _ _ e⟩
theorem LawH.tbs (h : LawH P w p c Ts T4 a li es f H) (n4 : T4 ∉ Ts) (lp : li ≠ p ∧ li ≠ c) (t : Tbs Ts H H') : LawH P w p c Ts T4 a li es f H' := h.dt n4 lp ((DT.refl h.st h.tg).tbs t)
theorem LawH.lext (h : LawH P w p c Ts T4 a li es f H) (n4 : T4 ∉ Ts) (l : LExt T4 H H') (t : TabS H' T4 qLS) : LawH P w p c Ts T4 a li es f H' := by
  obtain ⟨ps, hP, _⟩ := id h.t4
  have at_ : ∀ b o, H b = some o → (∀ ps, o ≠ .tbl ps) → H' b = some o := fun b o e n => l b o (fun z => by rw [z, hP] at e; exact n _ (Option.some.inj e).symm) e
  have fm := LExt.fm ⟨ps, hP⟩ l
  obtain ⟨⟨_, e1⟩, ⟨_, e2⟩⟩ := h.st.some
  refine ⟨h.st.mono (fun o e => ?_) fun o e => ?_, fun T hT => ?_, t, h.rc.fm fm, at_ _ _ h.hd (fun _ z => nomatch z), h.ids.fm fm.ts fun o e => ?_⟩
  · rw [e1] at e
    cases e
    exact at_ _ _ e1 fun _ z => nomatch z
  · rw [e2] at e
    cases e
    exact at_ _ _ e2 fun _ z => nomatch z
  · obtain ⟨qs, h1, h2⟩ := h.tg T hT
    exact ⟨qs, l _ _ (fun z => n4 (by rw [← z]; exact hT)) h1, h2⟩
  · obtain ⟨_, _, _, e1, _⟩ := h.ids
    rw [e1] at e
    cases e
    exact at_ _ _ e1 fun _ z => nomatch z
end
/-- the dict that was put together is the same -/
theorem same_recs {es es' : List (Key × Addr × V)} {f f' : Key → What} (hp : (es'.map (·.1)).Perm (es.map (·.1))) (hf : ∀ k ∈ es'.map (·.1), f' k = f k) :
    (es'.length == es.length && GX.sameD (fun k => encW (f' k)) (fun k => encW (f k)) es' es) = true := by
  have hl : es'.length = es.length := by
    have := hp.length_eq
    rwa [List.length_map, List.length_map] at this
  rw [Bool.and_eq_true]
  refine ⟨by rw [hl]; exact beq_self_eq_true _, ?_⟩
  unfold GX.sameD
  rw [List.all_eq_true]
  intro e he
  have hk : e.1 ∈ es'.map (·.1) := List.mem_map.mpr ⟨e, he, rfl⟩
  rw [Bool.and_eq_true]
  refine ⟨?_, ?_⟩
  · obtain ⟨x, hx, ex⟩ := List.mem_map.mp (hp.mem_iff.mp hk)
    exact List.any_eq_true.mpr ⟨x, hx, decide_eq_true ex⟩
  · show PyData.eqv (encW (f' e.1)) (encW (f e.1)) = true
    rw [hf _ hk, eqv_W]
    exact decide_eq_true rfl
theorem vals_rec {P : Program} {w : World} {K : PySem.W.Frag} {H : Hp} {a : Addr} {es : List (Key × Addr × V)} {f : Key → What} (h : RecAt P w H a es f) : GX.ValsD K H (fun k => encW (f k)) es := fun e he =>
  ⟨dp_W (h.vl e he), solid_plain _ (solid_W _), Nat.le_trans (encW_dep _) (by decide)⟩
theorem valsK_rec {P : Program} {w : World} {K : PySem.W.Frag} {H : Hp} {a : Addr} {es : List (Key × Addr × V)} {f : Key → What} (h : RecAt P w H a es f) : GX.ValsK K H (fun k => encW (f k)) es := fun e he =>
  ⟨dp_W (h.vl e he), encW_kd _⟩
theorem val_rec {es : List (Key × Addr × V)} {f : Key → What} (h : Drawn25 es f) : Valid (es.map (·.1)) f := fun k hk n e => rec_num h hk n e
theorem each_map {α : Type} {R : Addr → Key → Prop} : ∀ {es : List α} {f : α → Addr} {g : α → Key}, (∀ e ∈ es, R (f e) (g e)) → PySem.W.EachIs R (es.map f) (es.map g)
  | [], _, _, _ => .nil
  | e :: es, f, g, h => .cons (h e List.mem_cons_self) (each_map fun x hx => h x (List.mem_cons_of_mem _ hx))
theorem lsk_of {H : Hp} {p : Addr} {Es : List (Key × Addr × V)} (hp : H p = some (.lst (Es.map fun e => V.ref e.2.1))) (hk : ∀ e ∈ Es, KeyO H e.2.1 e.1) : LsK H p (Es.map (·.1)) :=
  ⟨Es.map (·.2.1), by rw [hp, List.map_map]; rfl, each_map hk⟩
theorem solid_keys : ∀ S : List Key, solidAll (S.map encK) = true
  | [] => rfl
  | k :: S => by rw [List.map_cons, solidAll, solid_keys S]; rfl
theorem dep_keys : ∀ S : List Key, PyData.depthAll (S.map encK) ≤ 1
  | [] => Nat.zero_le _
  | k :: S => by
    have := dep_keys S
    rw [List.map_cons, PyData.depthAll]
    have : (encK k).depth ≤ 1 := by simp [encK, PyData.depth, PyData.depthAll]
    omega
/-- two lists of the same keys -/
theorem ne_lsk {K : PySem.W.Frag} {H : Hp} {p q : Addr} {S : List Key} {Q : VK} (h1 : LsK H p S) (h2 : LsK H q S) (h : Q (.bl false) H) : rNeP K (.ref p) (.ref q) H Q := by
  have so : solid (.list (S.map encK)) = true := by rw [solid]; exact solid_keys S
  have dd : (PyData.list (S.map encK)).depth ≤ 60 := by
    rw [PyData.depth]
    have := dep_keys S
    omega
  refine ⟨_, _, h1.dp, h2.dp, solid_plain _ so, solid_plain _ so, dd, ?_⟩
  rw [(eqv_iff so so).mpr rfl]
  exact h
section
variable {P : Program} {w : World} {K : PySem.W.Frag}
/-- [d[key] is True for key in d], d's values are True -/
theorem lk_told {i j : Nat} {σ : L2.St} {H : Hp} {Q : VK} {d : Addr} {es : List (Key × Addr × V)} (hd : H d = some (dNO ktK P w d es)) (hk : ∀ e ∈ es, KeyO H e.2.1 e.1 ∧ e.2.2 = .bl true) (hl : es.length ≤ 1000)
    (hi : σ[i]? = some (some (.ref d))) (hj : ∀ v, wipe (((wipe σ [j]).set j (some v))) [j] = wipe σ [j]) (hjj : ∀ v : V, ((wipe σ [j]).set j (some v))[j]? = some (some v)) (hij : ∀ v : V, ((wipe σ [j]).set j (some v))[i]? = some (some (.ref d)))
    (q : ∀ D H', Same H H' → H' D = some (.lst ((es.map fun _ => true).map V.bl)) → Q (.ref D) H') :
    tLockE (tLc (GX.iKeysN ktK P w (tVar i)) (gName j) tYes (tOp (fun x y H Q => ∃ a b, x = .bl a ∧ y = .bl b ∧ Q (.bl (decide (a = b))) H) (tOp (GX.rIxN ktK P w K) (tVar i) (tVar j)) (tC (.bl true))) [j]) σ H Q := by
  have zl := zl
  refine ⟨d, _, hd, trivial, fun od => ?_⟩
  have fL : Fm H (upd H d (.frz od (dNO ktK P w d es))) := Fm.lock hd
  have hL0 : upd H d (.frz od (dNO ktK P w d es)) d = some (.frz od (dNO ktK P w d es)) := upd_same
  refine ⟨_, hi, d, od, es, rfl, hL0, fun D nD => ?_⟩
  have nDd : D ≠ d := fun e => by rw [e, hL0] at nD; cases nD
  refine lc_it (GX.walk_N (T := ktK) (P := P) (w := w)) (fun m H' => Same (upd H d (.frz od (dNO ktK P w d es))) H' ∧ H' D = some (.lst (((es.take m).map fun _ => true).map V.bl))) ⟨same_new nD, upd_same⟩ ?_ ?_ ?_
  · rintro m H' _ ⟨s, _⟩
    exact s _ _ hL0
  · rintro m x H0 H1 hm ⟨s, eD⟩ ⟨rfl, e, he, rfl⟩
    have hem := List.mem_of_getElem? he
    have f1 := fL.trans (Same.fm s)
    have hke : KeyO H1 e.2.1 e.1 := ((hk e hem).1).fm f1
    obtain ⟨e2, g1, g2, g3⟩ := find_of (List.mem_map.mpr ⟨e, hem, rfl⟩ : e.1 ∈ es.map (·.1))
    refine ⟨hj _, _, hij _, _, hjj _, d, e.2.1, es, e.1, e2, rfl, rfl, .inr ⟨od, s _ _ hL0⟩, fun e he => dp_K (((hk e he).1).fm f1), dp_K hke, g1, true, true, (hk e2 g2).2, rfl, _, eD, ?_, same_upd nD s, ?_⟩
    · rw [List.length_map, List.length_map, List.length_take]
      omega
    · rw [upd_same, List.take_add_one, he]
      simp
  · rintro H' ⟨s, eD⟩
    have hlock := s _ _ hL0
    rw [List.take_length] at eD
    refine ⟨hlock, q D _ (fun b o hb => ?_) ((upd_ne nDd).trans eD)⟩
    by_cases e : b = d
    · subst e
      rw [hd] at hb
      cases hb
      exact upd_same
    · rw [upd_ne e]
      exact s b o ((upd_ne e).trans hb)
end
theorem all_true {α : Type} : ∀ es : List α, (es.map fun _ => true).all id = true
  | [] => rfl
  | _ :: es => all_true es
end K20
namespace K20
open PySem PySem.Spec PyProof.Rows L2 TL TR QR
open GX (dNO LExt dictD)
open GxR (TabB TabG Tabbed)
open LamX (TabS CodeO)
open PySem.W (AllAlike Sortable EachIs)
abbrev sLAW : Stmt := topS 35
abbrev nLAW : List Str := ["script", "state", "ids", "records", "kept", "stands", "told", "key", "name", "word", "what", "place", "other"]
theorem scLAW : FnScope nLAW ["script"] (defScope sLAW) := ⟨rfl, rfl, rfl, by decide +kernel, rfl, by decide +kernel, by decide +kernel⟩
theorem five' {H : Hp} {v0 v1 v2 v3 v4 : V} (h0 : NmAt H v0 (nmOf 0)) (h1 : NmAt H v1 (nmOf 1)) (h2 : NmAt H v2 (nmOf 2)) (h3 : NmAt H v3 (nmOf 3)) (h4 : NmAt H v4 (nmOf 4)) :
    ∀ v ∈ ([v0, v1, v2, v3, v4] : List V), ∃ i : _root_.Fin 6, NmAt H v (nmOf i) := by
  intro k hk
  simp only [List.mem_cons, List.not_mem_nil, or_false] at hk
  rcases hk with rfl | rfl | rfl | rfl | rfl
  · exact ⟨0, h0⟩
  · exact ⟨1, h1⟩
  · exact ⟨2, h2⟩
  · exact ⟨3, h3⟩
  · exact ⟨4, h4⟩
section
variable {P : Program} {w : World} {K : PySem.W.Frag} {mg : Str → Option Value} {base : Heap} {C CS T4 : Addr} {Ts : List Addr}
def spLaw (K : PySem.W.Frag) (Ts : List Addr) (T4 : Addr) : Sp := fun vs H Q _ => ∃ (a : Addr) (ns : List Int), vs = [.ref a] ∧ SqL K H a (ns.map V.int) ∧ ns.length ≤ 63 ∧ TG Ts H ∧ TabS H T4 qLS ∧ T4 ∉ Ts ∧ ∀ H', Q (.bl true) H'
theorem ok_LAW {f fST fID fRS fPU fLS fSR fSO fLD fFA fTD : Addr} {fdST fdID fdRS fdPU fdLS fdSR fdSO fdLD fdFA fdTD : FuncData} {oc kV doc pm cdv ct : Value} {od an : Option Addr} {osl : Array (Option Value)}
    (lk : K.lookup f = some ⟨oc, od, .func (PySem.W.fnOf "law" "law" (defArgs sLAW) (defBody sLAW) (defScope sLAW) .none kV doc pm an cdv ct), osl⟩) (hcd : PySem.W.codeIn K cdv "law" = true)
    (GST : FnOk P w K mg base CX0 1 fST fdST ["script"] (spState K)) (bST : Binds K fdST ["script"] []) (gST : mg "_law_state" = some (.ref fST)) (kST : PySem.W.keepIn K (.ref fST) = true)
    (GID : FnOk P w K mg base CX0 1 fID fdID ["author", "number"] spID) (bID : Binds K fdID ["author", "number"] []) (gID : mg "_law_id" = some (.ref fID)) (kID : PySem.W.keepIn K (.ref fID) = true)
    (GRS : FnOk P w K mg base CX0 3 fRS fdRS ["state", "ids", "most"] (spRS P w K)) (bRS : Binds K fdRS ["state", "ids", "most"] []) (gRS : mg "_law_records" = some (.ref fRS)) (kRS : PySem.W.keepIn K (.ref fRS) = true)
    (GPU : FnOk P w K mg base CX0 7 fPU fdPU ["state", "records"] (spPU P w K Ts)) (bPU : Binds K fdPU ["state", "records"] []) (gPU : mg "_law_put" = some (.ref fPU)) (kPU : PySem.W.keepIn K (.ref fPU) = true)
    (GLS : FnOk P w K mg base CX0 2 fLS fdLS ["records"] (spLS P w K T4)) (bLS : Binds K fdLS ["records"] []) (gLS : mg "_law_stands" = some (.ref fLS)) (kLS : PySem.W.keepIn K (.ref fLS) = true)
    (GSR : FnOk P w K mg base CX0 1 fSR fdSR ["records"] (spSR P w K)) (bSR : Binds K fdSR ["records"] []) (gSR : mg "standing_records" = some (.ref fSR)) (kSR : PySem.W.keepIn K (.ref fSR) = true)
    (GSO : FnOk P w K mg base CX0 4 fSO fdSO ["records", "name", "word"] (spSO P w K CS)) (bSO : Binds K fdSO ["records", "name", "word"] []) (gSO : mg "said_of" = some (.ref fSO)) (kSO : PySem.W.keepIn K (.ref fSO) = true)
    (GLD : FnOk P w K mg base CX0 4 fLD fdLD ["records", "name", "word"] (spLD P w K T4)) (bLD : Binds K fdLD ["records", "name", "word"] []) (gLD : mg "_law_said" = some (.ref fLD)) (kLD : PySem.W.keepIn K (.ref fLD) = true)
    (GFA : FnOk P w K mg base CX0 1 fFA fdFA ["name"] spFA) (bFA : Binds K fdFA ["name"] []) (gFA : mg "_law_faults" = some (.ref fFA)) (kFA : PySem.W.keepIn K (.ref fFA) = true)
    (GTD : FnOk P w K mg base CX0 7 fTD fdTD ["records", "key", "what"] (spTD P w K Ts)) (bTD : Binds K fdTD ["records", "key", "what"] []) (gTD : mg "_law_told" = some (.ref fTD)) (kTD : PySem.W.keepIn K (.ref fTD) = true)
    (m_sorted : mg "sorted" = none) (m_all : mg "all" = none) (m_repr : mg "repr" = none) :
    GX.FnC P w K mg base f (PySem.W.fnOf "law" "law" (defArgs sLAW) (defBody sLAW) (defScope sLAW) .none kV doc pm an cdv ct) ["script"] (spLaw K Ts T4) := by
  refine GX.fn_C (k := 8) ⟨rfl, by decide +kernel, by decide +kernel⟩ lk hcd scLAW (fun vs H Q E h => ?_) fun A outer s H vs Q E hgd hr h => ?_
  · obtain ⟨a, ns, rfl, _⟩ := h
    rfl
  · obtain ⟨sa, ns, rfl, hS, hl, g, hT, n4, q⟩ := h
    have hu := hr.units
    have hu1 := hu_of hr
    have hr1 : Room 1 _ := hr.mono (by decide)
    have hr2 : Room 2 _ := hr.mono (by decide)
    have hr3 : Room 3 _ := hr.mono (by decide)
    have hr4 : Room 4 _ := hr.mono (by decide)
    have hr5 : Room 5 _ := hr.mono (by decide)
    have hr6 : Room 6 _ := hr.mono (by decide)
    have hr7 : Room 7 _ := hr.mono (by decide)
    have zl := zl
    have hg : (cxOf CX0 P w K mg base nLAW "law" (defScope sLAW) f cdv A outer s H E).nox.A.guards = some [] := hgd
    refine ⟨_, (pss_cons (ps_set (i := 1) scLAW.nd rfl (.inl rfl) (pe_call GST hr1 (by rfl) gST kST bST .nil pass0 (pa_cons (pv 0) pa_nil)))
      (pss_cons (ps_set (i := 2) scLAW.nd rfl (.inl rfl) (pe_lst (pa_cons (pe_call GID hr1 (by rfl) gID kID bID .nil pass0 (pa_cons (pe_str) (pa_cons (pe_int) pa_nil))) (pa_cons (pe_call GID hr1 (by rfl) gID kID bID .nil pass0 (pa_cons (pe_str) (pa_cons (pe_int) pa_nil))) (pa_cons (pe_call GID hr1 (by rfl) gID kID bID .nil pass0 (pa_cons (pe_str) (pa_cons (pe_int) pa_nil))) pa_nil)))))
      (pss_cons (ps_set (i := 3) scLAW.nd rfl (.inl rfl) (pe_call GRS hr3 (by rfl) gRS kRS bRS .nil pass0 (pa_cons (pv 1) (pa_cons (pv 2) (pa_cons (pe_int) pa_nil)))))
      (pss_cons (ps_set (i := 4) scLAW.nd rfl (.inl rfl) (pe_callB (GX.cr_reprN (T := ktK) hg hu) (by rfl) m_repr (by decide +kernel) (pa_cons (pv 3) pa_nil)))
      (pss_cons (ps_if (PW.pt (pw_or (pt_cmpR (GX.op_neN (T := ktK) hu) (pe_call GPU hr7 (by rfl) gPU kPU bPU .nil pass0 (pa_cons (pv 1) (pa_cons (pv 3) pa_nil))) (pv 3) (nomark _)) (pw_or1 (pt_cmpR (GX.op_neN (T := ktK) hu) (pe_call GPU hr7 (by rfl) gPU kPU bPU .nil pass0 (pa_cons (pv 1) (pa_cons (pv 3) pa_nil))) (pv 3) (nomark _)))))
      (pss_one (ps_ret (pe_bl))) pss_nil)
      (pss_cons (ps_set (i := 5) scLAW.nd rfl (.inr rfl) (pe_call GLS hr2 (by rfl) gLS kLS bLS .nil pass0 (pa_cons (pv 3) pa_nil)))
      (pss_cons (ps_set (i := 6) scLAW.nd rfl (.inr rfl) (pe_call GSR hr1 (by rfl) gSR kSR bSR .nil pass0 (pa_cons (pv 3) pa_nil)))
      (pss_cons (ps_if (PW.pt (pw_or (pt_cmpR (op_neP hu) (pe_callB (GX.cr_sortedN (T := ktK) rfl hu) (by rfl) m_sorted (by decide +kernel) (pa_cons (pv 6) pa_nil)) (pe_lc (own := [("key", 7)]) (g := gName 7) (tt := tB (tOp (GX.rIxN ktK P w K) (tVar 5) (tVar 7))) (te := tVar 7) rfl scLAW.nd (pi_list (pe_callB (GX.cr_sortedN (T := ktK) rfl hu) (by rfl) m_sorted (by decide +kernel) (pa_cons (pv 3) pa_nil))) (blkOk_by (N := nLAW) (sc := defScope sLAW) (by decide +kernel)) (fun _ _ _ _ _ => by exact pg_name (i := 7) scLAW.nd rfl (.inl rfl)) (fun _ _ _ _ _ => by exact pts_one (pt_val (pe_ix (GX.ix_N (T := ktK) hu) (pv 5) (pv 7) (fun _ _ => rfl)))) (fun _ _ _ _ _ => by exact pv 7)) (nomark _)) (pw_or1 (pt_not (pt_val (pe_callB (cr_all rfl) (by rfl) m_all (by decide +kernel) (pa_cons (pe_lock (pe_lc (own := [("key", 7)]) (g := gName 7) (tt := tYes) (te := tOp (fun x y H Q => ∃ a b, x = .bl a ∧ y = .bl b ∧ Q (.bl (decide (a = b))) H) (tOp (GX.rIxN ktK P w K) (tVar 6) (tVar 7)) (tC (.bl true))) rfl scLAW.nd (GX.pi_keysN (T := ktK) (pv 6)) (blkOk_by (N := nLAW) (sc := defScope sLAW) (by decide +kernel)) (fun _ _ _ _ _ => by exact pg_name (i := 7) scLAW.nd rfl (.inl rfl)) (fun _ _ _ _ _ => pts_nil) (fun _ _ _ _ _ => by exact pe_cmpR op_is_bl (pe_ix (GX.ix_N (T := ktK) hu) (pv 6) (pv 7) (fun _ _ => rfl)) (pe_bl) (nomark _)))) pa_nil)))))))
      (pss_one (ps_ret (pe_bl))) pss_nil)
      (pss_cons (ps_for PassesOwn.never rfl (pi_list (pe_op op_cat (pv 2) (pe_lst (pa_cons (pe_call GID hr1 (by rfl) gID kID bID .nil pass0 (pa_cons (pe_str) (pa_cons (pe_int) pa_nil))) (pa_cons (pe_call GID hr1 (by rfl) gID kID bID .nil pass0 (pa_cons (pe_str) (pa_cons (pe_int) pa_nil))) pa_nil))))) (pg_name (i := 8) scLAW.nd rfl (.inl rfl))
      (pss_one (ps_for PassesOwn.never rfl (pi_list (pe_lst (pa_cons (pe_str) (pa_cons (pe_str) pa_nil)))) (pg_name (i := 9) scLAW.nd rfl (.inl rfl))
      (pss_one (ps_if (pt_cmpR (op_neP hu) (pe_call GSO hr4 (by rfl) gSO kSO bSO .nil pass0 (pa_cons (pv 3) (pa_cons (pv 8) (pa_cons (pv 9) pa_nil)))) (pe_call GLD hr4 (by rfl) gLD kLD bLD .nil pass0 (pa_cons (pv 3) (pa_cons (pv 8) (pa_cons (pv 9) pa_nil)))) (nomark _))
      (pss_one (ps_ret (pe_bl))) pss_nil)))))
      (pss_cons (ps_for PassesOwn.never rfl (pi_list (pe_call GFA hr1 (by rfl) gFA kFA bFA .nil pass0 (pa_cons (pe_ix ix_list (pv 2) (pe_int) (fun _ _ => rfl)) pa_nil))) (pg_tup (by rfl) (pgs_cons (pg_name (i := 7) scLAW.nd rfl (.inl rfl)) (pgs_cons (pg_name (i := 10) scLAW.nd rfl (.inl rfl)) (pgs_cons (pg_name (i := 11) scLAW.nd rfl (.inl rfl)) pgs_nil))))
      (pss_one (ps_if (PW.pt (pw_or (pt_cmpR op_ne (pe_call GTD hr7 (by rfl) gTD kTD bTD .nil pass0 (pa_cons (pe_non) (pa_cons (pv 7) (pa_cons (pv 10) pa_nil)))) (pv 11) (nomark _)) (pw_or1 (pt_cmpR op_ne (pe_call GTD hr7 (by rfl) gTD kTD bTD .nil pass0 (pa_cons ((GX.pe_dnewN (T := ktK))) (pa_cons (pv 7) (pa_cons (pv 10) pa_nil)))) (pv 11) (nomark _)))))
      (pss_one (ps_ret (pe_bl))) pss_nil)))
      (pss_cons (ps_lock (ps_for PassesOwn.never rfl (GX.pi_keysN (T := ktK) (pv 3)) (pg_name (i := 7) scLAW.nd rfl (.inl rfl))
      (pss_cons (ps_set (i := 12) scLAW.nd rfl (.inl rfl) (pe_tup (pa_cons (pe_str) (pa_cons (pe_call GID hr1 (by rfl) gID kID bID .nil pass0 (pa_cons (pe_str) (pa_cons (pe_int) pa_nil))) pa_nil))))
      (pss_one (ps_if (PW.pt (pw_or (pt_cmpR op_ne (pe_call GTD hr7 (by rfl) gTD kTD bTD .nil pass0 (pa_cons (pv 3) (pa_cons (pv 7) (pa_cons (pv 12) pa_nil)))) (pe_str) (nomark _)) (pw_or1 (pt_cmpR op_notN (pe_call GTD hr7 (by rfl) gTD kTD bTD .nil pass0 (pa_cons (pe_non) (pa_cons (pv 7) (pa_cons (pe_ix (GX.ix_N (T := ktK) hu) (pv 3) (pv 7) (fun _ _ => rfl)) pa_nil)))) (pe_non) (nomark _)))))
      (pss_one (ps_ret (pe_bl))) pss_nil)))))
      (pss_one (ps_ret (pe_cmpR op_eq (pe_callB (GX.cr_reprN (T := ktK) hg hu) (by rfl) m_repr (by decide +kernel) (pa_cons (pv 3) pa_nil)) (pv 4) (nomark _))))))))))))))), ?_⟩
    dsimp only [tNext, tSeq, tIfS, tAsg, gName, tC, cxOf]
    have zl2 := zl
    refine ⟨_, rfl, sa, ns, rfl, hS, hl, fun H1 p c s1 np nc st => ?_⟩
    refine ⟨[97, 110, 110], 1, by rfl, fun H2 t0 s2 h0 => ⟨[98, 111, 98], 1, by rfl, fun H3 t1 s3 h1 => ⟨[98, 111, 98], 2, by rfl, fun H4 t2 s4 h2 => ⟨by show 3 ≤ sizeLine; omega, fun li nli => ?_⟩⟩⟩⟩
    have s5 := same_new (o := .lst [.ref t0, .ref t1, .ref t2]) nli
    have s25 := same_trans s2 (same_trans s3 (same_trans s4 s5))
    have hids : IdsAt (upd H4 li (.lst [.ref t0, .ref t1, .ref t2])) li := ⟨_, _, _, upd_same, h0.ts (Same.ts (same_trans s3 (same_trans s4 s5))), h1.ts (Same.ts (same_trans s4 s5)), h2.ts (Same.ts s5)⟩
    have st5 := st.same s25
    have lip : li ≠ p ∧ li ≠ c := (st.same (same_trans s2 (same_trans s3 s4))).new nli
    have sA := same_trans s1 s25
    have g5 := g.same sA
    have hT5 := tabs_same sA hT
    generalize upd H4 li (.lst [.ref t0, .ref t1, .ref t2]) = H5 at hids st5 g5 hT5
    clear s1 s2 s3 s4 s5 s25 sA h0 h1 h2 st np nc nli
    refine ⟨_, rfl, _, rfl, p, c, li, rfl, st5, lip.1, lip.2, hids, fun H6 a es f d6 na6 ea6 hR6 l25 d25 => ?_⟩
    have dt6 : DT p c Ts H5 H6 := ⟨d6.st, fun T hT => by
      obtain ⟨ps, e1, e2⟩ := g5 T hT
      obtain ⟨⟨_, x1⟩, ⟨_, x2⟩⟩ := st5.some
      exact ⟨ps, d6.ou _ _ (fun z => by rw [z, x1] at e1; cases e1) (fun z => by rw [z, x2] at e1; cases e1) e1, e2⟩, fun b o n1 n2 _ e => d6.ou b o n1 n2 e⟩
    have L6 : LawH P w p c Ts T4 a li es f H6 := ⟨d6.st, dt6.tg, tabs_dt n4 dt6 st5 g5 hT5, hR6, ea6, hids.dr st5 lip.1 lip.2 d6⟩
    clear hids st5 g5 hT5 dt6 d6 na6 ea6 hR6 g hT hS
    obtain ⟨r1, r2, r3⟩ := rep_facts d25 l25
    have hv := val_rec d25
    refine ⟨_, rfl, a, es, _, rfl, L6.rc.rd, L6.rc.keys, valsK_rec L6.rc, r1, r2, r3, ?_⟩
    generalize hkept : (dictD ktK (fun k => encW (f k)) es).shown = kept at r3
    -- put together in any order
    have put : ∀ (H6 : Hp) (R : Bool → Hp → Prop), LawH P w p c Ts T4 a li es f H6 → (∀ H', LawH P w p c Ts T4 a li es f H' → R false H') →
        tTest (tOp (GX.rNeN ktK P w K) (tCall (spPU P w K Ts) [] E0 (tCons (tVar 1) (tCons (tVar 3) tNil))) (tVar 3)) [some (.ref sa), some (.ref p), some (.ref li), some (.ref a), some (.str kept), none, none, none, none, none, none, none, none] H6 R := fun H6 R hL hR => by
      refine ⟨_, rfl, _, rfl, p, c, a, es, f, rfl, hL.st, hL.tg, hL.rc, l25, d25, fun H7 q es' f' d7 nq eq hq hf hp => ?_⟩
      have L7 := hL.dt n4 lip d7
      refine ⟨_, rfl, q, a, es', es, fun k => encW (f' k), fun k => encW (f k), rfl, rfl, .inl eq, .inl L7.hd, hq.keys, L7.rc.keys, vals_rec hq, vals_rec L7.rc, _, rfl, ?_⟩
      rw [same_recs hp hf]
      exact hR H7 L7
    refine put H6 _ L6 fun H7 L7 => ?_
    refine put H7 _ L7 fun H8 L8 => ?_
    clear put L6 L7
    refine ⟨_, rfl, a, es, f, rfl, L8.rc, by omega, hv, L8.t4, fun H9 pS eS le9 t9 nS9 eqS hvS hmS => ?_⟩
    have L9 := L8.lext n4 le9 t9
    refine ⟨_, rfl, a, es, f, rfl, L9.rc, by omega, hv, fun HA pT eT sA nTA eqT hvT hpT => ?_⟩
    have LA := L9.same sA
    have eqSA := sA _ _ eqS
    have hvSA : ∀ e ∈ eS, KeyO HA e.2.1 e.1 ∧ e.2.2 = .bl (St (es.map (·.1)) f e.1) := fun e he => ⟨((hvS e he).1).fm (Same.fm sA), (hvS e he).2⟩
    clear L8 L9 le9 sA eqS hvS nS9 nTA
    have lT : eT.length ≤ 25 := by
      have := hpT.length_eq
      rw [List.length_map] at this
      rw [this]
      exact Nat.le_trans (List.length_filter_le _ _) (by rw [List.length_map]; exact l25)
    obtain ⟨al, so⟩ := able_K (fun e : Key × Addr × V => e.1) eT
    refine ⟨_, rfl, pT, eT, rfl, .inl eqT, fun e he => dp_K (hvT e he).1, al, so, fun p1 np1 => ?_⟩
    have sB := same_new (o := .lst ((GX.sortN ktK eT).map fun e => V.ref e.2.1)) np1
    have LB := LA.same sB
    have lk1 : LsK (upd HA p1 (.lst ((GX.sortN ktK eT).map fun e => V.ref e.2.1))) p1 ((GX.sortN ktK eT).map (·.1)) := lsk_of upd_same fun e he => ((hvT e (List.mem_mergeSort.mp he)).1).fm (Same.fm sB)
    have eqTB := sB _ _ eqT
    have eqSB := sB _ _ eqSA
    have hvTB : ∀ e ∈ eT, KeyO (upd HA p1 (.lst ((GX.sortN ktK eT).map fun e => V.ref e.2.1))) e.2.1 e.1 ∧ e.2.2 = .bl true := fun e he => ⟨((hvT e he).1).fm (Same.fm sB), (hvT e he).2⟩
    have hvSB : ∀ e ∈ eS, KeyO (upd HA p1 (.lst ((GX.sortN ktK eT).map fun e => V.ref e.2.1))) e.2.1 e.1 ∧ e.2.2 = .bl (St (es.map (·.1)) f e.1) := fun e he => ⟨((hvSA e he).1).fm (Same.fm sB), (hvSA e he).2⟩
    generalize upd HA p1 (.lst ((GX.sortN ktK eT).map fun e => V.ref e.2.1)) = HB at LB lk1 eqTB eqSB hvTB hvSB
    rw [sortN_keys, sortL_of ((sortL_perm _).trans hpT) (sortL_pw _), sortL_filter] at lk1
    clear sB eqT hvT eqSA hvSA LA np1
    obtain ⟨al2, so2⟩ := able_K (fun e : Key × Addr × V => e.1) es
    refine ⟨_, rfl, a, es, rfl, LB.rc.rd, LB.rc.keys, al2, so2, fun p2 np2 => ⟨p2, rfl, ⟨_, SqL.of upd_same⟩, fun D2 nD2 => ?_⟩⟩
    have sC := same_new (o := .lst ((GX.sortN ktK es).map fun e => V.ref e.2.1)) np2
    have LC := LB.same sC
    have eK := sortN_keys es
    have eP : ∀ e ∈ GX.sortN ktK es, e ∈ es := fun e he => List.mem_mergeSort.mp he
    have lE : (GX.sortN ktK es).length = es.length := List.length_mergeSort _
    have ep2 : upd HB p2 (.lst ((GX.sortN ktK es).map fun e => V.ref e.2.1)) p2 = some (.lst ((GX.sortN ktK es).map fun e => V.ref e.2.1)) := upd_same
    have lk1C := lk1.fm (Same.fm sC) fun o e => sC _ _ e
    have eqTC := sC _ _ eqTB
    have eqSC := sC _ _ eqSB
    have hvTC : ∀ e ∈ eT, KeyO (upd HB p2 (.lst ((GX.sortN ktK es).map fun e => V.ref e.2.1))) e.2.1 e.1 ∧ e.2.2 = .bl true := fun e he => ⟨((hvTB e he).1).fm (Same.fm sC), (hvTB e he).2⟩
    have hvSC : ∀ e ∈ eS, KeyO (upd HB p2 (.lst ((GX.sortN ktK es).map fun e => V.ref e.2.1))) e.2.1 e.1 ∧ e.2.2 = .bl (St (es.map (·.1)) f e.1) := fun e he => ⟨((hvSB e he).1).fm (Same.fm sC), (hvSB e he).2⟩
    generalize upd HB p2 (.lst ((GX.sortN ktK es).map fun e => V.ref e.2.1)) = HC at LC ep2 lk1C eqTC eqSC hvTC hvSC nD2
    generalize GX.sortN ktK es = Es at ep2 eK eP lE
    clear sC LB lk1 eqTB eqSB hvTB hvSB np2
    refine lc_list (xs := Es.map fun e => V.ref e.2.1) (fun m H' => Same HC H' ∧ H' D2 = some (.lst (((Es.take m).filter fun e => St (es.map (·.1)) f e.1).map fun e => V.ref e.2.1))) ⟨same_new nD2, upd_same⟩ ?_ ?_ ?_
    · rintro m H' _ ⟨s, _⟩
      exact SqL.of (s _ _ ep2)
    · rintro m y H' hy ⟨s, eD⟩
      obtain ⟨e, he, rfl⟩ := map_get hy
      have hem := eP e (List.mem_of_getElem? he)
      have hke := (LC.rc.ky e hem).fm (Same.fm s)
      obtain ⟨e6, j1, j2, j3⟩ := find_of ((hmS e.1).mpr (List.mem_map.mpr ⟨e, hem, rfl⟩))
      have v6 := (hvSC e6 j2).2
      rw [j3] at v6
      refine ⟨rfl, _, rfl, _, rfl, pS, e.2.1, eS, e.1, e6, rfl, rfl, .inl (s _ _ eqSC), fun e he => dp_K (((hvSC e he).1).fm (Same.fm s)), dp_K hke, j1, _, v6, ?_⟩
      cases hp : St (es.map (·.1)) f e.1 with
      | true =>
        rw [if_pos rfl]
        refine ⟨_, rfl, _, eD, ?_, same_upd nD2 s, ?_⟩
        · rw [List.length_map]
          have := List.length_filter_le (fun e : Key × Addr × V => St (es.map (·.1)) f e.1) (Es.take m)
          rw [List.length_take] at this
          omega
        · rw [upd_same, List.take_add_one, he]
          simp [List.filter_append, hp]
      | false =>
        rw [if_neg (by decide)]
        refine ⟨s, ?_⟩
        rw [eD, List.take_add_one, he]
        simp [List.filter_append, hp]
    rintro HD ⟨sD, eD⟩
    rw [List.length_map, List.take_length] at eD
    have LD' := LC.same sD
    have lk2 : LsK HD D2 ((sortL (es.map (·.1))).filter (St (es.map (·.1)) f)) := by
      have := lsk_of eD fun e he => (LD'.rc.ky e (eP e (List.mem_filter.mp he).1))
      rw [← eK, List.filter_map]
      exact this
    refine ne_lsk (lk1C.fm (Same.fm sD) fun o e => sD _ _ e) lk2 ⟨_, rfl, iteF ?_⟩
    have eqTD := sD _ _ eqTC
    refine lk_told (i := 6) (j := 7) eqTD (fun e he => ⟨((hvTC e he).1).fm (Same.fm sD), (hvTC e he).2⟩) (by omega) rfl (fun _ => rfl) (fun _ => rfl) (fun _ => rfl) fun D3 HE sE eD3 => ?_
    have LE := LD'.same sE
    refine ⟨D3, _, rfl, SqL.of eD3, _, rfl, ?_⟩
    rw [all_true]
    clear LD' LC sD sE eD3 lk2 lk1C eqTD eqTC eqSC hvTC hvSC ep2 eK eP lE eD nD2 hmS hpT lT al so al2 so2
    refine iteF ?_
    refine ⟨_, rfl, [122, 101, 100], 9, by rfl, fun H1 z9 s1 h9 => ⟨[122, 101, 100], 8, by rfl, fun H2 z8 s2 h8 => ⟨by show 2 ≤ sizeLine; omega, fun lz nlz => ?_⟩⟩⟩
    have s3 := same_new (o := .lst [.ref z9, .ref z8]) nlz
    have L3 := LE.same (same_trans s1 (same_trans s2 s3))
    have h9' := h9.ts (Same.ts (same_trans s2 s3))
    have h8' := h8.ts (Same.ts s3)
    have elz : upd H2 lz (.lst [.ref z9, .ref z8]) lz = some (.lst [.ref z9, .ref z8]) := upd_same
    generalize upd H2 lz (.lst [.ref z9, .ref z8]) = H3 at L3 h9' h8' elz
    clear s1 s2 s3 h9 h8 nlz LE
    obtain ⟨v0, v1, v2, eli, i0, i1, i2⟩ := L3.ids
    refine ⟨li, lz, _, _, rfl, rfl, eli, elz, by show 5 ≤ sizeLine; omega, fun ln nln => ⟨ln, rfl, ⟨_, SqL.of upd_same⟩, ?_⟩⟩
    have s4 := same_new (o := .lst ([v0, v1, v2] ++ [.ref z9, .ref z8])) nln
    have L4 := L3.same s4
    have eln : upd H3 ln (.lst ([v0, v1, v2] ++ [.ref z9, .ref z8])) ln = some (.lst [v0, v1, v2, .ref z9, .ref z8]) := upd_same
    have hN : ∀ v ∈ ([v0, v1, v2, .ref z9, .ref z8] : List V), ∃ i : _root_.Fin 6, NmAt (upd H3 ln (.lst ([v0, v1, v2] ++ [.ref z9, .ref z8]))) v (nmOf i) := five' (i0.ts (Same.ts s4)) (i1.ts (Same.ts s4)) (i2.ts (Same.ts s4)) (h9'.ts (Same.ts s4)) (h8'.ts (Same.ts s4))
    refine for_list (xs := [v0, v1, v2, .ref z9, .ref z8]) (fun i σ H' => ∃ (y8 y9 : Option V), σ = [some (.ref sa), some (.ref p), some (.ref li), some (.ref a), some (.str kept), some (.ref pS), some (.ref pT), none, y8, y9, none, none, none] ∧ LawH P w p c Ts T4 a li es f H' ∧ H' ln = some (.lst [v0, v1, v2, .ref z9, .ref z8]) ∧ ∀ v ∈ ([v0, v1, v2, .ref z9, .ref z8] : List V), ∃ i : _root_.Fin 6, NmAt H' v (nmOf i))
      ⟨none, none, rfl, L4, eln, hN⟩ ?_ ?_ ?_
    · rintro i σ H' _ ⟨_, _, _, _, e, _⟩
      exact SqL.of e
    · rintro i nv σ HF hx ⟨y8, y9, rfl, LF, eln, hN⟩
      obtain ⟨ni, hni⟩ := hN nv (List.mem_of_getElem? hx)
      refine ⟨by show 2 ≤ sizeLine; omega, fun lw nlw => ⟨lw, rfl, ⟨_, SqL.of upd_same⟩, ?_⟩⟩
      have s5 := same_new (o := .lst [.str "agree", .str "refuse"]) nlw
      have nlwn : lw ≠ ln := fun z => by rw [z, eln] at nlw; cases nlw
      refine for_list (xs := [.str "agree", .str "refuse"]) (fun j σ H' => ∃ (y9 : Option V), σ = [some (.ref sa), some (.ref p), some (.ref li), some (.ref a), some (.str kept), some (.ref pS), some (.ref pT), none, some nv, y9, none, none, none] ∧ LawH P w p c Ts T4 a li es f H' ∧ H' ln = some (.lst [v0, v1, v2, .ref z9, .ref z8]) ∧ (∀ v ∈ ([v0, v1, v2, .ref z9, .ref z8] : List V), ∃ i : _root_.Fin 6, NmAt H' v (nmOf i)) ∧ NmAt H' nv (nmOf ni) ∧ H' lw = some (.lst [.str "agree", .str "refuse"]))
        ⟨y9, rfl, LF.same s5, s5 _ _ eln, fun v hv => (hN v hv).imp fun _ h => h.ts (Same.ts s5), hni.ts (Same.ts s5), upd_same⟩ ?_ ?_ ?_
      · rintro j σ H' _ ⟨_, _, _, _, _, _, e⟩
        exact SqL.of e
      · rintro j x σ HG hx ⟨y9, rfl, LG, elnG, hNG, hniG, elw⟩
        obtain ⟨b, rfl⟩ : ∃ b : Bool, x = .str (wdS b) := by
          have hj : j < 2 := (List.getElem?_eq_some_iff.mp hx).1
          match j, hj, hx with
          | 0, _, hx => cases hx; exact ⟨true, rfl⟩
          | 1, _, hx => cases hx; exact ⟨false, rfl⟩
        refine ⟨_, rfl, _, rfl, _, rfl, a, nv, es, f, ni, b, rfl, LG.rc, by omega, hv, hniG, fun HH q1 sH lk1 => ?_⟩
        have LH := LG.same sH
        have hniH := hniG.ts (Same.ts sH)
        refine ⟨_, rfl, _, rfl, _, rfl, a, nv, es, f, ni, b, rfl, LH.rc, by omega, hv, hniH, LH.t4, fun HI q2 le tI lk2 => ?_⟩
        obtain ⟨ps, hps, _⟩ := id LH.t4
        have fI := LExt.fm ⟨ps, hps⟩ le
        have LI := LH.lext n4 le tI
        have keep : ∀ l xs, HH l = some (.lst xs) → HI l = some (.lst xs) := fun l xs e => le l _ (fun z => by rw [z, hps] at e; cases e) e
        refine ne_lsk (lk1.fm fI fun o e => keep _ _ e) lk2 ⟨_, rfl, iteF ⟨_, rfl, LI, keep _ _ (sH _ _ elnG), fun v hv => (hNG v hv).imp fun _ h => (h.ts (Same.ts sH)).ts fI.ts, hniH.ts fI.ts, keep _ _ (sH _ _ elw)⟩⟩
      · rintro σ HG ⟨y9, rfl, LG, elnG, hNG, _, _⟩
        exact ⟨_, _, rfl, LG, elnG, hNG⟩
    rintro σ HF ⟨y8, y9, rfl, LF, _, _⟩
    clear L4 L3 eln hN s4 h9' h8' elz nln i0 i1 i2 eli
    obtain ⟨v0, v1, v2, eli, i0, i1, i2⟩ := LF.ids
    refine ⟨_, rfl, li, _, _, v0, rfl, rfl, SqL.of eli, atI_nat (j := 0) rfl, v0, rfl, i0, fun HG D3 n3 sG rG => ?_⟩
    have LG := LF.same sG
    obtain ⟨⟨rs, eD3, hrs, _⟩, _⟩ := rG
    clear LF sG i0 i1 i2 eli
    refine ⟨D3, rfl, ⟨_, SqL.of eD3⟩, ?_⟩
    refine for_list (xs := rs.map V.ref) (fun i σ H' => ∃ (y7 y10 y11 : Option V), σ = [some (.ref sa), some (.ref p), some (.ref li), some (.ref a), some (.str kept), some (.ref pS), some (.ref pT), y7, y8, y9, y10, y11, none] ∧ LawH P w p c Ts T4 a li es f H' ∧ H' D3 = some (.lst (rs.map V.ref)) ∧ ∀ r ∈ rs, RowF H' r)
      ⟨none, none, none, rfl, LG, eD3, hrs⟩ ?_ ?_ ?_
    · rintro i σ H' _ ⟨_, _, _, _, _, e, _⟩
      exact SqL.of e
    · rintro i x σ HH hx ⟨y7, y10, y11, rfl, LH, eD, hr⟩
      obtain ⟨r, gr, rfl⟩ := map_get hx
      have hrm := List.mem_of_getElem? gr
      obtain ⟨ka, wa, pl, er, hf⟩ := hr r hrm
      refine ⟨r, _, rfl, SqT.of er, rfl, _, _, rfl, _, _, rfl, _, _, rfl, rfl, ?_⟩
      refine ⟨_, rfl, _, rfl, .non, ka, wa, rfl, LH.tg, .inl ⟨pl, .inl rfl, hf, fun HI tI => ⟨_, rfl, rfl, _, rfl, ?_⟩⟩⟩
      have LI := LH.tbs n4 lip tI
      have fI := tI.fm LH.tg
      rw [decide_eq_true rfl]
      refine iteF ?_
      refine fun d nd => ⟨_, rfl, _, rfl, ?_⟩
      have sJ := same_new (o := dNO ktK P w d []) nd
      have LJ := LI.same sJ
      refine ⟨.ref d, ka, wa, rfl, LJ.tg, .inl ⟨pl, .inr ⟨d, rfl⟩, (hf.ts fI.ts).ts (Same.ts sJ), fun HK tK => ⟨_, rfl, rfl, _, rfl, ?_⟩⟩⟩
      have LK := LJ.tbs n4 lip tK
      have fK := tK.fm LJ.tg
      rw [decide_eq_true rfl]
      refine iteF ⟨_, _, _, rfl, LK, tK.at_ LJ.tg (sJ _ _ (tI.at_ LH.tg eD fun _ z => nomatch z)) (fun _ z => nomatch z), fun r hr' => (((hr r hr').ts fI.ts).ts (Same.ts sJ)).ts fK.ts⟩
    rintro σ HH ⟨y7, y10, y11, rfl, LH, _, _⟩
    clear LG eD3 hrs
    -- the records themselves
    refine ⟨a, _, LH.hd, trivial, fun od => ?_⟩
    have fL : Fm HH (upd HH a (.frz od (dNO ktK P w a es))) := Fm.lock LH.hd
    have tg7 : TG Ts (upd HH a (.frz od (dNO ktK P w a es))) := fun T hT => by
      obtain ⟨ps, e1, e2⟩ := LH.tg T hT
      exact ⟨ps, (upd_ne fun z => by rw [z, LH.hd] at e1; cases e1).trans e1, e2⟩
    have hR7 := LH.rc.fm fL
    have ea7 : upd HH a (.frz od (dNO ktK P w a es)) a = some (.frz od (dNO ktK P w a es)) := upd_same
    generalize upd HH a (.frz od (dNO ktK P w a es)) = H7 at fL tg7 hR7 ea7
    refine ⟨_, rfl, a, od, es, rfl, ea7, ?_⟩
    refine for_it (GX.walk_N (T := ktK) (P := P) (w := w)) (fun i σ H' => ∃ (y7 y12 : Option V), σ = [some (.ref sa), some (.ref p), some (.ref li), some (.ref a), some (.str kept), some (.ref pS), some (.ref pT), y7, y8, y9, y10, y11, y12] ∧ H' a = some (.frz od (dNO ktK P w a es)) ∧ RecAt P w H' a es f ∧ TG Ts H')
      ⟨y7, none, rfl, ea7, hR7, tg7⟩ ?_ ?_ ?_
    · rintro i σ H' _ ⟨_, _, _, e, _⟩
      exact e
    · rintro i x σ H80 H8 hi ⟨y7, y12, rfl, e8, hR8, g8⟩ ⟨rfl, e, he, rfl⟩
      have hem := List.mem_of_getElem? he
      have hin : e.1 ∈ es.map (·.1) := List.mem_map.mpr ⟨e, hem, rfl⟩
      refine ⟨[101, 118, 101], 4, by rfl, fun H9 t9 s9 h9 => ⟨by show 2 ≤ sizeLine; omega, fun ot not => ?_⟩⟩
      have sA := same_trans s9 (same_new (o := .tup [.str "refuse", .ref t9]) not)
      have hw : WhatAt (upd H9 ot (.tup [.str "refuse", .ref t9])) (.ref ot) (.inr (false, 5)) := ⟨ot, .ref t9, rfl, upd_same, h9.ts (Same.ts (same_new not))⟩
      have eA := sA _ _ e8
      have hRA := hR8.fm (Same.fm sA)
      have gA := g8.same sA
      generalize upd H9 ot (.tup [.str "refuse", .ref t9]) = HA at sA hw eA hRA gA
      have okO : okRec e.1 (.inr (false, 5)) = true := by
        have := d25.ok _ hin
        unfold okRec at this ⊢
        rw [Bool.and_eq_true] at this ⊢
        exact ⟨this.1, ids_ok 5⟩
      have neO : f e.1 ≠ .inr (false, 5) := fun z => by
        have := d25.r4 _ hin _ _ z
        exact absurd this (by decide)
      refine ⟨_, rfl, _, rfl, _, rfl, .ref a, e.2.1, ot, rfl, gA, .inr (.inr ⟨a, es, f, e.1, .inr (false, 5), rfl, hRA, by omega, hRA.ky e hem, hw, okO, hin, neO, fun HB tB => ⟨rfl, _, rfl, ?_⟩⟩)⟩
      have fB := tB.fm gA
      have eB := tB.at_ gA eA fun _ z => nomatch z
      have hRB := hRA.fm fB
      rw [decide_eq_true rfl]
      refine iteF ?_
      obtain ⟨e2, g1, g2, g3⟩ := find_of hin
      obtain rfl : e2 = e := nd_inj hR8.nd g2 hem g3
      have hve := hRB.vl e2 g2
      obtain ⟨va, eva⟩ := what_ref hve
      rw [eva] at hve
      refine ⟨_, rfl, _, rfl, _, rfl, a, e2.2.1, es, e2.1, e2, rfl, rfl, hRB.rd, hRB.keys, dp_K (hRB.ky e2 g2), g1, ?_⟩
      rw [eva]
      refine ⟨.non, e2.2.1, va, rfl, tB.tg, .inr (.inl ⟨e2.1, f e2.1, rfl, hRB.ky e2 g2, hve, d25.ok _ hin, fun HC tC => ⟨rfl, _, rfl, ?_⟩⟩)⟩
      rw [decide_eq_true rfl]
      exact iteF ⟨_, _, rfl, tC.at_ tB.tg eB (fun _ z => nomatch z), hRB.fm (tC.fm tB.tg), tC.tg⟩
    rintro σ H8 ⟨y7, y12, rfl, e8, hR8, g8⟩
    have hR9 := hR8.fm (Fm.unlock e8)
    refine ⟨e8, ?_⟩
    refine ⟨_, rfl, a, es, _, rfl, hR9.rd, hR9.keys, valsK_rec hR9, r1, r2, by rw [hkept]; exact r3, ?_⟩
    rw [hkept]
    refine ⟨_, rfl, rfl, ?_⟩
    rw [decide_eq_true rfl]
    exact q _
end
end K20
namespace K20
open PySem PySem.Spec PyProof.Rows L2 TL TR QR
theorem exm_self {K : PySem.W.Frag} {S : Addr} (h1 : PySem.W.subIn K (.ref S) (.type "BaseException") = some true) (h2 : PySem.W.hasDictIn K S = true) (h3 : PySem.W.typeIn K (.ref S) = some (.type "type")) (h4 : PySem.W.subIn K (.ref S) (.ref S) = some true) :
    PySem.W.exmOne K (.ref S) (.ref S) = some true := PySem.W.exm_ref h1 h2 h3 h4
theorem all_mk {l : PySem.W.OpenLaw} {q : Program} {w : World} {K : PySem.W.Frag} {h : Heap} {mg : Str → Option Value} {fa : Addr} (X : K.In h) (G : h.Ns mainGlobals mg) (hfa : mg "law" = some (.ref fa)) (tabs : GX.AllTabs q K mg h) (hrecT4 : ((recsOf q).any fun e => e.name == ("_law_stands" : Str)) = true) (hrecT1 : ((recsOf q).any fun e => e.name == ("is_word" : Str)) = true) (hrecT2 : ((recsOf q).any fun e => e.name == ("is_label" : Str)) = true)
    {fSR fST fT fHA fID fRC fRS fLS fFA fTO fW fIH fWI fIL fII fCK fWR fPU fSO fSY fLD fTD fLAW fIE CE CW : Addr} {odSR anSR odST anST odT anT odHA anHA odID anID odRC anRC odRS anRS odLS anLS odFA anFA odTO anTO odW anW odIH anIH odWI anWI odIL anIL odII anII odCK anCK odWR anWR odPU anPU odSO anSO odSY anSY odLD anLD odTD anTD odLAW anLAW odIE anIE : Option Addr} {slSR slST slT slHA slID slRC slRS slLS slFA slTO slW slIH slWI slIL slII slCK slWR slPU slSO slSY slLD slTD slLAW slIE : Array (Option Value)}
    {ocSR kVSR dcSR pmSR ctSR cdSR ocST kVST dcST pmST ctST cdST ocT kVT dcT pmT ctT cdT ocHA kVHA dcHA pmHA ctHA cdHA ocID kVID dcID pmID ctID cdID ocRC kVRC dcRC pmRC ctRC cdRC ocRS kVRS dcRS pmRS ctRS cdRS ocLS kVLS dcLS pmLS ctLS ocFA kVFA dcFA pmFA ctFA cdFA ocTO kVTO dcTO pmTO ctTO cdTO ocW kVW dcW pmW ctW ocIH kVIH dcIH pmIH ctIH cdIH ocWI kVWI dcWI pmWI ctWI cdWI ocIL kVIL dcIL pmIL ctIL ocII kVII dcII pmII ctII cdII ocCK kVCK dcCK pmCK ctCK cdCK ocWR kVWR dcWR pmWR ctWR cdWR ocPU kVPU dcPU pmPU ctPU cdPU ocSO kVSO dcSO pmSO ctSO cdSO ocSY kVSY dcSY pmSY ctSY cdSY ocLD kVLD dcLD pmLD ctLD cdLD ocTD kVTD dcTD pmTD ctTD cdTD ocLAW kVLAW dcLAW pmLAW ctLAW cdLAW ocIE dcIE pmIE cdIE ctIE : Value}
    {cW T1 cIL T2 cLS T4 : Addr} {eW eIL eLS : Value} {ddW ddIL ddLS : Option Addr} {vsW vsIL vsLS : Array Value} {ssW ssIL ssLS : Array (Option Value)}
    {kLE kMN : Tok}
    {CS fSI fLN : Addr} {odSI anSI odLN anLN : Option Addr} {slSI slLN : Array (Option Value)} {ocSI kVSI dcSI pmSI ctSI cdSI ocLN kVLN dcLN pmLN ctLN cdLN : Value}
    (nCS : PySem.W.nsIn K mainGlobals "Said" = some (some (.ref CS))) (pgCS : PySem.W.plainGet K CS Str.empty = true) (hdCS : PySem.W.hasDictIn K CS = true) (poCS : PySem.W.plainOver K CS = true) (saCS : PySem.W.findIn K (.ref CS) "__setattr__" = some (some (.builtin "object.__setattr__"))) (mkCS : PySem.W.makesIn K CS = true) (kpCS : PySem.W.keepIn K (.ref CS) = true)
    (no_records : PySem.W.findIn K (.ref CS) "records" = some none)
    (no_numbers : PySem.W.findIn K (.ref CS) "numbers" = some none)
    (aSI : PySem.W.findIn K (.ref CS) "__init__" = some (some (.ref fSI))) (iSI : PySem.W.isFn K (.ref fSI) = true)
    (lSI : K.lookup fSI = some ⟨ocSI, odSI, .func (PySem.W.fnOf "__init__" "Said.__init__" (defArgs sSI) (defBody sSI) (defScope sSI) .none kVSI dcSI pmSI anSI cdSI ctSI), slSI⟩)
    (cSI1 : PySem.W.codeIn K cdSI "Said.__init__" = true) (kSI1 : PySem.W.keepIn K (.ref fSI) = true)
    (aLN : PySem.W.findIn K (.ref CS) "least_numbers" = some (some (.ref fLN))) (iLN : PySem.W.isFn K (.ref fLN) = true)
    (lLN : K.lookup fLN = some ⟨ocLN, odLN, .func (PySem.W.fnOf "least_numbers" "Said.least_numbers" (defArgs sLN) (defBody sLN) (defScope sLN) .none kVLN dcLN pmLN anLN cdLN ctLN), slLN⟩)
    (cLN1 : PySem.W.codeIn K cdLN "Said.least_numbers" = true) (kLN1 : PySem.W.keepIn K (.ref fLN) = true)
    (aSR : PySem.W.nsIn K mainGlobals "standing_records" = some (some (.ref fSR)))
    (lSR : K.lookup fSR = some ⟨ocSR, odSR, .func (PySem.W.fnOf "standing_records" "standing_records" (defArgs sSR) (defBody sSR) (defScope sSR) .none kVSR dcSR pmSR anSR cdSR ctSR), slSR⟩)
    (cSR1 : PySem.W.codeIn K cdSR "standing_records" = true) (kSR1 : PySem.W.keepIn K (.ref fSR) = true)
    (aST : PySem.W.nsIn K mainGlobals "_law_state" = some (some (.ref fST)))
    (lST : K.lookup fST = some ⟨ocST, odST, .func (PySem.W.fnOf "_law_state" "_law_state" (defArgs sState) (defBody sState) (defScope sState) .none kVST dcST pmST anST cdST ctST), slST⟩)
    (cST1 : PySem.W.codeIn K cdST "_law_state" = true) (kST1 : PySem.W.keepIn K (.ref fST) = true)
    (aT : PySem.W.nsIn K mainGlobals "_law_take" = some (some (.ref fT)))
    (lT : K.lookup fT = some ⟨ocT, odT, .func (PySem.W.fnOf "_law_take" "_law_take" (defArgs sT) (defBody sT) (defScope sT) .none kVT dcT pmT anT cdT ctT), slT⟩)
    (cT1 : PySem.W.codeIn K cdT "_law_take" = true) (kT1 : PySem.W.keepIn K (.ref fT) = true)
    (aHA : PySem.W.nsIn K mainGlobals "_law_hand" = some (some (.ref fHA)))
    (lHA : K.lookup fHA = some ⟨ocHA, odHA, .func (PySem.W.fnOf "_law_hand" "_law_hand" (defArgs sHA) (defBody sHA) (defScope sHA) .none kVHA dcHA pmHA anHA cdHA ctHA), slHA⟩)
    (cHA1 : PySem.W.codeIn K cdHA "_law_hand" = true) (kHA1 : PySem.W.keepIn K (.ref fHA) = true)
    (aID : PySem.W.nsIn K mainGlobals "_law_id" = some (some (.ref fID)))
    (lID : K.lookup fID = some ⟨ocID, odID, .func (PySem.W.fnOf "_law_id" "_law_id" (defArgs sID) (defBody sID) (defScope sID) .none kVID dcID pmID anID cdID ctID), slID⟩)
    (cID1 : PySem.W.codeIn K cdID "_law_id" = true) (kID1 : PySem.W.keepIn K (.ref fID) = true)
    (aRC : PySem.W.nsIn K mainGlobals "_law_record" = some (some (.ref fRC)))
    (lRC : K.lookup fRC = some ⟨ocRC, odRC, .func (PySem.W.fnOf "_law_record" "_law_record" (defArgs sRC) (defBody sRC) (defScope sRC) .none kVRC dcRC pmRC anRC cdRC ctRC), slRC⟩)
    (cRC1 : PySem.W.codeIn K cdRC "_law_record" = true) (kRC1 : PySem.W.keepIn K (.ref fRC) = true)
    (aRS : PySem.W.nsIn K mainGlobals "_law_records" = some (some (.ref fRS)))
    (lRS : K.lookup fRS = some ⟨ocRS, odRS, .func (PySem.W.fnOf "_law_records" "_law_records" (defArgs sRS) (defBody sRS) (defScope sRS) .none kVRS dcRS pmRS anRS cdRS ctRS), slRS⟩)
    (cRS1 : PySem.W.codeIn K cdRS "_law_records" = true) (kRS1 : PySem.W.keepIn K (.ref fRS) = true)
    (aLS : PySem.W.nsIn K mainGlobals "_law_stands" = some (some (.ref fLS)))
    (lLS : K.lookup fLS = some ⟨ocLS, odLS, .func (PySem.W.fnOf "_law_stands" "_law_stands" (defArgs sLS) (defBody sLS) (defScope sLS) .none kVLS dcLS pmLS anLS (.ref cLS) ctLS), slLS⟩)
    (cLS1 : PySem.W.codeIn K (.ref cLS) "_law_stands" = true) (kLS1 : PySem.W.keepIn K (.ref fLS) = true)
    (aFA : PySem.W.nsIn K mainGlobals "_law_faults" = some (some (.ref fFA)))
    (lFA : K.lookup fFA = some ⟨ocFA, odFA, .func (PySem.W.fnOf "_law_faults" "_law_faults" (defArgs sFA) (defBody sFA) (defScope sFA) .none kVFA dcFA pmFA anFA cdFA ctFA), slFA⟩)
    (cFA1 : PySem.W.codeIn K cdFA "_law_faults" = true) (kFA1 : PySem.W.keepIn K (.ref fFA) = true)
    (aTO : PySem.W.nsIn K mainGlobals "is_tuple_of" = some (some (.ref fTO)))
    (lTO : K.lookup fTO = some ⟨ocTO, odTO, .func (PySem.W.fnOf "is_tuple_of" "is_tuple_of" (defArgs sTO) (defBody sTO) (defScope sTO) .none kVTO dcTO pmTO anTO cdTO ctTO), slTO⟩)
    (cTO1 : PySem.W.codeIn K cdTO "is_tuple_of" = true) (kTO1 : PySem.W.keepIn K (.ref fTO) = true)
    (aW : PySem.W.nsIn K mainGlobals "is_word" = some (some (.ref fW)))
    (lW : K.lookup fW = some ⟨ocW, odW, .func (PySem.W.fnOf "is_word" "is_word" (defArgs sWord) (defBody sWord) (defScope sWord) .none kVW dcW pmW anW (.ref cW) ctW), slW⟩)
    (cW1 : PySem.W.codeIn K (.ref cW) "is_word" = true) (kW1 : PySem.W.keepIn K (.ref fW) = true)
    (aIH : PySem.W.nsIn K mainGlobals "is_hand" = some (some (.ref fIH)))
    (lIH : K.lookup fIH = some ⟨ocIH, odIH, .func (PySem.W.fnOf "is_hand" "is_hand" (defArgs sIH) (defBody sIH) (defScope sIH) .none kVIH dcIH pmIH anIH cdIH ctIH), slIH⟩)
    (cIH1 : PySem.W.codeIn K cdIH "is_hand" = true) (kIH1 : PySem.W.keepIn K (.ref fIH) = true)
    (aWI : PySem.W.nsIn K mainGlobals "is_within" = some (some (.ref fWI)))
    (lWI : K.lookup fWI = some ⟨ocWI, odWI, .func (PySem.W.fnOf "is_within" "is_within" (defArgs sWI) (defBody sWI) (defScope sWI) .none kVWI dcWI pmWI anWI cdWI ctWI), slWI⟩)
    (cWI1 : PySem.W.codeIn K cdWI "is_within" = true) (kWI1 : PySem.W.keepIn K (.ref fWI) = true)
    (aIL : PySem.W.nsIn K mainGlobals "is_label" = some (some (.ref fIL)))
    (lIL : K.lookup fIL = some ⟨ocIL, odIL, .func (PySem.W.fnOf "is_label" "is_label" (defArgs sIL) (defBody sIL) (defScope sIL) .none kVIL dcIL pmIL anIL (.ref cIL) ctIL), slIL⟩)
    (cIL1 : PySem.W.codeIn K (.ref cIL) "is_label" = true) (kIL1 : PySem.W.keepIn K (.ref fIL) = true)
    (aII : PySem.W.nsIn K mainGlobals "is_id" = some (some (.ref fII)))
    (lII : K.lookup fII = some ⟨ocII, odII, .func (PySem.W.fnOf "is_id" "is_id" (defArgs sII) (defBody sII) (defScope sII) .none kVII dcII pmII anII cdII ctII), slII⟩)
    (cII1 : PySem.W.codeIn K cdII "is_id" = true) (kII1 : PySem.W.keepIn K (.ref fII) = true)
    (aCK : PySem.W.nsIn K mainGlobals "check_record" = some (some (.ref fCK)))
    (lCK : K.lookup fCK = some ⟨ocCK, odCK, .func (PySem.W.fnOf "check_record" "check_record" (defArgs sCK) (defBody sCK) (defScope sCK) .none kVCK dcCK pmCK anCK cdCK ctCK), slCK⟩)
    (cCK1 : PySem.W.codeIn K cdCK "check_record" = true) (kCK1 : PySem.W.keepIn K (.ref fCK) = true)
    (aWR : PySem.W.nsIn K mainGlobals "with_record" = some (some (.ref fWR)))
    (lWR : K.lookup fWR = some ⟨ocWR, odWR, .func (PySem.W.fnOf "with_record" "with_record" (defArgs sWR) (defBody sWR) (defScope sWR) .none kVWR dcWR pmWR anWR cdWR ctWR), slWR⟩)
    (cWR1 : PySem.W.codeIn K cdWR "with_record" = true) (kWR1 : PySem.W.keepIn K (.ref fWR) = true)
    (aPU : PySem.W.nsIn K mainGlobals "_law_put" = some (some (.ref fPU)))
    (lPU : K.lookup fPU = some ⟨ocPU, odPU, .func (PySem.W.fnOf "_law_put" "_law_put" (defArgs sPU) (defBody sPU) (defScope sPU) .none kVPU dcPU pmPU anPU cdPU ctPU), slPU⟩)
    (cPU1 : PySem.W.codeIn K cdPU "_law_put" = true) (kPU1 : PySem.W.keepIn K (.ref fPU) = true)
    (aSO : PySem.W.nsIn K mainGlobals "said_of" = some (some (.ref fSO)))
    (lSO : K.lookup fSO = some ⟨ocSO, odSO, .func (PySem.W.fnOf "said_of" "said_of" (defArgs sSO) (defBody sSO) (defScope sSO) .none kVSO dcSO pmSO anSO cdSO ctSO), slSO⟩)
    (cSO1 : PySem.W.codeIn K cdSO "said_of" = true) (kSO1 : PySem.W.keepIn K (.ref fSO) = true)
    (aSY : PySem.W.nsIn K mainGlobals "_law_sayings" = some (some (.ref fSY)))
    (lSY : K.lookup fSY = some ⟨ocSY, odSY, .func (PySem.W.fnOf "_law_sayings" "_law_sayings" (defArgs sSY) (defBody sSY) (defScope sSY) .none kVSY dcSY pmSY anSY cdSY ctSY), slSY⟩)
    (cSY1 : PySem.W.codeIn K cdSY "_law_sayings" = true) (kSY1 : PySem.W.keepIn K (.ref fSY) = true)
    (aLD : PySem.W.nsIn K mainGlobals "_law_said" = some (some (.ref fLD)))
    (lLD : K.lookup fLD = some ⟨ocLD, odLD, .func (PySem.W.fnOf "_law_said" "_law_said" (defArgs sLD) (defBody sLD) (defScope sLD) .none kVLD dcLD pmLD anLD cdLD ctLD), slLD⟩)
    (cLD1 : PySem.W.codeIn K cdLD "_law_said" = true) (kLD1 : PySem.W.keepIn K (.ref fLD) = true)
    (aTD : PySem.W.nsIn K mainGlobals "_law_told" = some (some (.ref fTD)))
    (lTD : K.lookup fTD = some ⟨ocTD, odTD, .func (PySem.W.fnOf "_law_told" "_law_told" (defArgs sTD) (defBody sTD) (defScope sTD) .none kVTD dcTD pmTD anTD cdTD ctTD), slTD⟩)
    (cTD1 : PySem.W.codeIn K cdTD "_law_told" = true) (kTD1 : PySem.W.keepIn K (.ref fTD) = true)
    (aLAW : PySem.W.nsIn K mainGlobals "law" = some (some (.ref fLAW)))
    (lLAW : K.lookup fLAW = some ⟨ocLAW, odLAW, .func (PySem.W.fnOf "law" "law" (defArgs sLAW) (defBody sLAW) (defScope sLAW) .none kVLAW dcLAW pmLAW anLAW cdLAW ctLAW), slLAW⟩)
    (cLAW1 : PySem.W.codeIn K cdLAW "law" = true) (kLAW1 : PySem.W.keepIn K (.ref fLAW) = true)
    (tWc : K.lookup cW = some ⟨eW, ddW, .fields vsW, ssW⟩) (tWv : vsW[11]? = some (.ref T1)) (tWh : PySem.W.codeHdIn K cW T1 = true) (tWn : K.lookup T1 = none)
    (tILc : K.lookup cIL = some ⟨eIL, ddIL, .fields vsIL, ssIL⟩) (tILv : vsIL[11]? = some (.ref T2)) (tILh : PySem.W.codeHdIn K cIL T2 = true) (tILn : K.lookup T2 = none)
    (tLSc : K.lookup cLS = some ⟨eLS, ddLS, .fields vsLS, ssLS⟩) (tLSv : vsLS[11]? = some (.ref T4)) (tLSh : PySem.W.codeHdIn K cLS T4 = true) (tLSn : K.lookup T4 = none)
    (neT1T2 : T1 ≠ T2)
    (neT1T4 : T1 ≠ T4)
    (neT2T4 : T2 ≠ T4)
    (gLE0 : PySem.W.nsIn K mainGlobals "LETTERS" = some (some (.str "abcdefghijklmnopqrstuvwxyz" kLE)))
    (gMN0 : PySem.W.nsIn K mainGlobals "MOST_NUMBER" = some (some (.int 99999 kMN)))
    (nW : PySem.W.nsIn K mainGlobals "WardError" = some (some (.ref CW)))
    {nmE qE : Str} {NE : Addr} {bsE : List Value} {snE : List Str} {subE : List Value} {abE : Bool} {colE : Option Bool} {ddE : Option Addr} {m0E m1E m2E m3E m5E : Option Value}
    (nE : PySem.W.nsIn K mainGlobals "VouchError" = some (some (.ref CE)))
    (xE : K.lookup CE = some (excClassObj nmE qE CE NE bsE [.ref CW, .type "ValueError", .type "Exception", .type "BaseException", .type "object"] true snE subE abE colE ddE m0E m1E m2E m3E m5E "ValueError.__new__"))
    (saE : PySem.W.findIn K (.ref CE) "__setattr__" = some (some (.builtin "object.__setattr__"))) (gaE : PySem.W.findIn K (.ref CE) "__getattribute__" = some (some (.builtin "BaseException.__getattribute__"))) (ggE : PySem.W.findIn K (.ref CE) "__getattr__" = some none) (nsE : PySem.W.findIn K (.ref CE) "place" = some none)
    (aiE : PySem.W.findIn K (.ref CE) "__init__" = some (some (.ref fIE))) (tiE : PySem.W.typeIn K (.ref fIE) = some (.type "function"))
    (liE : K.lookup fIE = some ⟨ocIE, odIE, .func (PySem.W.fnOf "__init__" "VouchError.__init__" (PySem.TextX.iA ⟨13, 17, 13, 21⟩ ⟨13, 23, 13, 28⟩) (PySem.TextX.iB ⟨14, 8, 14, 12⟩ ⟨14, 8, 14, 18⟩ ⟨14, 21, 14, 26⟩ ⟨14, 8, 14, 26⟩) PySem.TextX.iS .none .none dcIE pmIE anIE cdIE ctIE), slIE⟩) (ciE : PySem.W.codeIn K cdIE "VouchError.__init__" = true)
    (kpE : PySem.W.keepIn K (.ref CE) = true) (eeE : PySem.W.subIn K (.ref CE) (.type "BaseException") = some true) (tyE : PySem.W.typeIn K (.ref CE) = some (.type "type")) (hdE : PySem.W.hasDictIn K CE = true) (sbE : PySem.W.subIn K (.ref CE) (.ref CE) = some true)
    (clE : PySem.W.findIn K (.ref CE) "__class__" = some (some (.builtin "object.__class__"))) (scE : PySem.W.specialIn K (.builtin "object.__class__") "__get__" = some (some (.builtin "getset_descriptor.__get__"))) (tkE : PySem.W.takesIn K (.builtin "object.__class__") = some true) (mrE : PySem.W.mroIn K CE (.type "object") = some true)
    (ktE : PySem.W.kitOne K (.ref CE) (.ref CW) = some true)
    {CP : Addr} (nP : PySem.W.nsIn K mainGlobals "PatchError" = some (some (.ref CP))) (suW : PySem.W.subIn K (.ref CE) (.ref CW) = some true) (eeCW : PySem.W.subIn K (.ref CW) (.type "BaseException") = some true) (hdCW : PySem.W.hasDictIn K CW = true) (tyCW : PySem.W.typeIn K (.ref CW) = some (.type "type")) (kitV : PySem.W.kitOne K (.ref CE) (.ref CE) = some true) (kitE : PySem.W.kitOne K (.ref CE) (.type "ValueError") = some true) (kitP : PySem.W.kitOne K (.ref CE) (.ref CP) = some false)
    (z_len : PySem.W.nsIn K mainGlobals "len" = some none)
    (z_range : PySem.W.nsIn K mainGlobals "range" = some none)
    (z_int : PySem.W.nsIn K mainGlobals "int" = some none)
    (z_abs : PySem.W.nsIn K mainGlobals "abs" = some none)
    (z_isinstance : PySem.W.nsIn K mainGlobals "isinstance" = some none)
    (z_tuple : PySem.W.nsIn K mainGlobals "tuple" = some none)
    (z_sorted : PySem.W.nsIn K mainGlobals "sorted" = some none)
    (z_str : PySem.W.nsIn K mainGlobals "str" = some none)
    (z_all : PySem.W.nsIn K mainGlobals "all" = some none)
    (z_repr : PySem.W.nsIn K mainGlobals "repr" = some none)
    (z_ValueError : PySem.W.nsIn K mainGlobals "ValueError" = some none)
    : GX.LawC l w K 63 "script" mg fa h := by
  have e := hfa.symm.trans (PySem.W.mg_of X G aLAW)
  cases e
  have FSR := fun_mk (st := sSR) lSR cSR1 kSR1
  have bSR := FSR.binds (ps := ["records"]) fun _ _ _ _ _ _ us hl => match us, hl with | [_], _ => rfl
  have gSR := PySem.W.mg_of X G aSR
  have FST := fun_mk (st := sState) lST cST1 kST1
  have bST := FST.binds (ps := ["script"]) fun _ _ _ _ _ _ us hl => match us, hl with | [_], _ => rfl
  have gST := PySem.W.mg_of X G aST
  have FT := fun_mk (st := sT) lT cT1 kT1
  have bT := FT.binds (ps := ["state", "most"]) fun _ _ _ _ _ _ us hl => match us, hl with | [_, _], _ => rfl
  have gT := PySem.W.mg_of X G aT
  have FHA := fun_mk (st := sHA) lHA cHA1 kHA1
  have bHA := FHA.binds (ps := ["state"]) fun _ _ _ _ _ _ us hl => match us, hl with | [_], _ => rfl
  have gHA := PySem.W.mg_of X G aHA
  have FID := fun_mk (st := sID) lID cID1 kID1
  have bID := FID.binds (ps := ["author", "number"]) fun _ _ _ _ _ _ us hl => match us, hl with | [_, _], _ => rfl
  have gID := PySem.W.mg_of X G aID
  have FRC := fun_mk (st := sRC) lRC cRC1 kRC1
  have bRC := FRC.binds (ps := ["state", "ids", "hand", "number"]) fun _ _ _ _ _ _ us hl => match us, hl with | [_, _, _, _], _ => rfl
  have gRC := PySem.W.mg_of X G aRC
  have FRS := fun_mk (st := sRS) lRS cRS1 kRS1
  have bRS := FRS.binds (ps := ["state", "ids", "most"]) fun _ _ _ _ _ _ us hl => match us, hl with | [_, _, _], _ => rfl
  have gRS := PySem.W.mg_of X G aRS
  have bLS : Binds K (PySem.W.fnOf "_law_stands" "_law_stands" (defArgs sLS) (defBody sLS) (defScope sLS) .none kVLS dcLS pmLS anLS (.ref cLS) ctLS) ["records"] [] := .all fun us hl => match us, hl with | [_], _ => rfl
  have gLS := PySem.W.mg_of X G aLS
  have FFA := fun_mk (st := sFA) lFA cFA1 kFA1
  have bFA := FFA.binds (ps := ["name"]) fun _ _ _ _ _ _ us hl => match us, hl with | [_], _ => rfl
  have gFA := PySem.W.mg_of X G aFA
  have FTO := fun_mk (st := sTO) lTO cTO1 kTO1
  have bTO := FTO.binds (ps := ["value", "size"]) fun _ _ _ _ _ _ us hl => match us, hl with | [_, _], _ => rfl
  have gTO := PySem.W.mg_of X G aTO
  have bW : Binds K (PySem.W.fnOf "is_word" "is_word" (defArgs sWord) (defBody sWord) (defScope sWord) .none kVW dcW pmW anW (.ref cW) ctW) ["text", "signs", "most"] [] := .all fun us hl => match us, hl with | [_, _, _], _ => rfl
  have gW := PySem.W.mg_of X G aW
  have FIH := fun_mk (st := sIH) lIH cIH1 kIH1
  have bIH := FIH.binds (ps := ["name"]) fun _ _ _ _ _ _ us hl => match us, hl with | [_], _ => rfl
  have gIH := PySem.W.mg_of X G aIH
  have FWI := fun_mk (st := sWI) lWI cWI1 kWI1
  have bWI := FWI.binds (ps := ["number", "least", "most"]) fun _ _ _ _ _ _ us hl => match us, hl with | [_, _, _], _ => rfl
  have gWI := PySem.W.mg_of X G aWI
  have bIL : Binds K (PySem.W.fnOf "is_label" "is_label" (defArgs sIL) (defBody sIL) (defScope sIL) .none kVIL dcIL pmIL anIL (.ref cIL) ctIL) ["label"] [] := .all fun us hl => match us, hl with | [_], _ => rfl
  have gIL := PySem.W.mg_of X G aIL
  have FII := fun_mk (st := sII) lII cII1 kII1
  have bII := FII.binds (ps := ["name"]) fun _ _ _ _ _ _ us hl => match us, hl with | [_], _ => rfl
  have gII := PySem.W.mg_of X G aII
  have FCK := fun_mk (st := sCK) lCK cCK1 kCK1
  have bCK := FCK.binds (ps := ["key", "what"]) fun _ _ _ _ _ _ us hl => match us, hl with | [_, _], _ => rfl
  have gCK := PySem.W.mg_of X G aCK
  have FWR := fun_mk (st := sWR) lWR cWR1 kWR1
  have bWR := FWR.binds (ps := ["records", "key", "what"]) fun _ _ _ _ _ _ us hl => match us, hl with | [_, _, _], _ => rfl
  have gWR := PySem.W.mg_of X G aWR
  have FPU := fun_mk (st := sPU) lPU cPU1 kPU1
  have bPU := FPU.binds (ps := ["state", "records"]) fun _ _ _ _ _ _ us hl => match us, hl with | [_, _], _ => rfl
  have gPU := PySem.W.mg_of X G aPU
  have FSO := fun_mk (st := sSO) lSO cSO1 kSO1
  have bSO := FSO.binds (ps := ["records", "name", "word"]) fun _ _ _ _ _ _ us hl => match us, hl with | [_, _, _], _ => rfl
  have gSO := PySem.W.mg_of X G aSO
  have FSY := fun_mk (st := sSY) lSY cSY1 kSY1
  have bSY := FSY.binds (ps := ["records"]) fun _ _ _ _ _ _ us hl => match us, hl with | [_], _ => rfl
  have gSY := PySem.W.mg_of X G aSY
  have FLD := fun_mk (st := sLD) lLD cLD1 kLD1
  have bLD := FLD.binds (ps := ["records", "name", "word"]) fun _ _ _ _ _ _ us hl => match us, hl with | [_, _, _], _ => rfl
  have gLD := PySem.W.mg_of X G aLD
  have FTD := fun_mk (st := sTD) lTD cTD1 kTD1
  have bTD := FTD.binds (ps := ["records", "key", "what"]) fun _ _ _ _ _ _ us hl => match us, hl with | [_, _, _], _ => rfl
  have gTD := PySem.W.mg_of X G aTD
  have gLAW := PySem.W.mg_of X G aLAW
  have gLE := PySem.W.mg_of X G gLE0
  have gMN := PySem.W.mg_of X G gMN0
  have m_len := PySem.W.mg_none_of X G z_len
  have m_range := PySem.W.mg_none_of X G z_range
  have m_int := PySem.W.mg_none_of X G z_int
  have m_abs := PySem.W.mg_none_of X G z_abs
  have m_isinstance := PySem.W.mg_none_of X G z_isinstance
  have m_tuple := PySem.W.mg_none_of X G z_tuple
  have m_sorted := PySem.W.mg_none_of X G z_sorted
  have m_str := PySem.W.mg_none_of X G z_str
  have m_all := PySem.W.mg_none_of X G z_all
  have m_repr := PySem.W.mg_none_of X G z_repr
  have m_ValueError := PySem.W.mg_none_of X G z_ValueError
  have lowE : PySem.TextX.TextTxt K mg CE fIE :=
    { gC := PySem.W.mg_of X G nE, cls := ⟨nmE, qE, NE, bsE, _, snE, subE, abE, colE, ddE, m0E, m1E, m2E, m3E, m5E, xE, rfl⟩, sa := saE, ga := gaE, gg := ggE, noN := nsE, iC := aiE, tC := tiE, kC := kpE, exC := eeE, tyC := tyE, hdC := hdE, te := exm_self eeE hdE tyE sbE,
      fn := ⟨_, _, _, _, _, _, _, _, _, _, _, _, _, _, liE, ciE⟩ }
  have exE : ExcC K CE := ⟨gaE, ggE, eeE, hdE, clE, scE, tkE, mrE⟩
  have gWE := PySem.W.mg_of X G nW
  have FSI := fun_mk (st := sSI) lSI cSI1 kSI1
  have bSI := FSI.binds (ps := ["self", "records"]) fun _ _ _ _ _ _ us hl => match us, hl with | [_, _], _ => rfl
  have MSI : Meth K CS "__init__" fSI := ⟨aSI, iSI, kSI1⟩
  have FLN := fun_mk (st := sLN) lLN cLN1 kLN1
  have bLN := FLN.binds (ps := ["self", "name", "word"]) fun _ _ _ _ _ _ us hl => match us, hl with | [_, _, _], _ => rfl
  have MLN : Meth K CS "least_numbers" fLN := ⟨aLN, iLN, kLN1⟩
  have TS : TxtS K mg CS := ⟨⟨pgCS, hdCS, poCS, saCS⟩, no_records, no_numbers, PySem.W.mg_of X G nCS⟩
  have MkS : Mk K CS fSI := ⟨mkCS, aSI, iSI, kpCS⟩
  have VF : VouF K mg CE fIE CW CP := { low := lowE, ex := exE, gW := gWE, gP := PySem.W.mg_of X G nP, teW := PySem.W.exm_ref eeCW hdCW tyCW suW, kV := kitV, kE := kitE, kP := kitP, mi := m_isinstance, mV := m_ValueError }
  have emLS : h.get? T4 = some { cls := .none, data := .fields #[] } := tabs "_law_stands" fLS hrecT4 gLS cLS T4 _ _ _ _ _ _ lLS rfl rfl tLSc tLSv
  have emW : h.get? T1 = some { cls := .none, data := .fields #[] } := tabs "is_word" fW hrecT1 gW cW T1 _ _ _ _ _ _ lW rfl rfl tWc tWv
  have emIL : h.get? T2 = some { cls := .none, data := .fields #[] } := tabs "is_label" fIL hrecT2 gIL cIL T2 _ _ _ _ _ _ lIL rfl rfl tILc tILv
  have all_ : ∀ {P : Addr × Addr → Prop}, P (cW, T1) → P (cIL, T2) → P (cLS, T4) →  (∀ p ∈ ([(cW, T1), (cIL, T2), (cLS, T4)] : List (Addr × Addr)), P p) := fun xW xIL xLS p hp => by
    simp only [List.mem_cons, List.not_mem_nil, or_false] at hp
    rcases hp with rfl | rfl | rfl
    · exact xW
    · exact xIL
    · exact xLS
  refine ⟨PySem.W.fnOf "law" "law" (defArgs sLAW) (defBody sLAW) (defScope sLAW) .none kVLAW dcLAW pmLAW anLAW cdLAW ctLAW, [(cW, T1), (cIL, T2), (cLS, T4)], spLaw K [T1, T2] T4, all_ emW emIL emLS, all_ tWn tILn tLSn, all_ (PySem.W.codeHd_of_K X tWh) (PySem.W.codeHd_of_K X tILh) (PySem.W.codeHd_of_K X tLSh), fun s v => .of_eq rfl, ?_, ?_⟩
  · intro H a ns hl hbits hH hS
    have qW := hH (cW, T1) (by simp)
    have qIL := hH (cIL, T2) (by simp)
    have qLS := hH (cLS, T4) (by simp)
    have g : TG [T1, T2] H := fun T hT => by
      simp only [List.mem_cons, List.not_mem_nil, or_false] at hT
      rcases hT with rfl | rfl
      · exact ⟨#[], qW, trivial⟩
      · exact ⟨#[], qIL, trivial⟩
    exact ⟨a, ns, rfl, hS, hl, g, ⟨#[], qLS, trivial, fun _ _ z => nomatch z⟩, fun z => by
      simp only [List.mem_cons, List.not_mem_nil, or_false] at z
      rcases z with z | z
      · exact neT1T4 z.symm
      · exact neT2T4 z.symm, fun _ => rfl⟩
  · intro base _ _ hT
    have TBW := hT (cW, T1) (by simp)
    have TBIL := hT (cIL, T2) (by simp)
    have TBLS := hT (cLS, T4) (by simp)
    have GSR := ok_SR (P := l.prog) (w := w) (mg := mg) (base := base) FSR m_sorted
    have GST := ok_state (P := l.prog) (w := w) (mg := mg) (base := base) FST m_len m_abs
    have GT := ok_T (P := l.prog) (w := w) (mg := mg) (base := base) FT m_len m_int
    have GHA := ok_HA (P := l.prog) (w := w) (mg := mg) (base := base) FHA GT bT gT kT1
    have GID := ok_ID (P := l.prog) (w := w) (mg := mg) (base := base) FID
    have GRC := ok_RC (P := l.prog) (w := w) (mg := mg) (base := base) FRC GT bT gT kT1 GID bID gID kID1 m_len
    have GRS := ok_RS (P := l.prog) (w := w) (mg := mg) (base := base) FRS GT bT gT kT1 GHA bHA gHA kHA1 GRC bRC gRC kRC1 m_len m_range
    have GLS := ok_LS (P := l.prog) (w := w) (mg := mg) (base := base) lLS cLS1 TBLS m_sorted
    have GFA := ok_FA (P := l.prog) (w := w) (mg := mg) (base := base) FFA
    have GTO := ok_TO (P := l.prog) (w := w) (mg := mg) (base := base) FTO m_len m_isinstance m_tuple
    have GW := ok_word (P := l.prog) (w := w) (mg := mg) (base := base) lW cW1 TBW m_len m_all
    have GIH := ok_IH (P := l.prog) (w := w) (mg := mg) (base := base) FIH GW bW gW kW1 gLE m_isinstance m_str
    have GWI := ok_WI (P := l.prog) (w := w) (mg := mg) (base := base) FWI m_int m_isinstance
    have GIL := ok_IL (P := l.prog) (w := w) (mg := mg) (base := base) (Ts := [T1, T2]) (by simp) lIL cIL1 TBIL GTO bTO gTO kTO1 GWI bWI gWI kWI1 m_isinstance m_tuple m_all m_range m_len
    have GII := ok_II (P := l.prog) (w := w) (mg := mg) (base := base) (Ts := [T1, T2]) (by simp) FII GTO bTO gTO kTO1 GIL bIL gIL kIL1 GIH bIH gIH kIH1 GWI bWI gWI kWI1
    have GWI2 := ok_WI2 (P := l.prog) (w := w) (mg := mg) (base := base) FWI m_isinstance m_int
    have GCK := ok_CK (Ts := [T1, T2]) (P := l.prog) (w := w) (mg := mg) (base := base) (by simp) FCK lowE GTO bTO gTO kTO1 GIH bIH gIH kIH1 GWI2 bWI gWI kWI1 GII bII gII kII1 gMN
    have GWR := ok_WR (P := l.prog) (w := w) (mg := mg) (base := base) FWR lowE GCK bCK gCK kCK1
    have GPU := ok_PU (P := l.prog) (w := w) (mg := mg) (base := base) FPU GWR bWR gWR kWR1 GT bT gT kT1 m_len m_range m_sorted
    have GSI := ok_SI (P := l.prog) (w := w) (mg := mg) (base := base) FSI TS GSR bSR gSR kSR1 m_sorted
    have GLN := ok_LN (P := l.prog) (w := w) (mg := mg) (base := base) FLN TS
    have GSO := ok_SO (P := l.prog) (w := w) (mg := mg) (base := base) FSO TS MkS GSI bSI MLN GLN bLN m_sorted
    have GSY := ok_SY (P := l.prog) (w := w) (mg := mg) (base := base) FSY GLS bLS gLS kLS1 m_sorted
    have GLD := ok_LD (P := l.prog) (w := w) (mg := mg) (base := base) FLD GSY bSY gSY kSY1
    have GTD := ok_TD (Ts := [T1, T2]) (P := l.prog) (w := w) (mg := mg) (base := base) FTD VF GCK bCK gCK kCK1 GWR bWR gWR kWR1
    exact ok_LAW lLAW cLAW1 GST bST gST kST1 GID bID gID kID1 GRS bRS gRS kRS1 GPU bPU gPU kPU1 GLS bLS gLS kLS1 GSR bSR gSR kSR1 GSO bSO gSO kSO1 GLD bLD gLD kLD1 GFA bFA gFA kFA1 GTD bTD gTD kTD1 m_sorted m_all m_repr
end K20
open PySem PySem.W PyProof.Rows
set_option maxRecDepth 100000 in
set_option maxHeartbeats 0 in
theorem PySem.Challenge.cw_quiltward_k40_records_in_any_order_holds : PySem.Challenge.rw_quiltward_k40_records_in_any_order.Holds := by
  w_on; o_law; k_head; (case hw => w_witness2)
  k_fill
  refine GX.walk_tabsC (l := PySem.Challenge.rw_quiltward_k40_records_in_any_order) (n := 63) (x := "script") rfl (by decide) rfl (fun w h Y => PySem.W.km_in_of Y) ?F
  case F =>
    intro w mg fa h Y KX G hmg tabs
    refine' K20.all_mk KX G hmg tabs ?hrecT4 ?hrecT1 ?hrecT2 ?nCS ?pgCS ?hdCS ?poCS ?saCS ?mkCS ?kpCS ?no_records ?no_numbers ?aSI ?iSI ?lSI ?cSI1 ?kSI1 ?aLN ?iLN ?lLN ?cLN1 ?kLN1 ?aSR ?lSR ?cSR1 ?kSR1 ?aST ?lST ?cST1 ?kST1 ?aT ?lT ?cT1 ?kT1 ?aHA ?lHA ?cHA1 ?kHA1 ?aID ?lID ?cID1 ?kID1 ?aRC ?lRC ?cRC1 ?kRC1 ?aRS ?lRS ?cRS1 ?kRS1 ?aLS ?lLS ?cLS1 ?kLS1 ?aFA ?lFA ?cFA1 ?kFA1 ?aTO ?lTO ?cTO1 ?kTO1 ?aW ?lW ?cW1 ?kW1 ?aIH ?lIH ?cIH1 ?kIH1 ?aWI ?lWI ?cWI1 ?kWI1 ?aIL ?lIL ?cIL1 ?kIL1 ?aII ?lII ?cII1 ?kII1 ?aCK ?lCK ?cCK1 ?kCK1 ?aWR ?lWR ?cWR1 ?kWR1 ?aPU ?lPU ?cPU1 ?kPU1 ?aSO ?lSO ?cSO1 ?kSO1 ?aSY ?lSY ?cSY1 ?kSY1 ?aLD ?lLD ?cLD1 ?kLD1 ?aTD ?lTD ?cTD1 ?kTD1 ?aLAW ?lLAW ?cLAW1 ?kLAW1 ?tWc ?tWv ?tWh ?tWn ?tILc ?tILv ?tILh ?tILn ?tLSc ?tLSv ?tLSh ?tLSn ?neT1T2 ?neT1T4 ?neT2T4 ?gLE0 ?gMN0 ?nW ?nE ?xE ?saE ?gaE ?ggE ?nsE ?aiE ?tiE ?liE ?ciE ?kpE ?eeE ?tyE ?hdE ?sbE ?clE ?scE ?tkE ?mrE ?ktE ?nP ?suW ?eeCW ?hdCW ?tyCW ?kitV ?kitE ?kitP ?z_len ?z_range ?z_int ?z_abs ?z_isinstance ?z_tuple ?z_sorted ?z_str ?z_all ?z_repr ?z_ValueError
    (case hrecT4 => decide +kernel)
    (case hrecT1 => decide +kernel)
    (case hrecT2 => decide +kernel)
    (case nCS => k_is)
    (case pgCS => k_is)
    (case hdCS => k_is)
    (case poCS => k_is)
    (case saCS => k_is)
    (case mkCS => k_is)
    (case kpCS => k_is)
    (case no_records => k_is)
    (case no_numbers => k_is)
    (case aSI => k_is)
    (case iSI => k_is)
    (case lSI => k_is)
    (case cSI1 => k_is)
    (case kSI1 => k_is)
    (case aLN => k_is)
    (case iLN => k_is)
    (case lLN => k_is)
    (case cLN1 => k_is)
    (case kLN1 => k_is)
    (case aSR => k_is)
    (case lSR => k_is)
    (case cSR1 => k_is)
    (case kSR1 => k_is)
    (case aST => k_is)
    (case lST => k_is)
    (case cST1 => k_is)
    (case kST1 => k_is)
    (case aT => k_is)
    (case lT => k_is)
    (case cT1 => k_is)
    (case kT1 => k_is)
    (case aHA => k_is)
    (case lHA => k_is)
    (case cHA1 => k_is)
    (case kHA1 => k_is)
    (case aID => k_is)
    (case lID => k_is)
    (case cID1 => k_is)
    (case kID1 => k_is)
    (case aRC => k_is)
    (case lRC => k_is)
    (case cRC1 => k_is)
    (case kRC1 => k_is)
    (case aRS => k_is)
    (case lRS => k_is)
    (case cRS1 => k_is)
    (case kRS1 => k_is)
    (case aLS => k_is)
    (case lLS => k_is)
    (case cLS1 => k_is)
    (case kLS1 => k_is)
    (case aFA => k_is)
    (case lFA => k_is)
    (case cFA1 => k_is)
    (case kFA1 => k_is)
    (case aTO => k_is)
    (case lTO => k_is)
    (case cTO1 => k_is)
    (case kTO1 => k_is)
    (case aW => k_is)
    (case lW => k_is)
    (case cW1 => k_is)
    (case kW1 => k_is)
    (case aIH => k_is)
    (case lIH => k_is)
    (case cIH1 => k_is)
    (case kIH1 => k_is)
    (case aWI => k_is)
    (case lWI => k_is)
    (case cWI1 => k_is)
    (case kWI1 => k_is)
    (case aIL => k_is)
    (case lIL => k_is)
    (case cIL1 => k_is)
    (case kIL1 => k_is)
    (case aII => k_is)
    (case lII => k_is)
    (case cII1 => k_is)
    (case kII1 => k_is)
    (case aCK => k_is)
    (case lCK => k_is)
    (case cCK1 => k_is)
    (case kCK1 => k_is)
    (case aWR => k_is)
    (case lWR => k_is)
    (case cWR1 => k_is)
    (case kWR1 => k_is)
    (case aPU => k_is)
    (case lPU => k_is)
    (case cPU1 => k_is)
    (case kPU1 => k_is)
    (case aSO => k_is)
    (case lSO => k_is)
    (case cSO1 => k_is)
    (case kSO1 => k_is)
    (case aSY => k_is)
    (case lSY => k_is)
    (case cSY1 => k_is)
    (case kSY1 => k_is)
    (case aLD => k_is)
    (case lLD => k_is)
    (case cLD1 => k_is)
    (case kLD1 => k_is)
    (case aTD => k_is)
    (case lTD => k_is)
    (case cTD1 => k_is)
    (case kTD1 => k_is)
    (case aLAW => k_is)
    (case lLAW => k_is)
    (case cLAW1 => k_is)
    (case kLAW1 => k_is)
    (case tWc => k_is)
    (case tWv => rfl)
    (case tWh => first | rfl | kernel_rfl)
    (case tWn => first | rfl | kernel_rfl)
    (case tILc => k_is)
    (case tILv => rfl)
    (case tILh => first | rfl | kernel_rfl)
    (case tILn => first | rfl | kernel_rfl)
    (case tLSc => k_is)
    (case tLSv => rfl)
    (case tLSh => first | rfl | kernel_rfl)
    (case tLSn => first | rfl | kernel_rfl)
    (case neT1T2 => first | decide | (intro z; cases z))
    (case neT1T4 => first | decide | (intro z; cases z))
    (case neT2T4 => first | decide | (intro z; cases z))
    (case gLE0 => k_is)
    (case gMN0 => k_is)
    (case nW => k_is)
    (case nE => k_is)
    (case xE => k_is)
    (case saE => k_is)
    (case gaE => k_is)
    (case ggE => k_is)
    (case nsE => k_is)
    (case aiE => k_is)
    (case tiE => k_is)
    (case liE => k_is)
    (case ciE => k_is)
    (case kpE => k_is)
    (case eeE => k_is)
    (case tyE => k_is)
    (case hdE => k_is)
    (case sbE => first | rfl | k_is)
    (case clE => k_is)
    (case scE => k_is)
    (case tkE => k_is)
    (case mrE => k_is)
    (case ktE => first | rfl | k_is)
    (case nP => k_is)
    (case suW => k_is)
    (case eeCW => k_is)
    (case hdCW => k_is)
    (case tyCW => k_is)
    (case kitV => first | rfl | kernel_rfl | kit_is)
    (case kitE => first | rfl | kernel_rfl | kit_is)
    (case kitP => first | rfl | kernel_rfl | kit_is)
    (case z_len => k_is)
    (case z_range => k_is)
    (case z_int => k_is)
    (case z_abs => k_is)
    (case z_isinstance => k_is)
    (case z_tuple => k_is)
    (case z_sorted => k_is)
    (case z_str => k_is)
    (case z_all => k_is)
    (case z_repr => k_is)
    (case z_ValueError => k_is)
