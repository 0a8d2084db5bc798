import PyProof.Rows.All
import Wide.All
import OpenK.AllK
import Wide.FinOn
import PySem.Challenge.RW_quiltward_k22_whole_any_lines_are_read_o
import HandS.ForSpec
import HandS.ForMost
import HandS.AnyAll
import HandS.EndTab
import HandS.StrMore
import HandS.FStr
import HandS.IsInst
import HandS.Wide
import HandS.RaiseMore
import HandS.Text
import HandS.Codes
import HandS.RevRange
import HandS.Style
import HandS.More
import HandS.TupLe
import HandS.TupMul
import KE.DataEq
import KE.Datum
import KE.GoesEnum
import PyProof.Draws
import PyProof.EnumMake
import PyProof.StrOps2
import PyProof.StrLawsChain
import PyProof.StrLawsTight
import HandS.Walk
import HandS.Comp
import PyProof.GenQ
import PyProof.ToksMono
import HandS.Dict
import HandS.DictTup
import HandS.DictComp
import HandS.TupLen
import PyProof.DictMoreH
import PyProof.DictTruth
import PyProof.ReprRoads
import HandS.EndOwn
import HandS.StrSplit
import KE.DatumOrd
import KE.SortData
import KE.DataCmp
import HandS.SortRule
import KE.KxText
import HandS.Flow
import HandS.TupAny
import HandS.Exc
import HandS.ExcOwn
import KE.GoesRaise
import KE.KAsSuite
import PyProof.EqAt
import PyProof.EqKinds
import PyProof.TupleCall
import Open.SpecLaws
import KE.OsGo
import HandS.ExcIs
import KE.KExcIs
import HandS.Replace
set_option Elab.async false
set_option linter.all false
set_option maxRecDepth 100000
set_option maxHeartbeats 4000000
/-! rules of my own over the hand layer -/
namespace QR
open PySem PySem.Spec PyProof.Rows L2 GxR
section
variable {X : Cx} {pins : List (Addr × Obj)} {σ : L2.St} {H : Hp} {s : Shared}

/-! ### all(test for x in source), the test may read captured names -/
/-- what is walked: from the state s1, an iterator of n items, of which item i is one of Pw i; more: what else is looked at -/
def SrcOk (X : Cx) (P : Addr) (u : Value) (s1 : Shared) (n : Nat) (Pw : Nat → Value → Prop) : Prop :=
  ∃ more : List Addr, (∀ b ∈ more, b < s1.heap.objs.size ∧ b ≠ P) ∧
    ∀ Q : Value → Shared → Prop, (∀ (ob : Obj) (St : Nat → Heap → Prop),
        (∀ A' : Around, A'.handled = none → Walks X.prog X.w A' s1.heap.objs.size (s1.heap.objs.size :: more) [s1.heap.objs.size] n Pw St) → St 0 (s1.heap.push ob) →
          Q (.ref s1.heap.objs.size) { s1 with heap := s1.heap.push ob }) → wpAny (model X.prog X.w) X.A (pyIter u) Q X.xe s1
/-- the element is a test: tr i for the item i -/
def EltOk (X : Cx) (P : Addr) (scope : Scope) (x : Str) (elt : Expr) (s1 : Shared) (Pw : Nat → Value → Prop) (tr : Nat → Bool) : Prop :=
  ∀ (ce : Env) (A' : Around) (E' : Value → Shared → Prop) (i : Nat) (v : Value) (s2 : Shared) (m2 : Str → Option Value), A'.handled = none → ce.scope = scope → ce.cells = cloFrom X.env.cells scope.names [] →
    Pw i v → s2.heap.Ns ce.locals m2 → m2 x = some v → (∀ b o, b ≠ P → s1.heap.get? b = some o → s2.heap.get? b = some o) →
      wpAny (model X.prog X.w) A' (eval elt ce) (fun y s3 => y = .bool (tr i) ∧ Keeps s2 s3) E' s2

/-- made: the generator g is ready for its walk -/
def Made (X : Cx) (pins : List (Addr × Obj)) (σ : L2.St) (H1 : Hp) (P : Addr) (n : Nat) (tr : Nat → Bool) (g : Addr) (s5 : Shared) : Prop :=
  ∃ (fp wr : List Addr) (G : Array GenState → Array GenState → Prop) (F : Nat → Value → Prop) (St : Nat → Shared → Prop),
    WalksS X.prog X.w X.A.in1 g fp wr G n F St ∧ St 0 s5 ∧ TruthOf X.prog X.w X.A.in1 F tr ∧
      ∀ s', Moved wr G s5 s' → ∃ H2, Tabbed P H1 H2 ∧ Inv X pins σ H2 s'

theorem gen_make {c P : Addr} {elt iter : Expr} {x : Str} {px gpos : Pos} {scope : Scope} {k : Nat} {Q' : Value → Shared → Prop}
    (hr : Room k X.A) (TB : TabB X.base X.mg c P) (hcode : X.env.code = .ref c) (S : GenS X.env scope x) (hs : ∀ v, genFold iter X.env v = pure v)
    (h : wpAny (model X.prog X.w) X.A (eval iter X.env) (fun u s1 => ∃ (H1 : Hp) (n : Nat) (Pw : Nat → Value → Prop) (tr : Nat → Bool), Inv X pins σ H1 s1 ∧ TabG H1 P ∧ SrcOk X P u s1 n Pw ∧ EltOk X P scope x elt s1 Pw tr ∧
      ∀ g s5, Made X pins σ H1 P n tr g s5 → Q' (.ref g) s5) X.xe s) :
    wpAny (model X.prog X.w) X.A (eval (.GeneratorExp elt [⟨.Name x px, iter, [], 0⟩] scope gpos) X.env) Q' X.xe s := by
  have dp := hr.dp
  refine wpAny_GeneratorExp_walksQ hr.hd S.co (closure_ok S.free) S.cell S.dot S.loc S.kind (by omega) (thn h ?_) hs
  intro u s1 ⟨H1, n, Pw, tr, I1, ⟨ps, hP, hps⟩, ⟨more, hmore, hit⟩, hel, hQ⟩
  refine hit _ fun ob St W st0 => ?_
  -- the table, in the heap before and behind the iterator
  have tb0 : s1.heap.get? P = some { cls := .none, data := .fields ps } := I1.hok P _ hP
  have ltP : P < s1.heap.objs.size := Heap.lt_size tb0
  have tb1 := Heap.get?_push_of_some ob tb0
  have code1 : PySem.W.CodeHd (s1.heap.push ob) c P := TB.code.keeps fun b o e => Heap.get?_push_of_some _ (I1.bk b o e)
  have lim1 := I1.nolimit.push ob
  have lt1 : cStatics < s1.heap.objs.size := let ⟨_, z, _⟩ := I1.nolimit; z.lt
  have neP : cStatics ≠ P := by
    intro e
    obtain ⟨_, ⟨o', es, ep, ho, hd, _⟩, _⟩ := I1.nolimit
    rw [e, tb0] at ho
    cases ho
    cases hd
  have sz1 : (s1.heap.push ob).objs.size = s1.heap.objs.size + 1 := Heap.size_push ..
  have up3 : ∀ h3 : Heap, (s1.heap.push ob).objs.size ≤ h3.objs.size → s1.heap.objs.size < h3.objs.size := fun h3 l => by
    rw [sz1] at l
    exact l
  refine ⟨lim1, ?_⟩
  have rest : ∀ (code : Value) (h3 : Heap) (tk : Nat) (ps3 : Array Value), Heap.ExtBut P (s1.heap.push ob) h3 → (s1.heap.push ob).objs.size ≤ h3.objs.size → h3.get? P = some { cls := .none, data := .fields ps3 } →
      (∃ q, ps3 = ps ++ q) → TriplesOk ps3.toList →
      wpAny (model X.prog X.w) X.A (builtinsFor X.env.globals X.env.builtins) (fun bi s4 =>
        ∃ Ia fp wr n0 Pf St0 pz F, Value.ref s1.heap.objs.size = .ref Ia ∧ (∀ A' : Around, A'.handled = none → Walks X.prog X.w A' Ia fp wr n0 Pf St0) ∧ St0 0 s4.heap ∧ (∀ b ∈ fp, b < s4.heap.objs.size) ∧ s4.heap.NoLimit ∧ cStatics ∉ wr ∧
          (∀ hf : Heap, (∀ b o, s4.heap.get? b = some o → hf.get? b = some o) →
            QuietGen X.prog X.w (genEnv scope (cloFrom X.env.cells scope.names []) s4.heap.objs.size code bi X.env) x [] elt (List.range s4.heap.objs.size) wr Pf pz F hf) ∧
          (∀ a h5 tk gs, gs.bare = true → s4.heap.objs.size < a → h5.objs.size = a + 1 → (∀ b o, s4.heap.get? b = some o → h5.get? b = some o) →
            WalksS X.prog X.w X.A.in4 a (a :: s4.heap.objs.size :: List.range s4.heap.objs.size) (s4.heap.objs.size :: wr) (GenOnlyQ s4.gens.size) (passing pz n0 0).length
              (fun j y => ∃ i, (passing pz n0 0)[j]? = some i ∧ F i y) (GenAt X.prog X.w X.A.in4 a s4.gens.size s4.heap.objs.size (List.range s4.heap.objs.size) wr pz n0 F) →
            GenAt X.prog X.w X.A.in4 a s4.gens.size s4.heap.objs.size (List.range s4.heap.objs.size) wr pz n0 F 0 { s4 with gens := s4.gens.push gs, toks := tk, heap := h5 } →
              Q' (.ref a) { s4 with gens := s4.gens.push gs, toks := tk, heap := h5 })) X.xe { s1 with heap := h3, toks := tk } := by
    intro code h3 tk ps3 ext le3 tb3 hq ok3
    obtain ⟨bm, om, m1, m2, m3, m4, m5, m6, m7, m8⟩ := TB.bm
    have k3 : ∀ b o, b ≠ P → s1.heap.get? b = some o → h3.get? b = some o := fun b o ne e => ext b o ne (Heap.get?_push_of_some _ e)
    refine wpAny_builtinsFor (m := X.mg) ?_ m1 m2 (k3 _ _ m4 (I1.bk _ _ m5)) m6 m7 m8 ?_
    · rw [I1.ok.glob]
      exact ((I1.mod.glob.keeps I1.bk).push ob).extBut ext TB.gP
    refine ⟨s1.heap.objs.size, s1.heap.objs.size :: more, [s1.heap.objs.size], n, Pw, St, fun _ => true, fun i y => y = .bool (tr i), rfl, W, ?_, ?_, lim1.extBut ext neP, ?_, ?_, ?_⟩
    · refine (W X.A hr.hd).frame _ _ _ st0 fun b hb o e => ext b o ?_ e
      intro z
      rcases List.mem_cons.mp hb with q | q
      · rw [z] at q
        rw [q] at ltP
        exact Nat.lt_irrefl _ ltP
      · exact (hmore b q).2 z
    · intro b hb
      show b < h3.objs.size
      rcases List.mem_cons.mp hb with q | q
      · rw [q]
        exact up3 h3 le3
      · exact Nat.lt_trans (hmore b q).1 (up3 h3 le3)
    · intro z
      rcases List.mem_cons.mp z with q | q
      · rw [q] at lt1
        exact Nat.lt_irrefl _ lt1
      · cases q
    · intro hf hk
      constructor
      · intro A' E' i v s2 mm hA hv hn hm hkk
        rw [List.forIn_nil]
        exact wpAny_pure ⟨rfl, keeps_refl _⟩
      · intro A' E' i v s2 mm hA hv _ hn hm hkk
        refine hel _ A' E' i v s2 mm hA rfl rfl hv hn hm fun b o ne e => ?_
        have e3 := k3 b o ne e
        have l1 := Heap.lt_size e
        refine hkk b (List.mem_range.mpr (Heap.lt_size e3)) ?_ o (hk b o e3)
        intro z
        rcases List.mem_cons.mp z with q | q
        · rw [q] at l1
          exact Nat.lt_irrefl _ l1
        · cases q
    · intro g h5 tk5 gs bare5 gt5 sz5 k5 W5 at5
      simp only [GxR.passing_true, List.length_range] at W5
      refine hQ g _ ⟨_, _, _, _, _, W5.in4_1, at5, ?_, fun s' mv => ?_⟩
      · intro j y sj Qj Ej ⟨i, hij, ey⟩ hQj
        obtain ⟨lj, ej⟩ := List.getElem?_eq_some_iff.mp hij
        rw [List.getElem_range] at ej
        rw [ey, ← ej]
        exact wpAny_truthy_bool hQj
      · obtain ⟨q, eq3⟩ := hq
        have out : ∀ b o, s1.heap.get? b = some o → b ∉ h3.objs.size :: [s1.heap.objs.size] := by
          intro b o e hb
          have l1 := Heap.lt_size e
          rcases List.mem_cons.mp hb with z | z
          · rw [z] at l1
            have l2 : h3.objs.size < s1.heap.objs.size := l1
            omega
          · rcases List.mem_cons.mp z with z | z
            · rw [z] at l1
              exact Nat.lt_irrefl _ l1
            · cases z
        have tb' : s'.heap.get? P = some { cls := .none, data := .fields (ps ++ q) } := by
          rw [← eq3]
          exact mv.heap P _ (out P _ tb0) (k5 P _ tb3)
        have J := inv_tab (g' := s'.gens) (d' := s'.drawn) (t' := s'.toks) I1 hP (fun b o ne e => mv.heap b o (out b o e) (k5 b o (k3 b o ne e))) tb' (AllBare.movedS (I1.bare.push bare5) mv)
        rw [sh_eta s1 s' mv.os] at J
        exact ⟨upd H1 P (.tbl (ps ++ q)), ⟨⟨ps ++ q, upd_same, by rw [← eq3]; exact ok3⟩, fun b ne => upd_ne ne⟩, J⟩
  cases hc : codeAmong gpos ps.toList with
  | some cv =>
    exact wpAny_genexprCode_hit hcode (code1.code tb1 hps) hc (rest cv _ s1.toks ps (Heap.ExtBut.refl _ _) (Nat.le_refl _) tb1 ⟨#[], (Array.append_empty).symm⟩ hps)
  | none =>
    refine wpAny_genexprCodeX hcode (code1.code tb1 hps) (code1.tab tb1) hc ?_
    intro c' h' tk ext ge lt isC _ tab' _
    obtain ⟨o1, v1, f1, f2, f3, f4, f5, f6, f7, f8, _, _, _, _, _, _, _, _, _, okT, _⟩ := isC
    exact rest _ h' tk _ ext (Nat.le_trans ge (Nat.le_of_lt lt)) tab'.2 ⟨_, rfl⟩ okT

/-- all of it -/
theorem all_run {c P : Addr} {elt iter : Expr} {x : Str} {px p pos gpos : Pos} {scope : Scope} {k : Nat} {Q : V → Hp → Prop}
    (hr : Room k X.A) (hg : Gl X "all") (hm : X.mg "all" = none) (TB : TabB X.base X.mg c P) (hcode : X.env.code = .ref c) (S : GenS X.env scope x) (hs : ∀ v, genFold iter X.env v = pure v) (I : Inv X pins σ H s)
    (h : wpAny (model X.prog X.w) X.A (eval iter X.env) (fun u s1 => ∃ (H1 : Hp) (n : Nat) (Pw : Nat → Value → Prop) (tr : Nat → Bool), Inv X pins σ H1 s1 ∧ TabG H1 P ∧ SrcOk X P u s1 n Pw ∧ EltOk X P scope x elt s1 Pw tr ∧
      ∀ H2, Tabbed P H1 H2 → Q (.bl ((List.range n).all tr)) H2) X.xe s)
    (he : starEach [.GeneratorExp elt [⟨.Name x px, iter, [], 0⟩] scope gpos] X.env = (false, eval (.GeneratorExp elt [⟨.Name x px, iter, [], 0⟩] scope gpos) X.env) :: starEach [] X.env := by rfl) :
    wpAny (model X.prog X.w) X.A (eval (.Call (.Name "all" p) [.GeneratorExp elt [⟨.Name x px, iter, [], 0⟩] scope gpos] [] pos) X.env) (EP X pins σ Q) X.xe s := by
  refine wpAny_Call_Name_kw (ld_blt I hg hm (show bootBuiltins "all" = some (.builtin "all") by decide +kernel) ?_)
  refine PyProof.Rows.callWith_builtin1 ?_ he (by rfl)
  rw [he]
  refine Calls.spliced_cons (gen_make (pins := pins) (σ := σ) hr TB hcode S hs (thn h ?_))
  intro u s1 ⟨H1, n, Pw, tr, I1, T1, src, el, q⟩
  refine ⟨H1, n, Pw, tr, I1, T1, src, el, fun g s5 mk => ?_⟩
  obtain ⟨fp, wr, G, F, St0, W, st5, tru, back⟩ := mk
  refine Calls.spliced_nil (call_all_walkS (W.self 0 _ _ _ st5 ⟨g, fp, wr, G, n, F, St0, tr, rfl, W, st5, tru, fun s' mv => ?_⟩))
  obtain ⟨H2, t2, I2⟩ := back s' mv
  exact ⟨.bl _, H2, I2, rfl, q H2 t2⟩

/-! ### all(x in y for x in text), y a captured text in the slot i -/
def tAllIn (P : Addr) (i : Nat) (te : TE) : TE := fun σ H Q => te σ H fun v H1 => ∃ a z : Str, v = .str a ∧ σ[i]? = some (some (.str z)) ∧ TabG H1 P ∧
  ∀ H2, Tabbed P H1 H2 → Q (.bl (a.cps.toList.all fun c => decide (c ∈ z.cps.toList))) H2
theorem pe_allIn {c P : Addr} {iter : Expr} {x y : Str} {i : Nat} {px p pos gpos p1 p2 p3 : Pos} {scope : Scope} {te : TE} {k : Nat}
    (hr : Room k X.A) (hg : Gl X "all") (hm : X.mg "all" = none) (TB : TabB X.base X.mg c P) (hcode : X.env.code = .ref c) (S : GenS X.env scope x) (hi : PE X iter te) (hs : ∀ v, genFold iter X.env v = pure v)
    (hN : X.N[i]? = some y) (hv : X.env.kindOf y = some .cell) (hy : scope.names.lookup y = some .free) (hyc : (cloFrom X.env.cells scope.names []).lookup y = X.env.cells.lookup y)
    (he : starEach [.GeneratorExp (.Compare (.Name x p1) [.In] [.Name y p2] p3) [⟨.Name x px, iter, [], 0⟩] scope gpos] X.env = (false, eval (.GeneratorExp (.Compare (.Name x p1) [.In] [.Name y p2] p3) [⟨.Name x px, iter, [], 0⟩] scope gpos) X.env) :: starEach [] X.env := by rfl)
    (hd : (x == ("__debug__" : Str)) = false := by decide) (hd2 : (y == ("__debug__" : Str)) = false := by decide) (hn2 : (y == ("__classdict__" : Str)) = false := by decide) :
    PE X (.Call (.Name "all" p) [.GeneratorExp (.Compare (.Name x p1) [.In] [.Name y p2] p3) [⟨.Name x px, iter, [], 0⟩] scope gpos] [] pos) (tAllIn P i te) := by
  refine ⟨fun pins s σ H Q I h => all_run hr hg hm TB hcode S hs I (thn (hi.run pins s σ H _ I h) ?_) he⟩
  intro u s1 ⟨v, H1, I1, r1, a, z, ev, ez, T1, q⟩
  subst ev
  obtain ⟨t, rfl⟩ := r1
  obtain ⟨m, hm1, hl⟩ := I1.loc
  obtain ⟨uz, rz, lz⟩ := hl i y _ hN ez (.inr (.inl hv))
  obtain ⟨tz, rfl⟩ := rz
  have hcell : ∃ cl, X.env.cells.lookup y = some cl ∧ s1.heap.IsCell cl (some (.str z tz)) := by
    rcases lz with ⟨k1, _⟩ | ⟨_, cl, h1, h2⟩
    · rw [hv] at k1
      cases k1
    · exact ⟨cl, h1, h2⟩
  obtain ⟨cl, hc1, hc2⟩ := hcell
  refine ⟨H1, a.cps.size, SignAt a, trF (fun c => decide (c ∈ z.cps.toList)) a.cps.toList, I1, T1, ⟨[], fun b hb => (nomatch hb), fun Q hQ => wpAny_pyIter_str hQ⟩, ?_, fun H2 t2 => ?_⟩
  · intro ce A' E' j v s2 m2 _ es ec ⟨cc, tc, hcc, ev⟩ hn hmx kp
    subst ev
    refine wpAny_Compare1 ?_ (by with_unfolding_all rfl)
    refine wpAny_Name (wpAny_loadName_local (by rw [es]; exact S.kind) (by show ce.scope.names.lookup x = _; rw [es]; exact S.loc) hn hmx ?_) hd
    refine wpAny_Name (wpAny_loadName_free (c := cl) (v := .str z tz) (by rw [es]; exact S.kind) (by show ce.scope.names.lookup y = _; rw [es]; exact hy) (by rw [ec, hyc]; exact hc1) ?_ ?_ hn2) hd2
    · obtain ⟨oc, ho, hdt⟩ := hc2
      refine ⟨oc, kp cl oc ?_ ho, hdt⟩
      intro e
      obtain ⟨ps, hP, _⟩ := T1
      have tb0 : s1.heap.get? P = some { cls := .none, data := .fields ps } := I1.hok P _ hP
      rw [e, tb0] at ho
      cases ho
      cases hdt
    · refine PyProof.Rows.in_str ⟨?_, keeps_refl _⟩
      have e9 : a.cps.toList[j]? = some cc := by rw [Array.getElem?_toList]; exact hcc
      rw [PySem.StrLaws.found_one z cc, trF_some e9]
  · rw [all_signs a]
    exact q H2 t2

end
end QR
/-! the mathematics of records: no program here -/
namespace TR
open PySem L2 TL
abbrev Sg (l : List Nat) : Str := ⟨l.toArray⟩

/-! ### numbers in digits -/
theorem val_snoc (l : List Nat) (c : Nat) : NumText.digitsVal (l ++ [c]) = NumText.digitsVal l * 10 + (c - 48) := by
  unfold NumText.digitsVal
  rw [List.foldl_append]
  rfl
theorem num_head {n : Nat} (h : 0 < n) : ∃ c r, numL n = c :: r ∧ c ≠ 48 := by
  induction n using Nat.strongRecOn with
  | _ n ih =>
    by_cases h1 : n < 10
    · refine ⟨48 + n, [], numL_lt h1, by omega⟩
    · obtain ⟨c, r, e, ne⟩ := ih (n / 10) (by omega) (by omega)
      exact ⟨c, r ++ [48 + n % 10], by rw [numL_step (by omega), e]; rfl, ne⟩
theorem num_zero : numL 0 = [48] := numL_lt (by decide)
/-- digits without leading zeros are those of their number -/
theorem num_canon : ∀ (k : Nat) (l : List Nat), l.length = k → NumText.AllDigits l → l ≠ [] → (l.head? ≠ some 48 ∨ l = [48]) → numL (NumText.digitsVal l) = l := by
  intro k
  induction k with
  | zero =>
    intro l hl _ ne _
    exact absurd (List.eq_nil_of_length_eq_zero hl) ne
  | succ k ih =>
    intro l hl hd ne hz
    obtain ⟨i, c, rfl⟩ : ∃ i c, l = i ++ [c] := ⟨l.dropLast, l.getLast ne, (List.dropLast_concat_getLast ne).symm⟩
    have hc : 48 ≤ c ∧ c ≤ 57 := hd c (List.mem_append_right _ (List.mem_singleton.mpr rfl))
    have hi : NumText.AllDigits i := fun x hx => hd x (List.mem_append_left _ hx)
    have li : i.length = k := by
      rw [List.length_append, List.length_singleton] at hl
      omega
    by_cases h0 : i = []
    · subst h0
      have e : NumText.digitsVal ([] ++ [c]) = c - 48 := by
        rw [val_snoc]
        show 0 * 10 + (c - 48) = c - 48
        omega
      rw [e, numL_lt (by omega)]
      show [48 + (c - 48)] = [c]
      rw [show 48 + (c - 48) = c by omega]
    · have hh : (i ++ [c]).head? = i.head? := by
        cases i with
        | nil => exact absurd rfl h0
        | cons x r => rfl
      have hz2 : i.head? ≠ some 48 := by
        rcases hz with z | z
        · rw [hh] at z
          exact z
        · have := congrArg List.length z
          rw [List.length_append, List.length_singleton, List.length_singleton] at this
          have : i.length = 0 := by omega
          exact absurd (List.eq_nil_of_length_eq_zero this) h0
      have e1 := ih i li hi h0 (.inl hz2)
      have hp : 0 < NumText.digitsVal i := by
        rcases Nat.eq_zero_or_pos (NumText.digitsVal i) with z | z
        · rw [z, num_zero] at e1
          rw [← e1] at hz2
          exact absurd rfl hz2
        · exact z
      rw [val_snoc, numL_step (by omega)]
      have d1 : (NumText.digitsVal i * 10 + (c - 48)) / 10 = NumText.digitsVal i := by omega
      have d2 : (NumText.digitsVal i * 10 + (c - 48)) % 10 = c - 48 := by omega
      rw [d1, d2, e1, show 48 + (c - 48) = c by omega]
theorem num_len_mono : ∀ (m n : Nat), n ≤ m → (numL n).length ≤ (numL m).length := by
  intro m
  induction m using Nat.strongRecOn with
  | _ m ih =>
    intro n h
    by_cases h1 : n < 10
    · rw [numL_lt h1]
      exact List.length_pos_iff.mpr (numL_ne m)
    · rw [numL_step (n := n) (by omega), numL_step (n := m) (by omega), List.length_append, List.length_append]
      have := ih (m / 10) (by omega) (n / 10) (by omega)
      show _ + 1 ≤ _ + 1
      omega

instance (l : List Nat) : Decidable (NumText.AllDigits l) := inferInstanceAs (Decidable (∀ c ∈ l, 48 ≤ c ∧ c ≤ 57))
def readNum (l : List Nat) (m : Nat) : Option Nat :=
  if l.length = 0 ∨ (numL m).length < l.length ∨ ¬ NumText.AllDigits l then none
  else if l.head? = some 48 ∧ l ≠ [48] then none
  else if NumText.digitsVal l ≤ m then some (NumText.digitsVal l) else none
theorem readNum_some {l : List Nat} {m n : Nat} (h : readNum l m = some n) : l = numL n ∧ n ≤ m := by
  unfold readNum at h
  split at h
  · cases h
  · rename_i h1
    split at h
    · cases h
    · rename_i h2
      split at h
      · rename_i h3
        cases h
        refine ⟨(num_canon _ l rfl (Decidable.byContradiction fun z => h1 (.inr (.inr z))) (fun z => h1 (.inl (by rw [z]; rfl))) ?_).symm, h3⟩
        by_cases z : l.head? = some 48
        · exact .inr (Decidable.byContradiction fun y => h2 ⟨z, y⟩)
        · exact .inl z
      · cases h
theorem readNum_num {m n : Nat} (h : n ≤ m) : readNum (numL n) m = some n := by
  unfold readNum
  have l0 : (numL n).length ≠ 0 := fun z => numL_ne n (List.eq_nil_of_length_eq_zero z)
  have l1 := num_len_mono m n h
  rw [if_neg (by
    rintro (z | z | z)
    · exact l0 z
    · omega
    · exact z (numL_digits n)), if_neg (by
    rintro ⟨z1, z2⟩
    rcases Nat.eq_zero_or_pos n with q | q
    · rw [q, num_zero] at z2
      exact z2 rfl
    · obtain ⟨c, r, e, ne⟩ := num_head q
      rw [e] at z1
      exact ne (Option.some.inj z1)), numL_val, if_pos h]
end TR
/-! rules of my own over the hand layer: text * int, enumerate(text) -/
namespace TR
open PySem PySem.Spec PyProof.Rows L2 TL
theorem sg_tl (s : Str) : Sg (tl s) = s := rfl
/-! ### text * int -/
def repL (l : List Nat) (k : Int) : List Nat := (List.replicate k.toNat l).flatten
def rRepS : R2 := fun x y H Q => ∃ (s : Str) (k : Int), x = .str s ∧ y = .int k ∧ k ≤ 1000 ∧ -1000 ≤ k ∧ s.length ≤ 1000 ∧ Q (.str (Sg (repL (tl s) k))) H
theorem fold_cps (x : Array Nat) : ∀ (m : Nat) (b : Array Nat), ((List.replicate m x).foldl (· ++ ·) b).toList = b.toList ++ (List.replicate m x.toList).flatten
  | 0, b => by simp
  | m + 1, b => by
    rw [List.replicate_succ, List.foldl_cons, fold_cps x m, List.replicate_succ, List.flatten_cons, Array.toList_append, List.append_assoc]
theorem op_repS {X : Cx} : OpR X (binaryOp .Mult) rRepS := by
  intro pins s σ H x y v u Q I rx ry h
  obtain ⟨i, k, rfl, rfl, h1, h2, hz, q⟩ := h
  obtain ⟨t, rfl⟩ := rx
  obtain ⟨t', rfl⟩ := ry
  have hm : (i.length : Int) * k ≤ 1000000 := by
    by_cases kz : 0 ≤ k
    · have a1 : (i.length : Int) * k ≤ 1000 * k := Int.mul_le_mul_of_nonneg_right (by omega) kz
      omega
    · have a1 := Int.mul_nonneg (show (0 : Int) ≤ i.length by omega) (show (0 : Int) ≤ -k by omega)
      rw [Int.mul_neg] at a1
      omega
  refine P.mul_str (by
    rw [decide_eq_false (by omega : ¬ k < -(2 ^ 63 : Int)), decide_eq_false (by omega : ¬ k ≥ 2 ^ 63)]
    rfl) (fun hk _ => ?_) (fun hk _ => ?_) ?_
  · have := (Int.le_ediv_iff_mul_le (show 0 < k by omega)).mpr (show (i.length : Int) * k ≤ 2 ^ 63 - 1 by omega)
    omega
  · have e : i.length * k.toNat ≤ 1000000 := by
      have : ((i.length * k.toNat : Nat) : Int) = (i.length : Int) * k := by
        rw [Int.natCast_mul, Int.toNat_of_nonneg (by omega)]
      omega
    show decide (i.length * k.toNat > sizeLine) = false
    refine decide_eq_false ?_
    rw [sizeLine_eq]
    omega
  · have end_ : ∀ (z : Str), tl z = repL (tl i) k → V.str z = V.str (Sg (repL (tl i) k)) := fun z e => by rw [← e]
    by_cases h1 : k < 1
    · rw [if_pos h1]
      refine ⟨Nat.zero_le _, .str (Sg (repL (tl i) k)), H, I.tok _, ⟨s.toks, ?_⟩, q⟩
      have e : repL (tl i) k = [] := by
        unfold repL
        rw [show k.toNat = 0 by omega]
        rfl
      rw [e]
      rfl
    · rw [if_neg h1]
      cases hc : (k == 1 || i.length == 0)
      · rw [if_neg Bool.false_ne_true]
        have e := fold_cps i.cps k.toNat #[]
        rw [Array.toList_empty, List.nil_append] at e
        have e2 : (⟨(List.replicate k.toNat i.cps).foldl (· ++ ·) #[]⟩ : Str) = Sg (repL (tl i) k) := ext_tl e
        have lz : (repL (tl i) k).length ≤ sizeLine := by
          unfold repL
          rw [PyProof.Rows.lm_len_rep_flat, sizeLine_eq]
          have : ((k.toNat * (tl i).length : Nat) : Int) = (i.length : Int) * k := by
            rw [Int.natCast_mul, Int.toNat_of_nonneg (by omega), Int.mul_comm]
            rfl
          omega
        show (Made.str ⟨(List.replicate k.toNat i.cps).foldl (· ++ ·) #[]⟩).post _ _
        rw [e2]
        exact ⟨lz, .str (Sg (repL (tl i) k)), H, I.tok _, ⟨s.toks, rfl⟩, q⟩
      · rw [if_pos rfl]
        refine ⟨.str (Sg (repL (tl i) k)), H, I, ⟨t, ?_⟩, q⟩
        refine congrArg (Value.str · t) (ext_tl ?_)
        show tl i = repL (tl i) k
        unfold repL
        rcases Bool.or_eq_true_iff.mp hc with z | z
        · rw [beq_iff_eq.mp z]
          show tl i = [tl i].flatten
          simp
        · have z : (tl i) = [] := List.eq_nil_of_length_eq_zero (beq_iff_eq.mp z)
          rw [z]
          simp
/-! ### enumerate(text) -/
def Ites (x : Str) : It := ⟨fun i _ => i < x.cps.size, fun i H v H' => ∃ T c, v = .ref T ∧ H T = none ∧ H' = upd H T (.tup [.int (i : Nat), .str ⟨#[c]⟩]) ∧ x.cps[i]? = some c, fun i _ => i = x.cps.size⟩
theorem turn_enumS {P : Program} {w : World} {K : PySem.W.Frag} {elts : List Expr} {kk : Nat} {tpos : Pos} (x : Str) (t : Tok) (ty : String) (hty : ty = "str_ascii_iterator" ∨ ty = "str_iterator") (e it : Addr) :
    Turn P w K (.Tuple elts kk tpos) (Ites x) [e, it] e (fun i h => (∃ old, IsEnum h e it ((i : Nat) : Int) old) ∧ h.IsStrIter it ty x t i ∧ e ≠ it) where
  mem := by simp
  obj := fun i h st b hb => by
    obtain ⟨⟨old, he⟩, ⟨o, ho, hc, hd⟩, _⟩ := st
    have e' : b = e ∨ b = it := by simpa using hb
    rcases e' with z | z
    · rw [z]; exact ⟨_, he, fun v q => nomatch q⟩
    · rw [z]; exact ⟨o, ho, fun v q => by rw [hd] at q; cases q⟩
  keep := fun i h h' st k => let ⟨⟨old, he⟩, ⟨o, ho, r⟩, hne⟩ := st; ⟨⟨old, k e (by simp) _ he⟩, ⟨o, k it (by simp) o ho, r⟩, hne⟩
  item := by
    intro X hP hw hK hc i pins s σ H E I hf st hg
    subst hP hw hK
    obtain ⟨⟨old, he⟩, hit, hne⟩ := st
    have hel : e < s.heap.objs.size := Heap.lt_size he
    have hil : it < s.heap.objs.size := by obtain ⟨_, q, _⟩ := hit; exact Heap.lt_size q
    have D : Draws X.prog X.w X.A.in1 it [it] x.cps.size (fun i v => ∃ c u, x.cps[i]? = some c ∧ v = .str ⟨#[c]⟩ u) (fun i h => h.IsStrIter it ty x t i) := by
      rcases hty with z | z
      · rw [z]; exact Draws.strAscii (A := X.A.in1) (I.ok.hd hc) it x t
      · rw [z]; exact Draws.strWide (A := X.A.in1) (I.ok.hd hc) it x t
    refine wpAny_pyNext_enum_itemC D he hit hg hne (by simpa using hne) fun y h' tk hy ho hit' hT hsz hk => ?_
    obtain ⟨c, u, hcx, rfl⟩ := hy
    refine ⟨_, rfl, wpAny_letOwnedTupleGo_enum (s := { s with heap := h', toks := tk + 1 }) ho fun h'' he' sb => ?_⟩
    have hT2 : h''.get? s.heap.objs.size = some { cls := .type "tuple", data := .seq #[.int i tk, .str ⟨#[c]⟩ u] } := (sb.2 _ (Nat.ne_of_gt hel)).trans hT
    have new : ObjOk X.prog X.w (upd H s.heap.objs.size (.tup [.int (i : Nat), .str ⟨#[c]⟩])) h'' s.heap.objs.size (.tup [.int (i : Nat), .str ⟨#[c]⟩]) :=
      ⟨by show 2 ≤ sizeLine; decide, [.int i tk, .str ⟨#[c]⟩ u], .cons ⟨_, rfl⟩ (.cons ⟨_, rfl⟩ .nil), ⟨_, hT2, rfl, _, rfl⟩⟩
    have I1 : Inv X pins σ (upd H s.heap.objs.size (.tup [.int (i : Nat), .str ⟨#[c]⟩])) { s with heap := h'', toks := tk + 1 } :=
      I.turnedNew (ch := [e, it]) (fun b ob hb q => (sb.2 b (fun z => hb (by simp [z]))).trans (hk b ob (fun z => hb (by simp [z])) (fun z => hb (by simp [z])) q)) hf (Nat.le_refl _) new
    refine ⟨.ref s.heap.objs.size, _, I1, rfl, ⟨_, c, rfl, I.hok.fresh (Nat.le_refl _), rfl, hcx⟩, ⟨⟨.str ⟨#[c]⟩ u, ?_⟩, ?_, hne⟩, fun b hb => ?_⟩
    · have e1 : ((i + 1 : Nat) : Int) = (i : Int) + 1 := by omega
      rw [e1]; exact he'
    · obtain ⟨o, ho2, r⟩ := hit'
      exact ⟨o, (sb.2 it (Ne.symm hne)).trans ho2, r⟩
    · have hb' : b < s.heap.objs.size := by
        have e' : b = e ∨ b = it := by simpa using hb
        rcases e' with z | z
        · rw [z]; exact hel
        · rw [z]; exact hil
      rw [upd_ne (Nat.ne_of_lt hb')]
      exact (hf b hb).1
  done := by
    intro X hP hw hK hc i pins s σ H E I hf st hg
    subst hP hw hK
    obtain ⟨⟨old, he⟩, hit, hne⟩ := st
    obtain ⟨f0, f1, f2, f3, f4, f5⟩ := hf it (by simp)
    have D : Draws X.prog X.w X.A.in1 it [it] x.cps.size (fun i v => ∃ c u, x.cps[i]? = some c ∧ v = .str ⟨#[c]⟩ u) (fun i h => h.IsStrIter it ty x t i) := by
      rcases hty with z | z
      · rw [z]; exact Draws.strAscii (A := X.A.in1) (I.ok.hd hc) it x t
      · rw [z]; exact Draws.strWide (A := X.A.in1) (I.ok.hd hc) it x t
    have hg' : i = x.cps.size := hg
    subst hg'
    exact wpAny_pyNext_enum_endD D he hit fun h' eb => ⟨rfl, I.turned (t' := s.toks) (fun b o hb q => eb b o hb q) f0 f1 f3 f4 f5⟩
  self := fun A i s Q E st h => let ⟨⟨_, he⟩, _⟩ := st; wpAny_pyIter_enum he h
def iEnumS (ta : TA) : TI := fun σ H R => ta σ H fun vs H1 => ∃ x, vs = [.str x] ∧ R (Ites x) H1
theorem pi_enumS {X : Cx} {e : Expr} {ta : TA} {p pos tpos : Pos} {elts : List Expr} {kk : Nat} (hg : Gl X "enumerate") (hm : X.mg "enumerate" = none) (ha : PA X [e] ta) (hs : starEach [e] X.env = [(false, eval e X.env)] := by rfl) :
    PI X (.Tuple elts kk tpos) (.Call (.Name "enumerate" p) [e] [] pos) (iEnumS ta) := by
  refine ⟨fun pins s σ H R I h => ?_⟩
  refine Call_ (ld_blt I hg hm boot_enumerate (PyProof.Rows.callWith_type1 (thn (ha.run pos pins s σ H _ I h) fun us s1 ⟨vs, H1, I1, r1, q1⟩ => ?_) hs rfl))
  obtain ⟨x, ex, q⟩ := q1
  subst ex
  cases r1 with
  | cons r rr =>
    cases rr
    obtain ⟨t, rfl⟩ := r
    refine call_enumerate_str fun h' he hit hsz hk => wpAny_pyIter_enum he ?_
    have I2 : Inv X pins σ H1 { s1 with heap := h' } := I1.kept (t' := s1.toks) hk
    refine ⟨s1.heap.objs.size + 1, [s1.heap.objs.size + 1, s1.heap.objs.size], _, _, H1, rfl, I2, turn_enumS x t (strIterType x) (by unfold strIterType; split <;> simp) (s1.heap.objs.size + 1) s1.heap.objs.size, ⟨⟨.none, he⟩, hit, Nat.succ_ne_self _⟩, fun b hb => ?_, q⟩
    have e' : b = s1.heap.objs.size + 1 ∨ b = s1.heap.objs.size := by simpa using hb
    have hle : s1.heap.objs.size ≤ b := by
      rcases e' with z | z
      · rw [z]; exact Nat.le_add_right _ _
      · rw [z]; exact Nat.le_refl _
    exact I1.fpOk hle (I1.hok.fresh hle)
theorem walk_enumS (x : Str) : Walk (Ites x) x.cps.size (fun _ => True) (fun i H v H' => ∃ T c, v = .ref T ∧ H T = none ∧ H' = upd H T (.tup [.int (i : Nat), .str ⟨#[c]⟩]) ∧ x.cps[i]? = some c) where
  goes := fun i H h _ => h
  stops := fun H _ => rfl
  yields := fun i H v H' h _ y => y
theorem for_enumS {x : Str} {g : TG} {tb : TS} {D : Ends} {σ : L2.St} {H : Hp} (Pv : Nat → L2.St → Hp → Prop) (h0 : Pv 0 σ H)
    (hs : ∀ i c T σ H, (tl x)[i]? = some c → Pv i σ H → H T = none → g (.ref T) σ (upd H T (.tup [.int (i : Nat), .str ⟨#[c]⟩])) fun σ2 H2 => tb { D with nx := Pv (i + 1), ct := Pv (i + 1), bk := D.nx } σ2 H2) (hd : ∀ σ H, Pv (tl x).length σ H → D.nx σ H) :
    ∃ W : Nat → Nat → L2.St → Hp → Prop, (∃ m, W 0 m σ H) ∧ ∀ i m σ H, W i m σ H →
      ((Ites x).stop i H ∧ D.nx σ H) ∨ ((Ites x).go i H ∧ ∃ N : L2.St → Hp → Prop, (∀ σ' H', N σ' H' → ∃ m', m' < m ∧ W (i + 1) m' σ' H') ∧ ∀ v H', (Ites x).yld i H v H' → g v σ H' fun σ2 H2 => tb { D with nx := N, ct := N, bk := D.nx } σ2 H2) :=
  for_it (walk_enumS x) Pv h0 (fun _ _ _ _ _ => trivial) (fun i v σ H H' hi hp ⟨T, c, e1, e2, e3, e4⟩ => by
    subst e1
    subst e3
    exact hs i c T σ H (by rw [Array.getElem?_toList]; exact e4) hp e2) (fun σ H hp => hd σ H hp)
end TR
namespace QR
open PySem PySem.Spec PyProof.Rows L2
section
variable {X : Cx}
def rEqP (K : PySem.W.Frag) : R2 := fun x y H Q => ∃ d e, Dp K H x d ∧ Dp K H y e ∧ d.plain = true ∧ e.plain = true ∧ d.depth ≤ 60 ∧ Q (.bl (PyData.eqv d e)) H
def rNeP (K : PySem.W.Frag) : R2 := fun x y H Q => ∃ d e, Dp K H x d ∧ Dp K H y e ∧ d.plain = true ∧ e.plain = true ∧ d.depth ≤ 60 ∧ Q (.bl (!PyData.eqv d e)) H
theorem op_eqP (hu : X.A.units + 64 < cLine) : OpR X (compareOp .Eq) (rEqP X.K) := fun pins s σ H x y v u Q I rx ry ⟨d, e, hd, he, pd, pe, dd, q⟩ => by
  obtain ⟨as, r1⟩ := Dp.reads I d x v hd rx
  obtain ⟨bs, r2⟩ := Dp.reads I e y u he ry
  exact PySem.SeqAt.eq_plain r1 r2 pd pe (by omega) ⟨.bl _, H, I, rfl, q⟩
theorem op_neP (hu : X.A.units + 64 < cLine) : OpR X (compareOp .NotEq) (rNeP X.K) := fun pins s σ H x y v u Q I rx ry ⟨d, e, hd, he, pd, pe, dd, q⟩ => by
  obtain ⟨as, r1⟩ := Dp.reads I d x v hd rx
  obtain ⟨bs, r2⟩ := Dp.reads I e y u he ry
  exact PySem.SeqAt.ne_plain r1 r2 pd pe (by omega) ⟨.bl _, H, I, rfl, q⟩
end
/-! ### == and != of values with a Lean type -/
section
variable {α : Type} [DecidableEq α] [PySem.W.Datum α] {K : PySem.W.Frag} {H : Hp} {x y : V} {a b : α} {Q : VK}
theorem eq_dat (hx : Dp K H x (PySem.W.Datum.toD a)) (hy : Dp K H y (PySem.W.Datum.toD b)) (hd : PySem.W.Datum.depth α ≤ 60) (q : Q (.bl (decide (a = b))) H) : rEqP K x y H Q :=
  ⟨_, _, hx, hy, PySem.W.Datum.plain a, PySem.W.Datum.plain b, Nat.le_trans (PySem.W.Datum.depth_le a) hd, by rw [PySem.W.Datum.eqv]; exact q⟩
theorem ne_dat (hx : Dp K H x (PySem.W.Datum.toD a)) (hy : Dp K H y (PySem.W.Datum.toD b)) (hd : PySem.W.Datum.depth α ≤ 60) (q : Q (.bl (!decide (a = b))) H) : rNeP K x y H Q :=
  ⟨_, _, hx, hy, PySem.W.Datum.plain a, PySem.W.Datum.plain b, Nat.le_trans (PySem.W.Datum.depth_le a) hd, by rw [PySem.W.Datum.eqv]; exact q⟩
end
end QR
/-! mathematics of texts and their lines -/
namespace TR
open PySem PySem.Spec PyProof.Rows L2 TL
/-- the parts of l between the c's -/
def cutAt (c : Nat) : List Nat → List (List Nat)
  | [] => [[]]
  | x :: l => if x = c then [] :: cutAt c l else match cutAt c l with
    | [] => [[x]]
    | p :: r => (x :: p) :: r
def joinL (c : Nat) : List (List Nat) → List Nat
  | [] => []
  | [p] => p
  | p :: q :: r => p ++ c :: joinL c (q :: r)
theorem cut_free {c : Nat} : ∀ {p : List Nat}, c ∉ p → cutAt c p = [p]
  | [], _ => rfl
  | x :: p, h => by
    have h1 : x ≠ c := fun e => h (e ▸ List.mem_cons_self)
    have h2 : c ∉ p := fun e => h (List.mem_cons_of_mem _ e)
    unfold cutAt
    rw [if_neg h1, cut_free h2]
theorem cut_app {c : Nat} {l : List Nat} : ∀ {p : List Nat}, c ∉ p → cutAt c (p ++ c :: l) = p :: cutAt c l
  | [], _ => by
    show cutAt c (c :: l) = _
    rw [cutAt, if_pos rfl]
  | x :: p, h => by
    have h1 : x ≠ c := fun e => h (e ▸ List.mem_cons_self)
    have h2 : c ∉ p := fun e => h (List.mem_cons_of_mem _ e)
    show cutAt c (x :: (p ++ c :: l)) = _
    rw [cutAt, if_neg h1, cut_app h2]
theorem cut_join {c : Nat} : ∀ {P : List (List Nat)}, P ≠ [] → (∀ p ∈ P, c ∉ p) → cutAt c (joinL c P) = P
  | [], h, _ => absurd rfl h
  | [p], _, h => cut_free (h p List.mem_cons_self)
  | p :: q :: r, _, h => by
    rw [joinL, cut_app (h p List.mem_cons_self), cut_join (List.cons_ne_nil _ _) fun x hx => h x (List.mem_cons_of_mem _ hx)]
theorem cut_ne (c : Nat) : ∀ l, cutAt c l ≠ []
  | [] => List.cons_ne_nil _ _
  | x :: l => by
    unfold cutAt
    split
    · exact List.cons_ne_nil _ _
    · split <;> exact List.cons_ne_nil _ _
theorem tl_app (a b : Str) : tl (a ++ b) = tl a ++ tl b := by
  show (a.cps ++ b.cps).toList = _
  rw [Array.toList_append]
theorem tl_join (c : Nat) : ∀ P : List Str, tl (Str.join ⟨#[c]⟩ P) = joinL c (P.map tl)
  | [] => rfl
  | [p] => rfl
  | p :: q :: r => by
    show tl (p ++ ⟨#[c]⟩ ++ Str.join ⟨#[c]⟩ (q :: r)) = _
    rw [tl_app, tl_app, tl_join c (q :: r), List.append_assoc]
    rfl
theorem split_ne (x y : Str) : Txt.split x y ≠ [] := by
  unfold Txt.split
  split
  · exact List.cons_ne_nil _ _
  · split
    · exact List.cons_ne_nil _ _
    · unfold Builtin.Str.partsBetween
      generalize Builtin.Str.occurrences x y 0 x.length (x.length + 1) = cs
      cases cs <;> exact List.cons_ne_nil _ _
theorem split_cut (x : Str) (c : Nat) : Txt.split x ⟨#[c]⟩ = (cutAt c (tl x)).map Sg := by
  have h1 : (Txt.split x ⟨#[c]⟩).map tl = cutAt c (tl x) := by
    have e := StrLaws.join_split x ⟨#[c]⟩
    have e2 := tl_join c (Txt.split x ⟨#[c]⟩)
    rw [e] at e2
    rw [e2, cut_join (by
      intro z
      exact split_ne x ⟨#[c]⟩ (List.map_eq_nil_iff.mp z))]
    intro p hp
    obtain ⟨q, hq, rfl⟩ := List.mem_map.mp hp
    exact StrLaws.split_free x c q hq
  rw [← h1, List.map_map]
  conv => lhs; rw [← List.map_id (Txt.split x ⟨#[c]⟩)]
  rfl
theorem tl_join0 : ∀ P : List Str, tl (Str.join Str.empty P) = (P.map tl).flatten
  | [] => rfl
  | [p] => by simp [Str.join]
  | p :: q :: r => by
    show tl (p ++ Str.empty ++ Str.join Str.empty (q :: r)) = _
    rw [tl_app, tl_app, tl_join0 (q :: r), List.map_cons, List.flatten_cons]
    show tl p ++ [] ++ _ = _
    rw [List.append_nil]
    simp
theorem txt_join0 (P : List Str) : Txt.join Str.empty P = Sg ((P.map tl).flatten) := by
  show Builtin.Str.glued _ _ = _
  rw [StrLaws.glued_eq_join]
  exact ext_tl (tl_join0 P)
/-- the text of lines -/
def flatN : List (List Nat) → List Nat
  | [] => []
  | p :: r => p ++ 10 :: flatN r
theorem cut_flat {z : List Nat} (hz : 10 ∉ z) : ∀ {P : List (List Nat)}, (∀ p ∈ P, 10 ∉ p) → cutAt 10 (flatN P ++ z) = P ++ [z]
  | [], _ => cut_free hz
  | p :: r, h => by
    show cutAt 10 ((p ++ 10 :: flatN r) ++ z) = _
    rw [List.append_assoc, List.cons_append, cut_app (h p List.mem_cons_self), cut_flat hz fun x hx => h x (List.mem_cons_of_mem _ hx)]
    rfl
theorem flat_flatten : ∀ P : List (List Nat), (P.map fun p => p ++ [10]).flatten = flatN P
  | [] => rfl
  | p :: r => by
    rw [List.map_cons, List.flatten_cons, flat_flatten r, List.append_assoc]
    rfl
/-- the first place where a text fails -/
def fault : List Nat → Nat → Nat → Nat → Option Nat
  | [], at_, _, size => if size = 0 then none else some at_
  | c :: l, at_, many, size => if many = 200 then some at_ else if c = 10 then fault l (at_ + 1) (many + 1) 0 else if size = 40 then some at_ else fault l (at_ + 1) many (size + 1)
theorem fault_end : ∀ {l : List Nat} {a m s : Nat}, fault l a m s = none → (l = [] ∧ s = 0) ∨ ∃ l', l = l' ++ [10]
  | [], a, m, s, h => by
    unfold fault at h
    split at h
    · rename_i e
      exact .inl ⟨rfl, e⟩
    · cases h
  | c :: l, a, m, s, h => by
    unfold fault at h
    split at h
    · cases h
    · split at h
      · rename_i e
        rcases fault_end h with ⟨e2, _⟩ | ⟨l', e2⟩
        · exact .inr ⟨[], by rw [e2, e]; rfl⟩
        · exact .inr ⟨c :: l', by rw [e2]; rfl⟩
      · split at h
        · cases h
        · rcases fault_end h with ⟨_, e2⟩ | ⟨l', e2⟩
          · cases e2
          · exact .inr ⟨c :: l', by rw [e2]; rfl⟩
theorem fault_nil {l z : List Nat} {a m s : Nat} (h : fault (l ++ z) a m s = none) (hz : 10 ∉ z) : z = [] := by
  rcases List.eq_nil_or_concat z with e | ⟨w, x, e⟩
  · exact e
  · exfalso
    rcases fault_end h with ⟨e2, _⟩ | ⟨l', e2⟩
    · rw [e] at e2
      simp at e2
    · rw [e, List.concat_eq_append, ← List.append_assoc] at e2
      have := List.append_inj_right' e2 rfl
      have e3 : x = 10 := by simpa using this
      exact hz (by rw [e, e3]; simp)
def okT (l : List Nat) : Prop := ∀ c ∈ l, c = 10 ∨ (32 ≤ c ∧ c ≤ 126)
def okL (l : List Nat) : Prop := (∀ c ∈ l, 32 ≤ c ∧ c ≤ 126) ∧ l.length ≤ 50
theorem okL.free {l : List Nat} (h : okL l) : 10 ∉ l := fun z => by
  have := h.1 10 z
  omega
theorem okT_app {a b : List Nat} (ha : okT a) (hb : okT b) : okT (a ++ b) := fun c hc => by
  rcases List.mem_append.mp hc with h | h
  · exact ha c h
  · exact hb c h
theorem okL.t {l : List Nat} (h : okL l) : okT l := fun c hc => .inr (h.1 c hc)
theorem okT_flat : ∀ {P : List (List Nat)}, (∀ p ∈ P, okL p) → okT (flatN P)
  | [], _ => fun c hc => nomatch hc
  | p :: r, h => by
    refine okT_app (h p List.mem_cons_self).t fun c hc => ?_
    rcases List.mem_cons.mp hc with e | hc
    · exact .inl e
    · exact okT_flat (fun x hx => h x (List.mem_cons_of_mem _ hx)) c hc
theorem flat_len : ∀ {P : List (List Nat)}, (∀ p ∈ P, okL p) → (flatN P).length ≤ 51 * P.length
  | [], _ => Nat.le_refl _
  | p :: r, h => by
    have a := (h p List.mem_cons_self).2
    have b := flat_len (P := r) fun x hx => h x (List.mem_cons_of_mem _ hx)
    show (p ++ 10 :: flatN r).length ≤ 51 * (r.length + 1)
    rw [List.length_append, List.length_cons]
    omega
theorem okL_rep {l : List Nat} {k : Int} (h1 : l.length = 1) (hl : ∀ c ∈ l, 32 ≤ c ∧ c ≤ 126) (hk : k ≤ 50) : okL (repL l k) := by
  refine ⟨fun c hc => ?_, ?_⟩
  · obtain ⟨x, hx, hc⟩ := List.mem_flatten.mp hc
    rw [List.eq_of_mem_replicate hx] at hc
    exact hl c hc
  · unfold repL
    rw [PyProof.Rows.lm_len_rep_flat, h1]
    omega
end TR
/-! the array of generators never shrinks -/
namespace GX
open PySem PySem.Spec PyProof.Rows L2 GxR

theorem runs_gens_le {M : Model} {Γ : PySem.Ctx} {p : Pos} {t : Sem Fin} {fs : List Frame} {s s' : Shared} {e : End} (h : Runs M Γ p t fs s e s') : s.gens.size ≤ s'.gens.size := by
  induction h <;> (try simp only [Shared.setGen, Array.size_push, Array.size_setIfInBounds] at *) <;> omega

theorem wakes_gens_le {M : Model} {Γ : PySem.Ctx} {p : Pos} {g : Nat} {r : Resume} {s s' : Shared} {res : GenResult} (h : Wakes M Γ p g r s res s') : s.gens.size ≤ s'.gens.size := by
  have sz : ∀ (z : Shared) x, (z.setGen g x).gens.size = z.gens.size := fun z x => by simp [Shared.setGen]
  unfold Wakes at h
  split at h
  · exact h.elim
  · split at h
    · obtain ⟨e₁, s₁, hr, _, _, rfl⟩ := h
      rw [sz]; exact (sz s .running) ▸ runs_gens_le hr
    · obtain ⟨_, rfl⟩ := h; first | exact Nat.le_refl _ | (rw [sz]; exact Nat.le_refl _)
    · obtain ⟨_, rfl⟩ := h; first | exact Nat.le_refl _ | (rw [sz]; exact Nat.le_refl _)
  · obtain ⟨e₁, s₁, hr, _, _, rfl⟩ := h
    rw [sz]; exact (sz s .running) ▸ runs_gens_le hr
  · obtain ⟨_, rfl⟩ := h; exact Nat.le_refl _
  · obtain ⟨_, rfl⟩ := h; exact Nat.le_refl _

theorem wp_gens {α : Type} (M : Model) (Γ : PySem.Ctx) (n : Nat) (t : Sem α) : ∀ (Q : α → Pos → Shared → Prop) (E : Value → Pos → Shared → Prop) (p : Pos) (s : Shared), n ≤ s.gens.size → Sem.wp M Γ t Q E p s →
    Sem.wp M Γ t (fun a p' s' => n ≤ s'.gens.size ∧ Q a p' s') (fun e p' s' => n ≤ s'.gens.size ∧ E e p' s') p s := by
  induction t with
  | pure a => intro Q E p s hn h; exact ⟨hn, h⟩
  | raise e => intro Q E p s hn h; exact ⟨hn, h⟩
  | unsupported _ => intro Q E p s _ h; exact h
  | finish _ => intro Q E p s _ h; exact h
  | rule _ k ih => intro Q E p s hn h; exact ih () Q E p s hn h
  | «at» p' k ih => intro Q E p s hn h; exact ih () Q E p' s hn h
  | load a _ k ih => intro Q E p s hn h; obtain ⟨o, ho, h⟩ := h; exact ⟨o, ho, ih o Q E p s hn h⟩
  | update a _ f k ih => intro Q E p s hn h; exact ⟨h.1, ih () Q E p _ hn h.2⟩
  | loadIfAlive a k ih => intro Q E p s hn h; exact ih _ Q E p s hn h
  | point _ k ih => intro Q E p s hn h; exact ih () Q E p s hn h
  | register _ _ => intro Q E p s _ h; exact h
  | alloc o k ih => intro Q E p s hn h; exact ih _ Q E p _ hn h
  | fresh k ih => intro Q E p s hn h; exact ih _ Q E p _ hn h
  | ask k ih => intro Q E p s hn h; exact ih _ Q E p s hn h
  | choose src m k ih => intro Q E p s hn h; exact ⟨h.1, ih _ Q E p _ hn h.2⟩
  | os q _ k ih => intro Q E p s hn h; exact ih _ Q E p _ hn h
  | call c hd _ _ k ih => intro Q E p s hn h; obtain ⟨r, s', hr, h⟩ := h; exact ⟨r, s', hr, ih r Q E p s' (Nat.le_trans hn (runs_gens_le hr)) h⟩
  | handled own k ih => intro Q E p s hn h; exact ih _ Q E p s hn h
  | genState g k ih => intro Q E p s hn h; obtain ⟨st, hs, h⟩ := h; exact ⟨st, hs, ih _ Q E p s hn h⟩
  | newGen c k ih => intro Q E p s hn h; exact ih _ Q E p _ (by show n ≤ (s.gens.push _).size; rw [Array.size_push]; exact Nat.le_succ_of_le hn) h
  | resume g r _ k ih => intro Q E p s hn h; obtain ⟨res, s', hw, h⟩ := h; exact ⟨res, s', hw, ih res Q E p s' (Nat.le_trans hn (wakes_gens_le hw)) h⟩
  | yield _ _ _ _ => intro Q E p s _ h; exact h
  | stack k ih => intro Q E p s hn h; exact ih _ Q E p s hn h
  | fork _ _ => intro Q E p s _ h; exact h
  | thread k ih => intro Q E p s hn h; exact ih _ Q E p s hn h
  | await _ _ _ _ _ => intro Q E p s _ h; exact h

theorem wpAny_with_gens {α : Type} {M : Model} {A : Around} {s : Shared} {t : Sem α} {Q : α → Shared → Prop} {E : Value → Shared → Prop} {n : Nat} (hn : n ≤ s.gens.size)
    (h : wpAny M A t (fun a s' => n ≤ s'.gens.size → Q a s') (fun e s' => n ≤ s'.gens.size → E e s') s) : wpAny M A t Q E s :=
  wpAny_mono (Q := fun a s' => n ≤ s'.gens.size ∧ (n ≤ s'.gens.size → Q a s')) (E := fun e s' => n ≤ s'.gens.size ∧ (n ≤ s'.gens.size → E e s')) (fun Γ p hΓ => wp_gens M Γ n t _ _ p s hn (h Γ p hΓ)) (fun _ _ x => x.2 x.1) (fun _ _ x => x.2 x.1)

/-- the invariant speaks of the heap; the generators' array is bare -/
theorem inv_heap {X : Cx} {pins : List (Addr × Obj)} {σ : L2.St} {H : Hp} {s s' : Shared} (I : Inv X pins σ H s) (h : s'.heap = s.heap) (ho : s'.os = s.os) (hb : AllBare s'.gens) : Inv X pins σ H s' := by
  obtain ⟨h1, g1, d1, t1, o1⟩ := s
  obtain ⟨h2, g2, d2, t2, o2⟩ := s'
  obtain rfl : h2 = h1 := h
  obtain rfl : o2 = o1 := ho
  exact ⟨I.ok, I.os, hb, I.base, I.loc, I.cell, I.free, I.freeC, I.pin, I.hok, I.len⟩
theorem bare_set {s : Shared} {g : Nat} {x : GenState} (h : AllBare s.gens) (hx : x.bare = true) : AllBare (s.setGen g x).gens := by
  intro y hy
  have hy : y ∈ s.gens.setIfInBounds g x := hy
  obtain ⟨i, hi, e⟩ := Array.mem_iff_getElem.mp hy
  have hi2 : i < s.gens.size := by simpa using hi
  rw [Array.getElem_setIfInBounds hi2] at e
  split at e
  · rw [← e]; exact hx
  · rw [← e]; exact h _ (Array.getElem_mem _)
end GX
namespace GX
open PySem PySem.Spec PyProof.Rows L2 GxR

/-- the context of a generator's body -/
abbrev gCx (X : Cx) (s : Shared) (H : Hp) (ce : Env) (fp : List Addr) (A' : Around) : Cx := { X with s_0 := s, H_0 := H, env := ce, outer := X.stack, stack := ce :: X.stack, ex := fp, fn := fun _ => false, pn := [], xe := fun _ _ => False, A := A' }

section
variable {X : Cx} {pins : List (Addr × Obj)} {σ : L2.St} {H : Hp} {s : Shared}
theorem gen_start {scope : Scope} {own : List (Str × Nat)} {fp : List Addr} {code : Value} {ce : Env} {a : Addr} {go : Obj} {A' : Around} {s' : Shared} {m : Str → Option Value} (I : Inv X pins σ H s) (ok : BlkOk X.N X.env.scope scope own) (nc : ∀ y ∈ scope.names, y.2 ≠ .cell)
    (hN : X.N.Nodup) (hfp : ∀ b ∈ fp, FpOk X pins H b ∧ b < s.heap.objs.size) (hd : X.calm = true → A'.handled = none) (hfr : A'.frames = some (ce :: X.stack))
    (hce : ce = genEnv scope (cloFrom X.env.cells scope.names []) s.heap.objs.size code builtinsNs X.env) (kp : ∀ b o, s.heap.get? b = some o → s'.heap.get? b = some o) (hns : s'.heap.Ns s.heap.objs.size m)
    (hgo : s'.heap.get? a = some go) (hga : s.heap.objs.size < a) (hgd : ∀ v, go.data ≠ .cell v) (hos : s'.os = s.os) (hb : AllBare s'.gens) :
    Inv (gCx X s H ce fp A') [(a, go)] (wipe σ (own.map (·.2))) H s' := by
  have hfree : ∀ y ∈ scope.names, y.2 = .free → ∃ c, X.env.cells.lookup y.1 = some c := fun y hy e => by
    rcases ok.free y hy e with k | k
    · exact I.ok.has _ (.inl k)
    · exact I.ok.has _ (.inr k)
  have hL : ce.locals = s.heap.objs.size := by rw [hce]; rfl
  have hcl : ce.cells = cloFrom X.env.cells scope.names [] := by rw [hce]; rfl
  have hsc : ce.scope = scope := by rw [hce]; rfl
  have hfm : ce.frame = some ce.locals := by rw [hce]; rfl
  have cm : ∀ {y c}, ce.cells.lookup y = some c → X.env.cells.lookup y = some c ∧ c < s.heap.objs.size := fun {y c} e => by
    rw [hcl] at e
    rcases cloFrom_mem (PySem.mem_of_lookup e) with hm | ⟨h1, rfl⟩
    · cases hm
    · obtain ⟨c, hc⟩ := hfree _ h1 rfl
      rw [hc]
      obtain ⟨w, z⟩ := I.cell _ _ hc
      exact ⟨rfl, z.lt⟩
  have look : ∀ {y}, scope.names.lookup y = some .free → ∃ c, ce.cells.lookup y = some c ∧ X.env.cells.lookup y = some c := fun {y} hl => by
    have hy : (y, NameKind.free) ∈ scope.names := PySem.mem_of_lookup hl
    obtain ⟨c', e'⟩ := mem_lookup (cloFrom_has (cells := X.env.cells) (acc := []) hy)
    rw [← hcl] at e'
    exact ⟨c', e', (cm e').1⟩
  have stk : ∀ b ∈ frs X.stack, b < s.heap.objs.size := fun b hb => by
    obtain ⟨_, o, ho, _⟩ := I.stack.mem hb
    exact Heap.lt_size ho
  have okB : (gCx X s H ce fp A').Ok := by
    refine ⟨I.ok.mod, by show ce.scope.kind = _; rw [hsc]; exact ok.kind, by show ce.globals = _; rw [hce]; exact I.ok.glob, by show ce.builtins = _; rw [hce]; rfl, by show s.heap.objs.size ≤ ce.locals; rw [hL]; exact Nat.le_refl _,
      fun y z c e1 e2 => I.ok.inj y z c (cm e1).1 (cm e2).1, fun y hy => ?_, fun y c z e => (by cases z), hd, hfr, .inr ⟨rfl, hfm⟩, fun b hb => ⟨?_, fun y c e z => (hfp b hb).1.2.2.2.2.1 y c (cm e).1 z⟩, I.bs, Nat.le_trans I.ok.bsz I.sz, fun b o e hb => ?_, fun b hb z => ?_, I.stack, I.stkFree⟩
    · show ∃ c, ce.cells.lookup y = some c
      have hy : ce.scope.names.lookup y = some .cell ∨ ce.scope.names.lookup y = some .free := hy
      rw [hsc] at hy
      rcases hy with hy | hy
      · exact absurd rfl (nc _ (PySem.mem_of_lookup hy))
      · obtain ⟨c, h1, _⟩ := look hy
        exact ⟨c, h1⟩
    · show b ≠ ce.locals
      rw [hL]; exact Nat.ne_of_lt (hfp b hb).2
    · rcases (hfp b hb).1.2.2.2.1 with z | z
      · exact I.ok.noex b o e z
      · exact absurd (Nat.lt_of_lt_of_le (Heap.lt_size e) (Nat.le_trans I.ok.bsz z)) (Nat.lt_irrefl _)
    · rcases List.mem_cons.mp (I.stkSub b z) with z | z
      · exact (hfp b hb).1.2.1 z
      · exact (hfp b hb).1.2.2.1 z
  refine ⟨okB, hos, hb, Un.kept kp, ⟨m, ?_, fun i y av e1 e2 e3 => ?_⟩, fun y c e => ?_, ?_, fun y c e => I.freeC y c (cm e).1, fun p hp => ?_, I.hok.kept kp, by rw [wipe_length]; exact I.len⟩
  · show Heap.Ns _ ce.locals _
    rw [hL]
    exact hns
  · obtain ⟨e2, hne⟩ := wipe_some e2
    have e3 : Vis ce.scope y := e3
    rw [hsc] at e3
    have no : ∀ k, scope.names.lookup y = some k → ¬ (k = .local ∨ k = .cell) := fun k e hh => by
      rcases ok.own _ (PySem.mem_of_lookup e) hh with e' | e'
      · obtain ⟨p, hp, hpy⟩ := List.mem_map.mp e'
        have e3 := ok.ix p hp
        have : p.1 = y := hpy
        rw [this] at e3
        exact hne (List.mem_map.mpr ⟨p, hp, nodup_ix hN e3 e1⟩)
      · exact e' (List.mem_of_getElem? e1)
    have hfr : scope.names.lookup y = some .free := by
      rcases e3 with e3 | e3 | e3
      · exact absurd (.inl rfl) (no _ e3)
      · exact absurd (.inr rfl) (no _ e3)
      · exact e3
    obtain ⟨m, hn, hl⟩ := I.loc
    have hvis : Vis X.env.scope y := (ok.free _ (PySem.mem_of_lookup hfr) rfl).elim (fun k => .inr (.inl k)) (fun k => .inr (.inr k))
    obtain ⟨w, r, q⟩ := hl i y av e1 e2 hvis
    obtain ⟨c, h1, h2⟩ := look hfr
    refine ⟨w, r, .inr ⟨.inr (show ce.scope.names.lookup y = _ by rw [hsc]; exact hfr), c, h1, ?_⟩⟩
    rcases q with ⟨k, _⟩ | ⟨_, c', e', z⟩
    · have k : X.env.scope.names.lookup y = some .local := k
      rcases ok.free _ (PySem.mem_of_lookup hfr) rfl with k' | k' <;> rw [show X.env.scope.names.lookup y = _ from k'] at k <;> cases k
    · rw [h2] at e'; cases e'
      exact z.keeps kp
  · obtain ⟨w, z⟩ := I.cell y c (cm e).1
    exact ⟨w, z.keeps kp⟩
  · show H ce.locals = none
    rw [hL]; exact I.hok.fresh (Nat.le_refl _)
  · have hp : p ∈ [] ++ [(a, go)] := hp
    have e : p = (a, go) := by simpa using hp
    subst e
    refine ⟨hgo, I.hok.fresh (Nat.le_of_lt hga), ?_, fun z => ?_, hgd⟩
    · show a ≠ ce.locals
      rw [hL]; exact Nat.ne_of_gt hga
    · exact absurd (Nat.lt_trans (stk a z) hga) (Nat.lt_irrefl _)
end

/-- what is wanted of a walk: W by the turn and a measure; d: the item that ends it -/
def Wk (d : Bool) (J : It) (g : TG) (tt : TT) (te : TE) (vs : List Nat) (σ : L2.St) (W : Nat → Nat → Hp → Prop) (Qe Qd : Hp → Prop) : Prop := ∀ i m H, W i m H →
  (J.stop i H ∧ Qe H) ∨ (J.go i H ∧ ∃ Nx : Hp → Prop, (∀ H', Nx H' → ∃ m', m' < m ∧ W (i + 1) m' H') ∧ ∀ x H', J.yld i H x H' → g x (wipe σ vs) H' fun σ2 H2 => wipe σ2 vs = wipe σ vs ∧ tt σ2 H2 fun b H3 =>
    if b = true then te σ2 H3 fun y H4 => ∃ c, y = .bl c ∧ if c = d then Qd H4 else Nx H4 else Nx H3)

section
variable {Y : Cx} {A : Around} {σ : L2.St} {vs : List Nat} {a : Addr} {go : Obj}
def YE (Y : Cx) (a : Addr) (go : Obj) (ws : L2.St) (Qe : Hp → Prop) (s : Shared) : Prop := ∃ H, Inv Y [(a, go)] ws H s ∧ Qe H
def YP (d : Bool) (Y : Cx) (a : Addr) (go : Obj) (ws : L2.St) (Qd : Hp → Prop) : Protocol := fun _ _ v s kap =>
  ∃ c H, v = .bool c ∧ Inv Y [(a, go)] ws H s ∧ if c = d then Qd H else ∀ s'' : Shared, s''.heap = s.heap → s''.os = s.os → AllBare s''.gens → kap (.send .none) s''
abbrev YR (Y : Cx) (a : Addr) (go : Obj) (ws : L2.St) (Qe : Hp → Prop) : GenEnd := fun n s₀ r s₁ => r = .ok .next ∧ (fun (_ : Nat) (_ s₁ : Shared) => YE Y a go ws Qe s₁) n s₀ s₁

theorem seg_gl {d : Bool} {tg elt iter : Expr} {ifs : List Expr} {scope : Scope} {pos : Pos} {it : Addr} {fp : List Addr} {tn : Nat → Heap → Prop} {J : It} {g : TG} {tt : TT} {te : TE} {W : Nat → Nat → Hp → Prop} {Qe Qd : Hp → Prop}
    (hA : Y.A = A.over (.compLoop (.GeneratorExp elt [⟨tg, iter, ifs, 0⟩] scope pos) 0 (.ref it) .none Y.env) []) (hc : Y.calm = true) (hco : Y.env.scope.isCoroutine = false) (T : Turn Y.prog Y.w Y.K tg J fp it tn)
    (hx : Y.ex = fp) (hpn : Y.pn = []) (hafp : a ∉ fp) (pg : PG Y tg g) (pt : PTs Y ifs tt) (pe : PE Y elt te) (hW : Wk d J g tt te vs σ W Qe Qd) (hxe : Y.xe = fun _ _ => False) :
    ∀ (m n : Nat), m < n → ∀ (i : Nat) (H : Hp) (s₀ s : Shared), Inv Y [(a, go)] (wipe σ vs) H s → tn i s.heap → (∀ b ∈ fp, H b = none) → W i m H →
      Seg (model Y.prog Y.w) A (YR Y a go (wipe σ vs) Qe) (YP d Y a go (wipe σ vs) Qd) n s₀
        (.compLoop (.GeneratorExp elt [⟨tg, iter, ifs, 0⟩] scope pos) 0 (.ref it) .none Y.env)
        ((model Y.prog Y.w).den (.compLoop (.GeneratorExp elt [⟨tg, iter, ifs, 0⟩] scope pos) 0 (.ref it) .none Y.env)) [] s := by
  intro m
  induction m using Nat.strongRecOn with
  | _ m ih =>
  intro n hmn i H s₀ s I st nf w
  have stat : ∀ {ps : List (Addr × Obj)} {σ' : L2.St} {H' : Hp} {s' : Shared}, Inv Y [(a, go)] σ' H' s' → (∀ b ∈ fp, H' b = none) → ∀ b ∈ fp, FpOk Y [(a, go)] H' b := fun {ps σ' H' s'} I' hn b hb =>
    ⟨hn b hb, (I'.ok.exf b (hx ▸ hb)).1, I'.ok.exfs b (hx ▸ hb), .inl (hx ▸ hb), fun x c e => (I'.ok.exf b (hx ▸ hb)).2 x c e, fun p hp => by
      rw [hpn] at hp
      have e : p = (a, go) := by simpa using hp
      rw [e]
      exact fun z => hafp (by rw [show a = b from z]; exact hb)⟩
  show Seg _ A _ _ _ s₀ _ ((compTurn (.GeneratorExp elt [⟨tg, iter, ifs, 0⟩] scope pos) 0 (.ref it) .none Y.env).onRaise (leaving Y.env)) [] s
  rw [compTurn_gen, Sem.onRaise_eq_wrap]
  refine seg_bind_wrap (wpAny_standAt ?_)
  rcases hW i m H w with ⟨stop, qe⟩ | ⟨go1, Nx, hNx, step⟩
  · refine seg_bind_wrap ?_
    rw [← hA]
    refine thnF (T.done Y rfl rfl rfl hc i _ s _ H (fun _ _ => False) I (stat (ps := []) I nf) st stop) fun r s1 ⟨hr, I1⟩ => ?_
    subst hr
    exact seg_end (.ok .next) ⟨rfl, H, I1, qe⟩
  · refine seg_bind_wrap ?_
    rw [← hA]
    refine thnF (T.item Y rfl rfl rfl hc i _ s _ H (fun _ _ => False) I (stat (ps := []) I nf) st go1) fun r s1 ⟨u, hr, h1⟩ => ?_
    subst hr
    refine seg_bind_wrap ?_
    rw [← hA]
    refine thnF h1 fun _ s2 ⟨x, H2, I2, r2, y2, st2, n2⟩ => ?_
    have I2' := I2.pinned (stat (ps := []) I2 n2) (T.obj _ _ st2)
    have pg1 := pg.run _ s2 _ H2 x u _ I2' r2 (step x H2 y2)
    rw [hxe] at pg1
    refine seg_bind_wrap ?_
    rw [← hA]
    refine thnF pg1 fun _ s3 ⟨σ3, H3, I3, hw3, q3⟩ => ?_
    have pt1 := pt.run _ s3 σ3 H3 _ I3 q3
    rw [hxe] at pt1
    refine seg_bind_wrap ?_
    rw [← hA]
    refine thnF pt1 fun b s4 ⟨H4, I4, q4⟩ => ?_
    -- the turn's end
    have fin : ∀ {s' : Shared} {H' : Hp}, Inv Y ([(a, go)] ++ pinsAt fp s2.heap) σ3 H' s' → Inv Y [(a, go)] (wipe σ vs) H' s' ∧ tn (i + 1) s'.heap ∧ (∀ b ∈ fp, H' b = none) := fun {s' H'} I' => by
      have pin' : ∀ b ∈ fp, ∀ o, s2.heap.get? b = some o → s'.heap.get? b = some o ∧ H' b = none := fun b hb o e =>
        let z := I'.pin (b, o) (List.mem_append_right _ (List.mem_append_right _ (mem_pinsAt hb e)))
        ⟨z.1, z.2.1⟩
      have hl : (wipe σ vs).length = σ3.length := by rw [← hw3, wipe_length]
      refine ⟨(I'.unpinned (pins := [(a, go)])).weak hl (fun j v e => ?_), T.keep _ _ _ st2 fun b hb o e => (pin' b hb o e).1, fun b hb => ?_⟩
      · rw [← hw3] at e
        exact (wipe_some e).1
      · obtain ⟨o, e, _⟩ := T.obj _ _ st2 b hb
        exact (pin' b hb o e).2
    cases b with
    | false =>
      simp only [Bool.false_eq_true, if_false] at q4 ⊢
      obtain ⟨m', hm, w'⟩ := hNx H4 q4
      obtain ⟨J1, J2, J3⟩ := fin I4
      exact seg_again rfl (ih m' hm n (by omega) (i + 1) H4 s₀ s4 J1 J2 J3 w')
    | true =>
      simp only [if_true] at q4 ⊢
      have hy : ∀ v, yieldOut Y.env v = yieldValue v := fun v => by simp only [yieldOut, hco, Bool.false_eq_true, if_false]
      simp only [hy]
      have pe1 := pe.run _ s4 σ3 H4 _ I4 q4
      rw [hxe] at pe1
      rw [Sem.bind_eq_wrap', Sem.bind_eq_wrap', Sem.wrap_wrap, Sem.wrap_wrap]
      refine seg_wrap ?_
      rw [← hA]
      refine thnF pe1 fun z s5 ⟨y, H5, I5, r5, c, ec, q5⟩ => ?_
      subst ec
      cases r5
      obtain ⟨J1, J2, J3⟩ := fin I5
      by_cases hcd : c = d
      · rw [if_pos hcd] at q5
        obtain ⟨n, rfl⟩ : ∃ k, n = k + 1 := ⟨n - 1, by omega⟩
        exact seg_at (seg_yield rfl rfl rfl ⟨c, H5, rfl, J1, by rw [if_pos hcd]; exact q5⟩)
      · rw [if_neg hcd] at q5
        obtain ⟨m', hm, w'⟩ := hNx H5 q5
        obtain ⟨n, rfl⟩ : ∃ k, n = k + 1 := ⟨n - 1, by omega⟩
        refine seg_at (seg_yield rfl rfl rfl ⟨c, H5, rfl, J1, ?_⟩)
        rw [if_neg hcd]
        intro s'' h1 h2 h3
        exact seg_again rfl (ih m' hm n (by omega) (i + 1) H5 s'' s'' (inv_heap J1 h1 h2 h3) (by rw [h1]; exact J2) J3 w')
end
end GX
namespace GX
open PySem PySem.Spec PyProof.Rows L2 GxR

section
variable {Y : Cx} {A : Around} {σ : L2.St} {vs : List Nat} {a : Addr} {go : Obj}
theorem seg_gs {d : Bool} {tg elt iter : Expr} {ifs : List Expr} {scope : Scope} {pos : Pos} {it : Addr} {fp : List Addr} {tn : Nat → Heap → Prop} {J : It} {g : TG} {tt : TT} {te : TE} {W : Nat → Nat → Hp → Prop} {Qe Qd : Hp → Prop}
    (hA : Y.A = A.over (.compLoop (.GeneratorExp elt [⟨tg, iter, ifs, 0⟩] scope pos) 0 (.ref it) .none Y.env) []) (hc : Y.calm = true) (hco : Y.env.scope.isCoroutine = false) (T : Turn Y.prog Y.w Y.K tg J fp it tn)
    (hx : Y.ex = fp) (hpn : Y.pn = []) (hafp : a ∉ fp) (pg : PG Y tg g) (pt : PTs Y ifs tt) (pe : PE Y elt te) (hW : Wk d J g tt te vs σ W Qe Qd) (hxe : Y.xe = fun _ _ => False)
    (m : Nat) (H : Hp) (s₀ s : Shared) (I : Inv Y [(a, go)] (wipe σ vs) H s) (st : tn 0 s.heap) (nf : ∀ b ∈ fp, H b = none) (w : W 0 m H) :
      Seg (model Y.prog Y.w) A (YR Y a go (wipe σ vs) Qe) (YP d Y a go (wipe σ vs) Qd) (m + 1) s₀
        (.compStart (.GeneratorExp elt [⟨tg, iter, ifs, 0⟩] scope pos) 0 (.ref it) .none Y.env)
        ((model Y.prog Y.w).den (.compStart (.GeneratorExp elt [⟨tg, iter, ifs, 0⟩] scope pos) 0 (.ref it) .none Y.env)) [] s := by
  have loop := seg_gl (iter := iter) (scope := scope) (pos := pos) hA hc hco T hx hpn hafp pg pt pe hW hxe m (m + 1) (Nat.lt_succ_self m) 0 H s₀ s I st nf w
  show Seg _ A _ _ _ s₀ _ ((compStart (.GeneratorExp elt [⟨tg, iter, ifs, 0⟩] scope pos) 0 (.ref it) .none Y.env).onRaise (leaving Y.env)) [] s
  unfold compStart
  rw [Sem.onRaise_eq_wrap]
  show Seg _ A _ _ _ s₀ _ ((ask >>= _).wrap _ _ _ _) [] s
  refine seg_bind_wrap (wpAny_askSetting ?_)
  split
  · exact seg_again rfl loop
  · first
      | exact seg_bind_wrap (wpAny_rule (seg_bind_wrap (wpAny_standAt (seg_bind_wrap (T.self _ 0 s _ _ st (seg_again rfl loop))))))
      | (refine seg_bind_wrap (wpAny_rule ?_); show Seg _ A _ _ _ s₀ _ ((standAt iter.pos >>= _).wrap _ _ _ _) [] s; exact seg_bind_wrap (wpAny_standAt (seg_bind_wrap (T.self _ 0 s _ _ st (seg_again rfl loop)))))

/-- the loop of all(..) -/
theorem loop_all {prog : Program} {w : World} {gn : Nat} {ws : L2.St} {Qe Qd : Hp → Prop} {Rr : Result → Shared → Prop} (hh : A.handled = none) (hroom : A.depth < recursionLimit) (hgo : ∀ h : Heap, h.get? a = some go → h.IsGen a gn)
    (hT : ∀ s₁ h', YE Y a go ws Qe s₁ → (∀ b o, s₁.heap.get? b = some o → h'.get? b = some o) → Rr (.ok (.ret (.bool true))) { s₁.setGen gn .finished with heap := h' })
    (hF : ∀ s₁ gs' H, gs'.bare = true → Inv Y [(a, go)] ws H s₁ → Qd H → Rr (.ok (.ret (.bool false))) (s₁.setGen gn gs')) :
    ∀ (n : Nat) (s : Shared) (gs : GenState), s.heap.get? a = some go → s.heap.NoLimit → AllBare s.gens → s.gens[gn]? = some gs →
      (∀ s'' : Shared, s''.heap = s.heap → s''.os = s.os → AllBare s''.gens → gs.Goes (model prog w) A.in1.in1 (YR Y a go ws Qe) (YP false Y a go ws Qd) n (.send .none) s'') →
      codeAny (model prog w) A (.builtin "all.loop" ⟨[.ref a], []⟩) Rr s := by
  intro n
  induction n with
  | zero =>
    intro s gs hg hl hb hgs hgoes
    refine codeAny_builtin F.entry_all_loop ?_
    rw [Around.under_plainId F.plain_all_loop _]
    show wpAny _ A.in1 (pyNext (.ref a) >>= _) _ _ s
    refine wpAny_bind (wpAny_pyNext_genexpQ (P := fun _ _ s₁ => YE Y a go ws Qe s₁) hh hl hroom (hgo _ hg) hgs (hgoes _ rfl rfl (bare_set hb rfl)) (fun v s₁ gs' hb' hv => ?_) (fun s₁ hp h' hk => ?_))
    · obtain ⟨c, H, rfl, I, q⟩ := hv
      cases c with
      | false =>
        rw [if_pos rfl] at q
        refine wpAny_bind (wpAny_holding (wpAny_truthy_bool (wpAny_bind (wpAny_letGo ?_))))
        refine wpAny_bind (wpAny_rule (wpAny_pure ?_))
        exact hF s₁ gs' H hb' I q
      | true =>
        rw [if_neg (by decide)] at q
        exact (q s₁ rfl rfl I.bare).elim
    · refine wpAny_bind (wpAny_rule (wpAny_pure ?_))
      exact hT s₁ h' hp hk
  | succ n ih =>
    intro s gs hg hl hb hgs hgoes
    have hlt : gn < s.gens.size := by
      rcases Nat.lt_or_ge gn s.gens.size with h' | h'
      · exact h'
      · rw [Array.getElem?_eq_none h'] at hgs; cases hgs
    refine codeAny_builtin F.entry_all_loop ?_
    rw [Around.under_plainId F.plain_all_loop _]
    show wpAny _ A.in1 (pyNext (.ref a) >>= _) _ _ s
    refine wpAny_bind (wpAny_with_gens (Nat.le_refl s.gens.size) (wpAny_pyNext_genexpQ (P := fun _ _ s₁ => YE Y a go ws Qe s₁) hh hl hroom (hgo _ hg) hgs (hgoes _ rfl rfl (bare_set hb rfl)) (fun v s₁ gs' hb' hv => ?_) (fun s₁ hp h' hk => ?_)))
    · intro hsz
      have hsz : s.gens.size ≤ s₁.gens.size := by
        have z : s.gens.size ≤ (s₁.setGen gn gs').gens.size := hsz
        simpa [Shared.setGen] using z
      obtain ⟨c, H, rfl, I, q⟩ := hv
      cases c with
      | false =>
        rw [if_pos rfl] at q
        refine wpAny_bind (wpAny_holding (wpAny_truthy_bool (wpAny_bind (wpAny_letGo ?_))))
        refine wpAny_bind (wpAny_rule (wpAny_pure ?_))
        exact hF s₁ gs' H hb' I q
      | true =>
        rw [if_neg (by decide)] at q
        refine wpAny_bind (wpAny_holding (wpAny_truthy_bool (wpAny_bind (wpAny_letGo ?_))))
        refine wpAny_pure ⟨plainId_quiet F.plain_all_loop _, ih (s₁.setGen gn gs') gs' ?_ ?_ (bare_set I.bare hb') ?_ fun s'' h1 h2 h3 => q s'' h1 h2 h3⟩
        · exact (I.pin (a, go) (List.mem_append_right _ (List.mem_singleton.mpr rfl))).1
        · exact I.nolimit
        · show (s₁.gens.setIfInBounds gn gs')[gn]? = some gs'
          rw [Array.getElem?_setIfInBounds_self_of_lt (Nat.lt_of_lt_of_le hlt hsz)]
    · intro _
      refine wpAny_bind (wpAny_rule (wpAny_pure ?_))
      exact hT s₁ h' hp hk

/-- the loop of any(..) -/
theorem loop_any {prog : Program} {w : World} {gn : Nat} {ws : L2.St} {Qe Qd : Hp → Prop} {Rr : Result → Shared → Prop} (hh : A.handled = none) (hroom : A.depth < recursionLimit) (hgo : ∀ h : Heap, h.get? a = some go → h.IsGen a gn)
    (hT : ∀ s₁ h', YE Y a go ws Qe s₁ → (∀ b o, s₁.heap.get? b = some o → h'.get? b = some o) → Rr (.ok (.ret (.bool false))) { s₁.setGen gn .finished with heap := h' })
    (hF : ∀ s₁ gs' H, gs'.bare = true → Inv Y [(a, go)] ws H s₁ → Qd H → Rr (.ok (.ret (.bool true))) (s₁.setGen gn gs')) :
    ∀ (n : Nat) (s : Shared) (gs : GenState), s.heap.get? a = some go → s.heap.NoLimit → AllBare s.gens → s.gens[gn]? = some gs →
      (∀ s'' : Shared, s''.heap = s.heap → s''.os = s.os → AllBare s''.gens → gs.Goes (model prog w) A.in1.in1 (YR Y a go ws Qe) (YP true Y a go ws Qd) n (.send .none) s'') →
      codeAny (model prog w) A (.builtin "any.loop" ⟨[.ref a], []⟩) Rr s := by
  intro n
  induction n with
  | zero =>
    intro s gs hg hl hb hgs hgoes
    refine codeAny_builtin F.entry_any_loop ?_
    rw [Around.under_plainId F.plain_any_loop _]
    show wpAny _ A.in1 (pyNext (.ref a) >>= _) _ _ s
    refine wpAny_bind (wpAny_pyNext_genexpQ (P := fun _ _ s₁ => YE Y a go ws Qe s₁) hh hl hroom (hgo _ hg) hgs (hgoes _ rfl rfl (bare_set hb rfl)) (fun v s₁ gs' hb' hv => ?_) (fun s₁ hp h' hk => ?_))
    · obtain ⟨c, H, rfl, I, q⟩ := hv
      cases c with
      | true =>
        rw [if_pos rfl] at q
        refine wpAny_bind (wpAny_holding (wpAny_truthy_bool (wpAny_bind (wpAny_letGo ?_))))
        refine wpAny_bind (wpAny_rule (wpAny_pure ?_))
        exact hF s₁ gs' H hb' I q
      | false =>
        rw [if_neg (by decide)] at q
        exact (q s₁ rfl rfl I.bare).elim
    · refine wpAny_bind (wpAny_rule (wpAny_pure ?_))
      exact hT s₁ h' hp hk
  | succ n ih =>
    intro s gs hg hl hb hgs hgoes
    have hlt : gn < s.gens.size := by
      rcases Nat.lt_or_ge gn s.gens.size with h' | h'
      · exact h'
      · rw [Array.getElem?_eq_none h'] at hgs; cases hgs
    refine codeAny_builtin F.entry_any_loop ?_
    rw [Around.under_plainId F.plain_any_loop _]
    show wpAny _ A.in1 (pyNext (.ref a) >>= _) _ _ s
    refine wpAny_bind (wpAny_with_gens (Nat.le_refl s.gens.size) (wpAny_pyNext_genexpQ (P := fun _ _ s₁ => YE Y a go ws Qe s₁) hh hl hroom (hgo _ hg) hgs (hgoes _ rfl rfl (bare_set hb rfl)) (fun v s₁ gs' hb' hv => ?_) (fun s₁ hp h' hk => ?_)))
    · intro hsz
      have hsz : s.gens.size ≤ s₁.gens.size := by
        have z : s.gens.size ≤ (s₁.setGen gn gs').gens.size := hsz
        simpa [Shared.setGen] using z
      obtain ⟨c, H, rfl, I, q⟩ := hv
      cases c with
      | true =>
        rw [if_pos rfl] at q
        refine wpAny_bind (wpAny_holding (wpAny_truthy_bool (wpAny_bind (wpAny_letGo ?_))))
        refine wpAny_bind (wpAny_rule (wpAny_pure ?_))
        exact hF s₁ gs' H hb' I q
      | false =>
        rw [if_neg (by decide)] at q
        refine wpAny_bind (wpAny_holding (wpAny_truthy_bool (wpAny_bind (wpAny_letGo ?_))))
        refine wpAny_pure ⟨plainId_quiet F.plain_any_loop _, ih (s₁.setGen gn gs') gs' ?_ ?_ (bare_set I.bare hb') ?_ fun s'' h1 h2 h3 => q s'' h1 h2 h3⟩
        · exact (I.pin (a, go) (List.mem_append_right _ (List.mem_singleton.mpr rfl))).1
        · exact I.nolimit
        · show (s₁.gens.setIfInBounds gn gs')[gn]? = some gs'
          rw [Array.getElem?_setIfInBounds_self_of_lt (Nat.lt_of_lt_of_le hlt hsz)]
    · intro _
      refine wpAny_bind (wpAny_rule (wpAny_pure ?_))
      exact hT s₁ h' hp hk
end

theorem room_over {k : Nat} {A : Around} {elt : Expr} {gs : List Comprehension} {scope : Scope} {pos : Pos} {it acc : Value} {ce : Env} (hr : Room (k + 1) A) : Room k (A.in1.in1.over (.compLoop (.GeneratorExp elt gs scope pos) 0 it acc ce) []) := by
  have h1 := hr.hd
  have h2 := hr.dp
  have h3 := hr.un
  have w : (Code.compLoop (.GeneratorExp elt gs scope pos) 0 it acc ce).weight = 1 := rfl
  have u : (Code.compLoop (.GeneratorExp elt gs scope pos) 0 it acc ce).cUnits = 3 := rfl
  refine ⟨h1, ?_, ?_⟩
  · show A.depth + 0 + _ + 3 * k + 5 < _
    rw [w]; omega
  · show A.units + 1 + 1 + 0 + _ + 16 * k + 200 < _
    rw [u]; omega
theorem frames_over {A : Around} {elt : Expr} {gs : List Comprehension} {scope : Scope} {pos : Pos} {it acc : Value} {ce : Env} {l : List Env} (hf : A.frames = some l) : (A.in1.in1.over (.compLoop (.GeneratorExp elt gs scope pos) 0 it acc ce) []).frames = some (ce :: l) := by
  show pushEnvs [ce] (pushEnvs [] A.frames) = _
  rw [hf]; rfl
end GX
namespace GX
open PySem PySem.Spec PyProof.Rows L2 GxR

/-- a generator expression's names, code, table -/
structure GenX (X : Cx) (scope : Scope) (own : List (Str × Nat)) (c P : Addr) : Prop where
  ok : BlkOk X.N X.env.scope scope own
  nc : ∀ y ∈ scope.names, y.2 ≠ .cell
  co : scope.isCoroutine = false
  dot : scope.names.lookup (".0" : Str) = some NameKind.local
  tb : TabB X.base X.mg c P
  code : X.env.code = .ref c

abbrev gEnv (X : Cx) (scope : Scope) (C : Addr) (code : Value) : Env := genEnv scope (cloFrom X.env.cells scope.names []) C code builtinsNs X.env

section
variable {X : Cx} {pins : List (Addr × Obj)} {σ : L2.St} {H : Hp} {s : Shared}
/-- the generator is made -/
def GReady (d : Bool) (X : Cx) (pins : List (Addr × Obj)) (σ : L2.St) (Qe Qd : Hp → Prop) (u : Value) (s5 : Shared) : Prop :=
  ∃ (a : Addr) (gn : Nat) (go : Obj) (Y : Cx) (ws : L2.St) (n : Nat) (gs : GenState), u = .ref a ∧ (∀ h : Heap, h.get? a = some go → h.IsGen a gn) ∧ s5.heap.get? a = some go ∧ s5.heap.NoLimit ∧ AllBare s5.gens ∧ s5.gens[gn]? = some gs ∧
    (∀ s'' : Shared, s''.heap = s5.heap → s''.os = s5.os → AllBare s''.gens → gs.Goes (model X.prog X.w) X.A.in1.in1 (YR Y a go ws Qe) (YP d Y a go ws Qd) n (.send .none) s'') ∧
    (∀ s₁ H s', Inv Y [(a, go)] ws H s₁ → s'.os = s₁.os → (∀ b o, s₁.heap.get? b = some o → s'.heap.get? b = some o) → AllBare s'.gens → Inv X pins σ H s')

theorem gen_makeG {d : Bool} {tg elt iter : Expr} {ifs : List Expr} {scope : Scope} {own : List (Str × Nat)} {gpos : Pos} {c P : Addr} {wi : TI} {g : TG} {tt : TT} {te : TE} {k : Nat} {Qe Qd : Hp → Prop}
    (hr : Room (k + 1) X.A) (hc : X.calm = true) (hN : X.N.Nodup) (G : GenX X scope own c P) (hs : ∀ v, genFold iter X.env v = pure v) (hi : PI X tg iter wi)
    (hg : ∀ (s : Shared) (H : Hp) (C : Addr) (code : Value) (fp : List Addr) (A' : Around), Room k A' → PG (gCx X s H (gEnv X scope C code) fp A') tg g)
    (ht : ∀ (s : Shared) (H : Hp) (C : Addr) (code : Value) (fp : List Addr) (A' : Around), Room k A' → PTs (gCx X s H (gEnv X scope C code) fp A') ifs tt)
    (he : ∀ (s : Shared) (H : Hp) (C : Addr) (code : Value) (fp : List Addr) (A' : Around), Room k A' → PE (gCx X s H (gEnv X scope C code) fp A') elt te)
    (I : Inv X pins σ H s)
    (h : wi σ H fun J H1 => TabG H1 P ∧ ∀ H2, Tabbed P H1 H2 → ∃ W : Nat → Nat → Hp → Prop, (∃ m, W 0 m H2) ∧ Wk d J g tt te (own.map (·.2)) σ W Qe Qd) :
    wpAny (model X.prog X.w) X.A (eval (.GeneratorExp elt [⟨tg, iter, ifs, 0⟩] scope gpos) X.env) (GReady d X pins σ Qe Qd) X.xe s := by
  have ok := G.ok
  have hfree : ∀ y ∈ scope.names, y.2 = .free → ∃ c, X.env.cells.lookup y.1 = some c := fun y hy e => by
    rcases ok.free y hy e with k | k
    · exact I.ok.has _ (.inl k)
    · exact I.ok.has _ (.inr k)
  have dp := hr.dp
  refine wpAny_GeneratorExp_make G.co (closure_ok hfree) G.nc G.dot ok.kind (by omega) (thn (hi.run pins s σ H _ I h) fun xv s1 hx => thn hx fun itv s2 h2 => ?_) hs
  obtain ⟨it, fp, tn, J, H1, e, I1, T, st1, f1, ⟨ps, hP, hps⟩, q⟩ := h2
  subst e
  refine ⟨I1.nolimit, ?_⟩
  have tb0 : s2.heap.get? P = some { cls := .none, data := .fields ps } := I1.hok P _ hP
  have code1 : PySem.W.CodeHd s2.heap c P := G.tb.code.keeps fun b o e => I1.bk b o e
  have rest : ∀ (code : Value) (h3 : Heap) (tk : Nat) (ps3 : Array Value), Heap.ExtBut P s2.heap h3 → s2.heap.objs.size ≤ h3.objs.size → h3.get? P = some { cls := .none, data := .fields ps3 } →
      (∃ q, ps3 = ps ++ q) → TriplesOk ps3.toList →
      wpAny (model X.prog X.w) X.A (builtinsFor X.env.globals X.env.builtins) (fun bi s4 => ∀ h', h'.Ns s4.heap.objs.size (fun y => if y = ".0" then some (Value.ref it) else none) → Heap.SameBut s4.heap.objs.size (s4.heap.push { cls := .type "frame", data := .dict #[] }) h' →
          GReady d X pins σ Qe Qd (.ref h'.objs.size) { s4 with
            gens := s4.gens.push (.fresh (.compStart (.GeneratorExp elt [⟨tg, iter, ifs, 0⟩] scope gpos) 0 (.ref it) .none (genEnv scope (cloFrom X.env.cells scope.names []) s4.heap.objs.size code bi X.env))),
            toks := s4.toks + 1 + 1 + 1,
            heap := h'.push { cls := .type "generator", data := .fields #[.int s4.gens.size 0, .str "<genexpr>" (s4.toks + 1), .str (X.env.qual ++ "<genexpr>") (s4.toks + 1 + 1)] } }) X.xe { s2 with heap := h3, toks := tk } := by
    intro code h3 tk ps3 ext le3 tb3 ⟨qq, hq⟩ ok3
    obtain ⟨bm, om, m1, m2, m3, m4, m5, m6, m7, m8⟩ := G.tb.bm
    have k3 : ∀ b o, b ≠ P → s2.heap.get? b = some o → h3.get? b = some o := fun b o ne e => ext b o ne e
    refine wpAny_builtinsFor (m := X.mg) ?_ m1 m2 (k3 _ _ m4 (I1.bk _ _ m5)) m6 m7 m8 ?_
    · rw [I1.ok.glob]
      exact (I1.mod.glob.keeps I1.bk).extBut ext G.tb.gP
    rw [hq] at tb3
    have I4 : Inv X pins σ (upd H1 P (.tbl (ps ++ qq))) { s2 with heap := h3, toks := tk } := inv_tab (g' := s2.gens) (d' := s2.drawn) (t' := tk) I1 hP k3 tb3 I1.bare
    generalize hH4 : upd H1 P (.tbl (ps ++ qq)) = H4 at I4
    have TbG : Tabbed P H1 H4 := by
      subst hH4
      exact ⟨⟨ps ++ qq, upd_same, by rw [← hq]; exact ok3⟩, fun b ne => upd_ne ne⟩
    have nP : ∀ b ∈ fp, b ≠ P := fun b hb z => by
      have := (f1 b hb).1
      rw [z, hP] at this
      cases this
    have sz : ∀ b ∈ fp, b < s2.heap.objs.size := fun b hb => by
      obtain ⟨o, e, _⟩ := T.obj _ _ st1 b hb
      exact Heap.lt_size e
    have f4 : ∀ b ∈ fp, FpOk X pins H4 b ∧ b < h3.objs.size := fun b hb =>
      ⟨⟨by rw [TbG.2 b (nP b hb)]; exact (f1 b hb).1, (f1 b hb).2⟩, Nat.lt_of_lt_of_le (sz b hb) le3⟩
    have st3 : tn 0 h3 := T.keep _ _ _ st1 fun b hb o e => k3 b o (nP b hb) e
    obtain ⟨W, ⟨m0, w0⟩, hW⟩ := q H4 TbG
    generalize hs4 : ({ s2 with heap := h3, toks := tk } : Shared) = s4 at I4 ⊢
    have hh4 : s4.heap = h3 := by rw [← hs4]
    have f4 : ∀ b ∈ fp, FpOk X pins H4 b ∧ b < s4.heap.objs.size := by rw [hh4]; exact f4
    have st4 : tn 0 s4.heap := by rw [hh4]; exact st3
    intro h' hn' hs'
    have hsz : h'.objs.size = s4.heap.objs.size + 1 := by rw [hs'.1, Heap.size_push]
    have keep' : ∀ b o, s4.heap.get? b = some o → h'.get? b = some o := fun b o e => hs'.extBut b o (Nat.ne_of_lt (Heap.lt_size e)) (Heap.get?_push_of_some _ e)
    generalize hgo : ({ cls := .type "generator", data := .fields #[.int s4.gens.size 0, .str "<genexpr>" (s4.toks + 1), .str (X.env.qual ++ "<genexpr>") (s4.toks + 1 + 1)] } : Obj) = go
    have gog : ∀ h : Heap, h.get? h'.objs.size = some go → h.IsGen h'.objs.size s4.gens.size := fun h e => by
      rw [← hgo] at e
      exact ⟨_, _, _, e, rfl, rfl, rfl⟩
    have keep5 : ∀ b o, s4.heap.get? b = some o → (h'.push go).get? b = some o := fun b o e => Heap.get?_push_of_some _ (keep' b o e)
    have gfree : go.isFreed = false := by rw [← hgo]; rfl
    have hgoAt : (h'.push go).get? h'.objs.size = some go := Heap.get?_push_size _ gfree
    generalize hce : genEnv scope (cloFrom X.env.cells scope.names []) s4.heap.objs.size code builtinsNs X.env = ce
    generalize hA' : X.A.in1.in1.over (.compLoop (.GeneratorExp elt [⟨tg, iter, ifs, 0⟩] scope gpos) 0 (.ref it) .none ce) [] = A'
    have rm : Room k A' := by rw [← hA']; exact room_over hr
    have fr : A'.frames = some (ce :: X.stack) := by rw [← hA']; exact frames_over I1.ok.frames
    have bare5 : ∀ (x : GenState), x.bare = true → AllBare (s4.gens.push x) := fun x hx => I4.bare.push hx
    have I5 : ∀ (gs : Array GenState) (tk5 : Nat), AllBare gs → Inv (gCx X s4 H4 ce fp A') [(h'.objs.size, go)] (wipe σ (own.map (·.2))) H4 { s4 with gens := gs, toks := tk5, heap := h'.push go } := fun gs tk5 hb =>
      gen_start (X := X) (s := s4) (H := H4) (scope := scope) (own := own) (code := code) (m := fun y => if y = ".0" then some (Value.ref it) else none) I4 ok G.nc hN f4 (fun _ => rm.hd) fr hce.symm keep5 (hn'.push _) hgoAt (by rw [hsz]; exact Nat.lt_succ_self _) (fun v z => by rw [← hgo] at z; cases z) rfl hb
    have pg := hg s4 H4 s4.heap.objs.size code fp A' rm
    have pt := ht s4 H4 s4.heap.objs.size code fp A' rm
    have pe := he s4 H4 s4.heap.objs.size code fp A' rm
    have hce' : gEnv X scope s4.heap.objs.size code = ce := hce
    rw [hce'] at pg pt pe
    have cco : ce.scope.isCoroutine = false := by rw [← hce]; exact G.co
    refine ⟨h'.objs.size, s4.gens.size, go, gCx X s4 H4 ce fp A', wipe σ (own.map (·.2)), m0 + 1, _, rfl, gog, hgoAt, I4.nolimit.keeps keep5, bare5 _ rfl, Array.getElem?_push_size .., fun s'' h1 h2 h3' => ⟨rfl, ?_⟩, fun s₁ H' s' I6 ho kk hb => ?_⟩
    · refine seg_gs (Y := gCx X s4 H4 ce fp A') (fp := fp) (tn := tn) (J := J) (W := W) hA'.symm hc cco T rfl rfl (fun z => ?_) pg pt pe hW rfl m0 H4 s'' s'' (inv_heap (I5 (s4.gens.push .finished) 0 (bare5 _ rfl)) h1 h2 h3') ?_ (fun b hb => (f4 b hb).1.1) w0
      · have z2 : h'.objs.size < s4.heap.objs.size := (f4 _ z).2
        rw [hsz] at z2
        exact absurd z2 (by omega)
      · rw [h1]
        exact T.keep _ _ _ st4 fun b _ o e => keep5 b o e
    · exact I4.call' (ch := fp) (ho.trans I6.os) (Un.trans I6.base (Un.kept kk)) (I6.hok.kept kk) hb fun b hb => ⟨(f4 b hb).1.2.2.2.1, (f4 b hb).1.2.1, (f4 b hb).1.2.2.2.2.1, (f4 b hb).1.2.2.2.2.2⟩
  cases hcd : codeAmong gpos ps.toList with
  | some cv =>
    exact wpAny_genexprCode_hit G.code (code1.code tb0 hps) hcd (rest cv _ s2.toks ps (Heap.ExtBut.refl _ _) (Nat.le_refl _) tb0 ⟨#[], (Array.append_empty).symm⟩ hps)
  | none =>
    refine wpAny_genexprCodeX G.code (code1.code tb0 hps) (code1.tab tb0) hcd ?_
    intro c' h' tk ext ge lt isC _ tab' _
    obtain ⟨o1, v1, f1, f2, f3, f4, f5, f6, f7, f8, _, _, _, _, _, _, _, _, _, okT, _⟩ := isC
    exact rest _ h' tk _ ext (Nat.le_trans ge (Nat.le_of_lt lt)) tab'.2 ⟨_, rfl⟩ okT

/-- all(elt for tg in iter if ..), any(..): W by the turn and a measure -/
def tWalk (d : Bool) (P : Addr) (wi : TI) (g : TG) (tt : TT) (te : TE) (vs : List Nat) : TE := fun σ H Q => wi σ H fun J H1 => TabG H1 P ∧ ∀ H2, Tabbed P H1 H2 → ∃ W : Nat → Nat → Hp → Prop, (∃ m, W 0 m H2) ∧
  Wk d J g tt te vs σ W (fun H => Q (.bl (!d)) H) (fun H => Q (.bl d) H)

theorem pe_allG {tg elt iter : Expr} {ifs : List Expr} {scope : Scope} {own : List (Str × Nat)} {gpos p pos : Pos} {c P : Addr} {wi : TI} {g : TG} {tt : TT} {te : TE} {k : Nat}
    (hr : Room (k + 1) X.A) (hc : X.calm = true) (hN : X.N.Nodup) (hgl : Gl X "all") (hm : X.mg "all" = none) (G : GenX X scope own c P) (hi : PI X tg iter wi)
    (hg : ∀ (s : Shared) (H : Hp) (C : Addr) (code : Value) (fp : List Addr) (A' : Around), Room k A' → PG (gCx X s H (gEnv X scope C code) fp A') tg g)
    (ht : ∀ (s : Shared) (H : Hp) (C : Addr) (code : Value) (fp : List Addr) (A' : Around), Room k A' → PTs (gCx X s H (gEnv X scope C code) fp A') ifs tt)
    (he : ∀ (s : Shared) (H : Hp) (C : Addr) (code : Value) (fp : List Addr) (A' : Around), Room k A' → PE (gCx X s H (gEnv X scope C code) fp A') elt te)
    (hs : ∀ v, genFold iter X.env v = pure v)
    (hst : starEach [.GeneratorExp elt [⟨tg, iter, ifs, 0⟩] scope gpos] X.env = (false, eval (.GeneratorExp elt [⟨tg, iter, ifs, 0⟩] scope gpos) X.env) :: starEach [] X.env := by rfl) :
    PE X (.Call (.Name "all" p) [.GeneratorExp elt [⟨tg, iter, ifs, 0⟩] scope gpos] [] pos) (tWalk false P wi g tt te (own.map (·.2))) := by
  refine ⟨fun pins s σ H Q I h => ?_⟩
  refine wpAny_Call_Name_kw (ld_blt I hgl hm (show bootBuiltins "all" = some (.builtin "all") by decide +kernel) ?_)
  refine PyProof.Rows.callWith_builtin1 ?_ hst (by rfl)
  rw [hst]
  have dp := hr.dp
  refine Calls.spliced_cons (thn (gen_makeG (d := false) hr hc hN G hs hi hg ht he I h) fun u s5 R => ?_)
  obtain ⟨a, gn, go, Y, ws, n, gs, rfl, gog, hgo, hl, hb, hgs, goes, back⟩ := R
  refine Calls.spliced_nil (call_function_tree F.kind_all F.plain_all F.entry_all (F.args_all1 _) ?_)
  unfold Builtin.«all»
  refine wpAny_bind (m := oneArg "all" _) (wpAny_pure ?_)
  refine wpAny_bind (wpAny_pyIter_gen (gog _ hgo) (wpAny_pure ⟨plainId_quiet F.plain_all_loop _, loop_all (Y := Y) (go := go) (ws := ws) (Qe := fun H => Q (.bl (!false)) H) (Qd := fun H => Q (.bl false) H) hr.hd (by omega) gog (fun s₁ h' ⟨H', I', q⟩ hk => ?_) (fun s₁ gs' H' hb' I' q => ?_) n s5 gs hgo hl hb hgs goes⟩))
  · exact ⟨.bl false, H', back s₁ H' _ I' rfl (fun _ _ e => e) (bare_set I'.bare hb'), rfl, q⟩
  · exact ⟨.bl true, H', back s₁ H' _ I' rfl hk (bare_set I'.bare rfl), rfl, q⟩

theorem pe_anyG {tg elt iter : Expr} {ifs : List Expr} {scope : Scope} {own : List (Str × Nat)} {gpos p pos : Pos} {c P : Addr} {wi : TI} {g : TG} {tt : TT} {te : TE} {k : Nat}
    (hr : Room (k + 1) X.A) (hc : X.calm = true) (hN : X.N.Nodup) (hgl : Gl X "any") (hm : X.mg "any" = none) (G : GenX X scope own c P) (hi : PI X tg iter wi)
    (hg : ∀ (s : Shared) (H : Hp) (C : Addr) (code : Value) (fp : List Addr) (A' : Around), Room k A' → PG (gCx X s H (gEnv X scope C code) fp A') tg g)
    (ht : ∀ (s : Shared) (H : Hp) (C : Addr) (code : Value) (fp : List Addr) (A' : Around), Room k A' → PTs (gCx X s H (gEnv X scope C code) fp A') ifs tt)
    (he : ∀ (s : Shared) (H : Hp) (C : Addr) (code : Value) (fp : List Addr) (A' : Around), Room k A' → PE (gCx X s H (gEnv X scope C code) fp A') elt te)
    (hs : ∀ v, genFold iter X.env v = pure v)
    (hst : starEach [.GeneratorExp elt [⟨tg, iter, ifs, 0⟩] scope gpos] X.env = (false, eval (.GeneratorExp elt [⟨tg, iter, ifs, 0⟩] scope gpos) X.env) :: starEach [] X.env := by rfl) :
    PE X (.Call (.Name "any" p) [.GeneratorExp elt [⟨tg, iter, ifs, 0⟩] scope gpos] [] pos) (tWalk true P wi g tt te (own.map (·.2))) := by
  refine ⟨fun pins s σ H Q I h => ?_⟩
  refine wpAny_Call_Name_kw (ld_blt I hgl hm (show bootBuiltins "any" = some (.builtin "any") by decide +kernel) ?_)
  refine PyProof.Rows.callWith_builtin1 ?_ hst (by rfl)
  rw [hst]
  have dp := hr.dp
  refine Calls.spliced_cons (thn (gen_makeG (d := true) hr hc hN G hs hi hg ht he I h) fun u s5 R => ?_)
  obtain ⟨a, gn, go, Y, ws, n, gs, rfl, gog, hgo, hl, hb, hgs, goes, back⟩ := R
  refine Calls.spliced_nil (call_function_tree F.kind_any F.plain_any F.entry_any (F.args_any1 _) ?_)
  unfold Builtin.«any»
  refine wpAny_bind (m := oneArg "any" _) (wpAny_pure ?_)
  refine wpAny_bind (wpAny_pyIter_gen (gog _ hgo) (wpAny_pure ⟨plainId_quiet F.plain_any_loop _, loop_any (Y := Y) (go := go) (ws := ws) (Qe := fun H => Q (.bl (!true)) H) (Qd := fun H => Q (.bl true) H) hr.hd (by omega) gog (fun s₁ h' ⟨H', I', q⟩ hk => ?_) (fun s₁ gs' H' hb' I' q => ?_) n s5 gs hgo hl hb hgs goes⟩))
  · exact ⟨.bl true, H', back s₁ H' _ I' rfl (fun _ _ e => e) (bare_set I'.bare hb'), rfl, q⟩
  · exact ⟨.bl false, H', back s₁ H' _ I' rfl hk (bare_set I'.bare rfl), rfl, q⟩
end
end GX
namespace GX
open PySem PySem.Spec PyProof.Rows L2 GxR
/-! the walks of all(..), any(..) by an invariant -/
theorem wk_range {d : Bool} {lo : Int} {n : Nat} {g : TG} {tt : TT} {te : TE} {vs : List Nat} {σ : L2.St} {Qe Qd : Hp → Prop} {H0 : Hp} (Pv : Nat → Hp → Prop) (h0 : Pv 0 H0)
    (hs : ∀ i H, i < n → Pv i H → g (.int (lo + i)) (wipe σ vs) H fun σ2 H2 => wipe σ2 vs = wipe σ vs ∧ tt σ2 H2 fun b H3 =>
      if b = true then te σ2 H3 fun y H4 => ∃ c, y = .bl c ∧ if c = d then Qd H4 else Pv (i + 1) H4 else Pv (i + 1) H3) (hd : ∀ H, Pv n H → Qe H) :
    ∃ W : Nat → Nat → Hp → Prop, (∃ m, W 0 m H0) ∧ Wk d (Itr lo n) g tt te vs σ W Qe Qd := by
  refine ⟨fun i m H => m = n - i ∧ i ≤ n ∧ Pv i H, ⟨n, by simp, Nat.zero_le _, h0⟩, ?_⟩
  rintro i m H ⟨rfl, hi, p⟩
  by_cases hlt : i < n
  · refine .inr ⟨hlt, Pv (i + 1), fun H' p' => ⟨n - (i + 1), by omega, rfl, hlt, p'⟩, fun x H' y => ?_⟩
    obtain ⟨rfl, rfl⟩ := y
    exact hs i _ hlt p
  · have e : i = n := by omega
    subst e
    exact .inl ⟨Nat.le_refl _, hd H p⟩
theorem wk_list {d : Bool} {K : PySem.W.Frag} {a : Addr} {xs : List V} {g : TG} {tt : TT} {te : TE} {vs : List Nat} {σ : L2.St} {Qe Qd : Hp → Prop} {H0 : Hp} (Pv : Nat → Hp → Prop) (h0 : Pv 0 H0) (hl : ∀ i H, i ≤ xs.length → Pv i H → SqL K H a xs)
    (hs : ∀ i x H, xs[i]? = some x → Pv i H → g x (wipe σ vs) H fun σ2 H2 => wipe σ2 vs = wipe σ vs ∧ tt σ2 H2 fun b H3 =>
      if b = true then te σ2 H3 fun y H4 => ∃ c, y = .bl c ∧ if c = d then Qd H4 else Pv (i + 1) H4 else Pv (i + 1) H3) (hd : ∀ H, Pv xs.length H → Qe H) :
    ∃ W : Nat → Nat → Hp → Prop, (∃ m, W 0 m H0) ∧ Wk d (Itl K a) g tt te vs σ W Qe Qd := by
  refine ⟨fun i m H => m = xs.length - i ∧ i ≤ xs.length ∧ Pv i H, ⟨xs.length, by simp, Nat.zero_le _, h0⟩, ?_⟩
  rintro i m H ⟨rfl, hi, p⟩
  have q := hl i H hi p
  by_cases hlt : i < xs.length
  · refine .inr ⟨⟨xs, xs[i], q, by simp [hlt]⟩, Pv (i + 1), fun H' p' => ⟨xs.length - (i + 1), by omega, rfl, hlt, p'⟩, fun x H' y => ?_⟩
    obtain ⟨rfl, e⟩ := y
    exact hs i x _ (e xs q) p
  · have e : i = xs.length := by omega
    subst e
    exact .inl ⟨⟨xs, q, Nat.le_refl _⟩, hd H p⟩
end GX
/-! dicts keyed by tuples: del, truth, comprehensions; a dict comprehension whatever its keys are -/
namespace GX
open PySem PySem.Spec PyProof.Rows L2 GxR

section
variable {X : Cx}
theorem ktDrop {H : Hp} {kvs : List (List Key × V)} {xs : List (List Key × Addr × Value)} (k : List Key) (h : KT H kvs xs) : KT H (dropK kvs k) (withoutH xs k) := DX.KT_drop k h
/-- del d[y], keys tuples -/
def sDDelT (td ty : TE) : TS := fun D σ H => td σ H fun x H1 => ty σ H1 fun y H2 => ∃ (a : Addr) (kvs : List (List Key × V)) (k : List Key) (b : Addr), x = .ref a ∧ H2 a = some (.dT kvs) ∧ y = .ref b ∧ H2 b = some (.tup (k.map kV)) ∧ (valV kvs k).isSome = true ∧ D.nx σ (upd H2 a (.dT (dropK kvs k)))
theorem ps_ddelT {o i : Expr} {pos tpos : Pos} {td ty : TE} (hu : X.A.units + 1 < cLine) (ho : PE X o td) (hi : PE X i ty) : PS X (.Delete [.Subscript o i tpos] pos) (sDDelT td ty) := by
  refine ⟨fun pins s σ H D I h => ?_⟩
  refine wpAny_Delete (wpAny_deleteEach_cons (wpAny_delete_Subscript (thn (ho.run pins s σ H _ I h) fun u s1 ⟨x, H1, I1, rx, q1⟩ => thn (hi.run pins s1 σ H1 _ I1 q1) fun iv s2 ⟨y, H2, I2, ry, a, kvs, k, b, ex, e, ey, eb, l, q2⟩ => ?_)))
  subst ex ey
  obtain rfl : u = Value.ref a := rx
  obtain rfl : iv = Value.ref b := ry
  obtain ⟨z, hd, xs, rel, dd⟩ := dt_of I2.hok e
  have hz : xs.length ≤ sizeLine := by rw [← Paired.length rel]; exact z
  have r := rel.val k
  obtain ⟨v0, ev⟩ := Option.isSome_iff_exists.mp l
  obtain ⟨w', hw, _⟩ := RelO.some_of (v := v0) (o := (atKey xs k).map (·.2)) (by rw [← ev]; exact r)
  obtain ⟨p, hp, _⟩ := Option.map_eq_some_iff.mp hw
  refine wpAny_delItem_heap (hsz := hz) (tupleKind_room_in1 hu) (key_of I2.hok eb) hd dd hp fun h' dd' hs => ?_
  obtain ⟨q, es, ep, hq, h2, h3, h4, _, h5⟩ := dd'
  refine wpAny_deleteEach_nil ⟨σ, _, d_write (ob := .dT (dropK kvs k)) I2 (by rw [e]; exact True.intro) hs ⟨q, hq⟩ ⟨Nat.le_trans (dropK_le kvs k) z, hd, _, (ktDrop k rel).keeps fun c ys ec => ?_, q, es, ep, hq, h2, h3, h4, h5⟩, q2⟩
  rw [upd_ne (ne_of ec e (fun z => nomatch z))]
  exact ec
end
section
variable {prog : Program} {w : World} {κ : Type} [DecidableEq κ] {knd : HeapKind prog w κ} {A : Around} {E : Value → Shared → Prop} {s : Shared}
/-- the truth of a dict whose keys stand in the heap -/
theorem truthy_dictH {d : Addr} {xs : List (κ × Addr × Value)} {Q : Bool → Shared → Prop} (hd : (d == sysModules) = false) (hm : s.heap.DictOfH knd d xs) (hfit : (xs.length : Int) < 2 ^ 63)
    (h : Q (!xs.isEmpty) { s with toks := s.toks + 1 + 1 }) : wpAny (model prog w) A (truthy (.ref d)) Q E s := by
  have hne : ((xs.length : Int) != 0) = !xs.isEmpty := by cases xs <;> simp <;> omega
  have len : wpAny (model prog w) A (runValue (.builtin "len" ⟨[.ref d], []⟩)) (fun r s' => r = .int xs.length (s.toks + 1) ∧ Q (!xs.isEmpty) s') E s := by
    refine wpAny_runValue (codeAny_builtin entry_len ?_)
    rw [Around.under_plainId plain_len _]
    exact wpAny_mono (wpAny_len_body_dictH (Q := fun r s' => r = .int xs.length (s.toks + 1) ∧ Q (!xs.isEmpty) s') hd hm hfit ⟨rfl, h⟩) (fun fin s' ⟨r, e, q⟩ => by subst e; exact q) fun _ _ e => e
  have fin : ∀ (r : Value) (s' : Shared), (r = .int xs.length (s.toks + 1) ∧ Q (!xs.isEmpty) s') → wpAny (model prog w) A (match r with | .int n _ => pure (n != 0) | _ => pure true) Q E s' := fun r s' ⟨e, q⟩ => by
    subst e
    exact wpAny_pure (hne ▸ q)
  unfold truthy
  first
    | refine wpAny_bind (wpAny_callSpecial?_none (name := Str.ofString "__bool__") hm.typeIs noBool_dict ?_)
    | refine wpAny_bind (wpAny_pure (wpAny_bind (wpAny_callSpecial?_none (name := Str.ofString "__bool__") hm.typeIs noBool_dict ?_)))
  first
    | refine wpAny_bind (wpAny_specialOf (name := Str.ofString "__len__") hm.typeIs F.slot_dict_len.lookup ?_)
    | refine wpAny_bind (wpAny_pure (wpAny_bind (wpAny_specialOf (name := Str.ofString "__len__") hm.typeIs F.slot_dict_len.lookup ?_)))
  first
    | exact wpAny_bind (wpAny_mono len (fun r s' ⟨e, q⟩ => by subst e; exact wpAny_pure (hne ▸ q)) fun _ _ e => e)
    | exact wpAny_bind (wpAny_pure (wpAny_bind (wpAny_mono len (fun r s' ⟨e, q⟩ => by subst e; exact wpAny_pure (hne ▸ q)) fun _ _ e => e)))
end
section
variable {X : Cx}
def tTruT (ta : TE) : TT := fun σ H Q => ta σ H fun x H1 => ∃ (a : Addr) (kvs : List (List Key × V)), x = .ref a ∧ H1 a = some (.dT kvs) ∧ Q (!kvs.isEmpty) H1
theorem pt_truT {e : Expr} {ta : TE} (ha : PE X e ta) (he : ∀ whole, isTrue e X.env whole = (do let v ← whole; standAt e.pos; holding [v] (truthy v))) : PT X e (tTruT ta) := by
  refine ⟨fun pins s σ H Q I h => ?_⟩
  refine isTrue_plain (thn (ha.run pins s σ H _ I h) fun v s1 ⟨x, H1, I1, r1, a, kvs, ex, e1, q⟩ => ?_) (he _)
  subst ex
  obtain rfl : v = Value.ref a := r1
  obtain ⟨z, hd, xs, rel, dd⟩ := dt_of I1.hok e1
  have hl : kvs.length = xs.length := Paired.length rel
  have h63 := line63
  have ee : xs.isEmpty = kvs.isEmpty := by
    cases kvs with
    | nil => cases xs with
      | nil => rfl
      | cons _ _ => cases hl
    | cons _ _ => cases xs with
      | nil => cases hl
      | cons _ _ => rfl
  exact truthy_dictH hd dd (by omega) ⟨H1, I1.tok _, by rw [ee]; exact q⟩

/-! ### a dict comprehension: o0 the empty dict, put the reading of a store -/
def PutR (put : Addr → V → V → Hp → (Hp → Prop) → Prop) (X : Cx) : Prop := ∀ (pins : List (Addr × Obj)) (s : Shared) (σ : L2.St) (H : Hp) (D : Addr) (y z : V) (u r : Value) (N : Hp → Prop), Inv X pins σ H s → RelV y u → RelV z r → put D y z H N →
  wpAny (model X.prog X.w) X.A (dictSet D u r) (fun _ s' => ∃ H', Inv X pins σ H' s' ∧ N H') (fun _ _ => False) s
def tDg (o0 : HO) (put : Addr → V → V → Hp → (Hp → Prop) → Prop) (wi : TI) (g : TG) (tt : TT) (tk tv : TE) (vs : List Nat) : TE := fun σ H Q => wi σ H fun J H1 => ∀ D, H1 D = none → ∃ W : Nat → Nat → Hp → Prop, (∃ m, W 0 m (upd H1 D o0)) ∧ ∀ i m H, W i m H →
  (J.stop i H ∧ Q (.ref D) H) ∨ (J.go i H ∧ ∃ Nx : Hp → Prop, (∀ H', Nx H' → ∃ m', m' < m ∧ W (i + 1) m' H') ∧ ∀ x H', J.yld i H x H' → g x (wipe σ vs) H' fun σ2 H2 => wipe σ2 vs = wipe σ vs ∧ tt σ2 H2 fun b H3 =>
    if b = true then tk σ2 H3 fun y H4 => tv σ2 H4 fun z H5 => put D y z H5 Nx else Nx H3)
theorem dg_core {o0 : HO} {put : Addr → V → V → Hp → (Hp → Prop) → Prop} {pins : List (Addr × Obj)} {s : Shared} {σ : L2.St} {H : Hp} {Q : VK} {kx vx tg iter : Expr} {ifs : List Expr} {scope : Scope} {own : List (Str × Nat)} {pos pos' : Pos} {wi : TI} {g : TG} {tt : TT} {tk tv : TE} {use : Option (Value → Sem Unit)} {Qf : Value → Shared → Prop}
    (he0 : ∀ (H : Hp) (h : Heap), sysModules < h.objs.size → ObjOk X.prog X.w H (h.push { cls := .type "dict", data := .dict #[] }) h.objs.size o0)
    (hc : X.calm = true) (hN : X.N.Nodup) (I : Inv X pins σ H s) (hi : PI X tg iter wi) (ok : BlkOk X.N X.env.scope scope own)
    (hg : ∀ (s : Shared) (H : Hp) (C : Addr) (cl : List (Str × Addr)) (fp : List Addr), PG (X.blk s H scope (compEnvC scope cl C X.env) fp) tg g) (ht : ∀ (s : Shared) (H : Hp) (C : Addr) (cl : List (Str × Addr)) (fp : List Addr), PTs (X.blk s H scope (compEnvC scope cl C X.env) fp) ifs tt)
    (hk : ∀ (s : Shared) (H : Hp) (C : Addr) (cl : List (Str × Addr)) (fp : List Addr), PE (X.blk s H scope (compEnvC scope cl C X.env) fp) kx tk)
    (he : ∀ (s : Shared) (H : Hp) (C : Addr) (cl : List (Str × Addr)) (fp : List Addr), PE (X.blk s H scope (compEnvC scope cl C X.env) fp) vx tv)
    (hp : ∀ (s : Shared) (H : Hp) (C : Addr) (cl : List (Str × Addr)) (fp : List Addr), PutR put (X.blk s H scope (compEnvC scope cl C X.env) fp)) (hs : ∀ x, foldedSetIterable iter X.env x = pure x)
    (h : tDg o0 put wi g tt tk tv (own.map (·.2)) σ H Q)
    (hRR : ∀ D C s' m H', Inv X pins σ H' s' → Q (.ref D) H' → s'.heap.Ns C m → FpOk X pins H' C → compPost (model X.prog X.w) X.A X.xe use Qf (.ref D) C (.ok .next) s') :
    wpAny (model X.prog X.w) X.A (comprehension (.DictComp kx vx [⟨tg, iter, ifs, 0⟩] scope pos) scope X.env pos' newDict false (eval iter X.env) use) Qf X.xe s := by
  have hfree : ∀ y ∈ scope.names, y.2 = .free → ∃ c, X.env.cells.lookup y.1 = some c := fun y hy e => (ok.free y hy e).elim (fun k => I.ok.has _ (.inl k)) fun k => I.ok.has _ (.inr k)
  refine wpAny_comprehension_free (use := use) rfl hs (closure_ok hfree) ok.kind (fun y hy e => by rw [ok.uniq y hy, e]) (thn (hi.run pins s σ H _ I h) fun xv s1 hx => thn hx fun itv s2 ⟨it, fp, tn, J, H2, e, I2, T, st2, f2, q⟩ => ?_)
  subst e
  refine wpAny_newObj_type (newEnv_comp ?_)
  obtain ⟨W, ⟨m0, w0⟩, turn⟩ := q s2.heap.objs.size (I2.hok.fresh (Nat.le_refl _))
  have I3 : Inv X pins σ (upd H2 s2.heap.objs.size o0) { s2 with heap := s2.heap.push { cls := .type "dict", data := .dict #[] } } :=
    I2.laid (t' := s2.toks) (fun b o e => Heap.get?_push_of_some _ e) (Nat.le_refl _) (he0 _ _ I2.big)
  have f3 : ∀ b ∈ fp, FpOk X pins (upd H2 s2.heap.objs.size o0) b ∧ b < (s2.heap.push { cls := .type "dict", data := .dict #[] }).objs.size := fun b hb => by
    obtain ⟨o, e, _⟩ := T.obj _ _ st2 b hb
    have hlt := Heap.lt_size e
    exact ⟨⟨by rw [upd_ne (Nat.ne_of_lt hlt)]; exact (f2 b hb).1, (f2 b hb).2⟩, by rw [Heap.size_push]; exact Nat.lt_succ_of_lt hlt⟩
  have st3 : tn 0 (s2.heap.push { cls := .type "dict", data := .dict #[] }) := T.keep _ _ _ st2 fun b _ o e => Heap.get?_push_of_some _ e
  generalize s2.heap.objs.size = D at I3 f3 w0 turn ⊢
  generalize hs3 : ({ s2 with heap := s2.heap.push { cls := .type "dict", data := .dict #[] } } : Shared) = s3 at I3 ⊢
  have h3 : s2.heap.push { cls := .type "dict", data := .dict #[] } = s3.heap := by rw [← hs3]
  rw [h3] at f3 st3
  have I4 := block_start I3 ok hN f3
  have pg := hg s3 (upd H2 D o0) s3.heap.objs.size (cellsFrom (s3.heap.objs.size + 1) scope.names (cloFrom X.env.cells scope.names [])) fp
  have pt := ht s3 (upd H2 D o0) s3.heap.objs.size (cellsFrom (s3.heap.objs.size + 1) scope.names (cloFrom X.env.cells scope.names [])) fp
  have pk := hk s3 (upd H2 D o0) s3.heap.objs.size (cellsFrom (s3.heap.objs.size + 1) scope.names (cloFrom X.env.cells scope.names [])) fp
  have pe := he s3 (upd H2 D o0) s3.heap.objs.size (cellsFrom (s3.heap.objs.size + 1) scope.names (cloFrom X.env.cells scope.names [])) fp
  have pp := hp s3 (upd H2 D o0) s3.heap.objs.size (cellsFrom (s3.heap.objs.size + 1) scope.names (cloFrom X.env.cells scope.names [])) fp
  show codeAny _ _ (.compStart (.DictComp kx vx [⟨tg, iter, ifs, 0⟩] scope pos) 0 (.ref it) (.ref D) (compEnvC scope (cellsFrom (s3.heap.objs.size + 1) scope.names (cloFrom X.env.cells scope.names [])) s3.heap.objs.size X.env)) (compPost (model X.prog X.w) X.A X.xe use Qf (.ref D) s3.heap.objs.size) { s3 with heap := pushCells (s3.heap.push { cls := .type "dict", data := .dict #[] }) scope.names }
  generalize hce : compEnvC scope (cellsFrom (s3.heap.objs.size + 1) scope.names (cloFrom X.env.cells scope.names [])) s3.heap.objs.size X.env = ce at I4 pg pt pk pe pp ⊢
  have cL : ce.locals = s3.heap.objs.size := by rw [← hce]; rfl
  have nfp : ∀ b ∈ fp, upd H2 D o0 b = none := fun b hb => (f3 b hb).1.1
  generalize upd H2 D o0 = H3 at I3 I4 pg pt pk pe pp w0 nfp f3
  have st4 : tn 0 (pushCells (s3.heap.push { cls := .type "dict", data := .dict #[] }) scope.names) := T.keep _ _ _ st3 fun b _ o e => pushCells_keeps _ _ _ _ (Heap.get?_push_of_some _ e)
  generalize hs4 : ({ s3 with heap := pushCells (s3.heap.push { cls := .type "dict", data := .dict #[] }) scope.names } : Shared) = s4 at I4 ⊢
  have st4 : tn 0 s4.heap := by rw [← hs4]; exact st4
  generalize hY : X.blk s3 H3 scope ce fp = Y at I4 pg pt pk pe pp
  have yx : Y.ex = fp ∧ Y.pn = [] ∧ Y.prog = X.prog ∧ Y.w = X.w ∧ Y.K = X.K ∧ Y.calm = true ∧ Y.A = X.A ∧ Y.env = ce ∧ Y.xe = (fun _ _ => False) ∧ Y.fs = frs X.stack ∧ Y.H_0 = H3 ∧ Y.s_0 = s3 := by
    rw [← hY]
    exact ⟨rfl, rfl, rfl, rfl, rfl, hc, rfl, rfl, rfl, rfl, rfl, rfl⟩
  obtain ⟨y1, y2, y3, y4, y5, y6, y7, y8, y9, y10, y11, y12⟩ := yx
  have T0 := T
  have T : Turn Y.prog Y.w Y.K tg J fp it tn := by rw [y3, y4, y5]; exact T
  have stat : ∀ {σ' : L2.St} {H' : Hp} {s' : Shared}, Inv Y [] σ' H' s' → (∀ b ∈ fp, H' b = none) → ∀ b ∈ fp, FpOk Y [] H' b := fun {σ' H' s'} I' hn b hb =>
    ⟨hn b hb, (I'.ok.exf b (y1 ▸ hb)).1, I'.ok.exfs b (y1 ▸ hb), .inl (y1 ▸ hb), fun x c e => (I'.ok.exf b (y1 ▸ hb)).2 x c e, fun p hp => by rw [y2] at hp; cases hp⟩
  have loop : codeAny (model X.prog X.w) X.A (.compLoop (.DictComp kx vx [⟨tg, iter, ifs, 0⟩] scope pos) 0 (.ref it) (.ref D) ce) (compPost (model X.prog X.w) X.A X.xe use Qf (.ref D) s3.heap.objs.size) s4 := by
    refine compLoop_anyD (fun n s' => ∃ i H', Inv Y [] (wipe σ (own.map (·.2))) H' s' ∧ tn i s'.heap ∧ (∀ b ∈ fp, H' b = none) ∧ W i n H') ?_ m0 ⟨0, H3, I4, st4, nfp, w0⟩
    rw [← y3, ← y4, ← y7, ← y8]
    rintro n s5 ⟨i, H5, I5, st5, n5, w5⟩
    rcases turn i n H5 w5 with ⟨stop, qq⟩ | ⟨go, Nx, hNx, step⟩
    · refine thnF (T.done Y rfl rfl rfl y6 i [] s5 _ H5 (fun _ _ => False) I5 (stat I5 n5) st5 stop) fun r s6 ⟨hr, I6⟩ => ?_
      subst hr
      have b6 := I6.base
      rw [y10, y1, y11, y12] at b6
      have o6 := I6.os
      rw [y12] at o6
      have k6 := I6.hok
      rw [y3, y4] at k6
      have I7 : Inv X pins σ H5 s6 := I3.call' (ch := fp) o6 b6 k6 I6.bare fun b hb => ⟨(f3 b hb).1.2.2.2.1, (f3 b hb).1.2.1, (f3 b hb).1.2.2.2.2.1, (f3 b hb).1.2.2.2.2.2⟩
      have nC : H5 s3.heap.objs.size = none := by
        have z := I6.free
        rw [y8, cL] at z
        exact z
      obtain ⟨m, hn, _⟩ := I6.loc
      rw [y8, cL] at hn
      show compPost _ _ _ _ _ _ _ _ _
      rw [y3, y4, y7]
      exact hRR D s3.heap.objs.size s6 m H5 I7 qq hn (I3.fpOk (Nat.le_refl _) nC)
    · refine thnF (T.item Y rfl rfl rfl y6 i [] s5 _ H5 (fun _ _ => False) I5 (stat I5 n5) st5 go) fun r s6 ⟨u, hr, h6⟩ => ?_
      subst hr
      refine thnF h6 fun _ s7 ⟨x, H7, I7, r7, yy, st7, n7⟩ => ?_
      have I7' := I7.pinned (stat I7 n7) (T.obj _ _ st7)
      have a1 := pg.run _ s7 _ H7 x u _ I7' r7 (step x H7 yy)
      rw [y9] at a1
      refine thnF a1 fun _ s8 ⟨σ8, H8, I8, hw8, q8⟩ => ?_
      have a2 := pt.run _ s8 σ8 H8 _ I8 q8
      rw [y9] at a2
      refine thnF a2 fun b s9 ⟨H9, I9, q9⟩ => ?_
      have fin : ∀ {s' : Shared} {H' : Hp}, Inv Y ([] ++ pinsAt fp s7.heap) σ8 H' s' → Nx H' → ∃ m, m < n ∧ ∃ i H', Inv Y [] (wipe σ (own.map (·.2))) H' s' ∧ tn i s'.heap ∧ (∀ b ∈ fp, H' b = none) ∧ W i m H' := fun {s' H'} I' nx => by
        obtain ⟨m', hm, w'⟩ := hNx H' nx
        have pin' : ∀ b ∈ fp, ∀ o, s7.heap.get? b = some o → s'.heap.get? b = some o ∧ H' b = none := fun b hb o e =>
          let z := I'.pin (b, o) (List.mem_append_right _ (List.mem_append_right _ (mem_pinsAt hb e)))
          ⟨z.1, z.2.1⟩
        refine ⟨m', hm, i + 1, H', (I'.unpinned (pins := [])).weak (by rw [← wipe_length σ8 (own.map (·.2)), hw8]) (fun j v e => ?_), T.keep _ _ _ st7 fun b hb o e => (pin' b hb o e).1, fun b hb => ?_, w'⟩
        · rw [← hw8] at e
          exact (wipe_some e).1
        · obtain ⟨o, e, _⟩ := T.obj _ _ st7 b hb
          exact (pin' b hb o e).2
      cases b with
      | false =>
        simp only [Bool.false_eq_true, if_false] at q9 ⊢
        exact fin I9 q9
      | true =>
        simp only [if_true] at q9 ⊢
        have a3 := pk.run _ s9 σ8 H9 _ I9 q9
        rw [y9] at a3
        refine thnF a3 fun z s10 ⟨yk, H10, I10, r10, q10⟩ => ?_
        have a4 := pe.run _ s10 σ8 H10 _ I10 q10
        rw [y9] at a4
        refine thnF a4 fun z2 s11 ⟨yv, H11, I11, r11, q11⟩ => ?_
        exact thnF (pp _ s11 σ8 H11 D yk yv z z2 Nx I11 r10 r11 q11) fun _ s12 ⟨H12, I12, nx⟩ => fin I12 nx
  exact codeAny_compStart_dict loop (T0.self X.A 0 _ _ _ st4 loop)
theorem pe_dg {o0 : HO} {put : Addr → V → V → Hp → (Hp → Prop) → Prop} {kx vx tg iter : Expr} {ifs : List Expr} {scope : Scope} {own : List (Str × Nat)} {pos : Pos} {wi : TI} {g : TG} {tt : TT} {tk tv : TE}
    (he0 : ∀ (H : Hp) (h : Heap), sysModules < h.objs.size → ObjOk X.prog X.w H (h.push { cls := .type "dict", data := .dict #[] }) h.objs.size o0) (hc : X.calm = true) (hN : X.N.Nodup) (hi : PI X tg iter wi) (ok : BlkOk X.N X.env.scope scope own)
    (hg : ∀ (s : Shared) (H : Hp) (C : Addr) (cl : List (Str × Addr)) (fp : List Addr), PG (X.blk s H scope (compEnvC scope cl C X.env) fp) tg g) (ht : ∀ (s : Shared) (H : Hp) (C : Addr) (cl : List (Str × Addr)) (fp : List Addr), PTs (X.blk s H scope (compEnvC scope cl C X.env) fp) ifs tt)
    (hk : ∀ (s : Shared) (H : Hp) (C : Addr) (cl : List (Str × Addr)) (fp : List Addr), PE (X.blk s H scope (compEnvC scope cl C X.env) fp) kx tk)
    (he : ∀ (s : Shared) (H : Hp) (C : Addr) (cl : List (Str × Addr)) (fp : List Addr), PE (X.blk s H scope (compEnvC scope cl C X.env) fp) vx tv)
    (hp : ∀ (s : Shared) (H : Hp) (C : Addr) (cl : List (Str × Addr)) (fp : List Addr), PutR put (X.blk s H scope (compEnvC scope cl C X.env) fp)) (hs : ∀ x, foldedSetIterable iter X.env x = pure x := by intro _; rfl) :
    PE X (.DictComp kx vx [⟨tg, iter, ifs, 0⟩] scope pos) (tDg o0 put wi g tt tk tv (own.map (·.2))) := by
  refine ⟨fun pins s σ H Q I h => ?_⟩
  rw [arm_eval_DictComp]
  refine dg_core he0 hc hN I hi ok hg ht hk he hp hs h fun D C s' m H' I' q hn ⟨f0, f1, f2, f3, f4, f5⟩ => ⟨m, hn, fun h'' sb => ?_⟩
  exact ⟨.ref D, H', I'.turned (t' := s'.toks) (fun b o hb e => (sb.2 b hb).trans e) f0 f1 f3 f4 f5, rfl, q⟩
theorem sw_dict {kx vx : Expr} {gs : List Comprehension} {scope : Scope} {pos py : Pos} {y : Str} {l : Nat} {env : Env} (hk : env.scope.kind = .function) (hy : env.scope.names.lookup y = some .local) (hl : (py.line == pos.line) = true)
    (ha : (scope.names.any fun (n, k) => n == y && (k == .local || k == .cell)) = false) : swapsWith (.DictComp kx vx gs scope pos) (some (.Name y py)) l env = pure true := by
  have h1 : env.kindOf y = some .local := hy
  have h2 : env.blockKind = .function := by unfold Env.blockKind; rw [hk]; rfl
  unfold swapsWith
  simp only [h2, h1, ha, Expr.pos, hl]
  rfl
/-- name = {..} on one line, the name a local -/
theorem ps_setDg {o0 : HO} {put : Addr → V → V → Hp → (Hp → Prop) → Prop} {i : Nat} {y : Str} {py : Pos} {kx vx tg iter : Expr} {ifs : List Expr} {scope : Scope} {own : List (Str × Nat)} {pos spos : Pos} {wi : TI} {g : TG} {tt : TT} {tk tv : TE}
    (he0 : ∀ (H : Hp) (h : Heap), sysModules < h.objs.size → ObjOk X.prog X.w H (h.push { cls := .type "dict", data := .dict #[] }) h.objs.size o0) (hc : X.calm = true) (hN : X.N.Nodup) (hy : X.N[i]? = some y) (hyl : X.env.scope.names.lookup y = some .local)
    (hsw : swapsWith (.DictComp kx vx [⟨tg, iter, ifs, 0⟩] scope pos) (some (.Name y py)) spos.line X.env = pure true) (hi : PI X tg iter wi) (ok : BlkOk X.N X.env.scope scope own)
    (hg : ∀ (s : Shared) (H : Hp) (C : Addr) (cl : List (Str × Addr)) (fp : List Addr), PG (X.blk s H scope (compEnvC scope cl C X.env) fp) tg g) (ht : ∀ (s : Shared) (H : Hp) (C : Addr) (cl : List (Str × Addr)) (fp : List Addr), PTs (X.blk s H scope (compEnvC scope cl C X.env) fp) ifs tt)
    (hk : ∀ (s : Shared) (H : Hp) (C : Addr) (cl : List (Str × Addr)) (fp : List Addr), PE (X.blk s H scope (compEnvC scope cl C X.env) fp) kx tk)
    (he : ∀ (s : Shared) (H : Hp) (C : Addr) (cl : List (Str × Addr)) (fp : List Addr), PE (X.blk s H scope (compEnvC scope cl C X.env) fp) vx tv)
    (hp : ∀ (s : Shared) (H : Hp) (C : Addr) (cl : List (Str × Addr)) (fp : List Addr), PutR put (X.blk s H scope (compEnvC scope cl C X.env) fp)) (hs : ∀ x, foldedSetIterable iter X.env x = pure x := by intro _; rfl) :
    PS X (.Assign [.Name y py] (.DictComp kx vx [⟨tg, iter, ifs, 0⟩] scope pos) spos) (tAsg (tDg o0 put wi g tt tk tv (own.map (·.2))) (gName i)) := by
  refine ⟨fun pins s σ H D I h => ?_⟩
  rw [exec_Assign_Name_used _ _ _ _ hsw]
  refine wpAny_bind (wpAny_standAt (wpAny_bind ?_))
  show wpAny _ X.A (do let _ ← comprehension (.DictComp kx vx [⟨tg, iter, ifs, 0⟩] scope pos) scope X.env (firstIterPos [⟨tg, iter, ifs, 0⟩] pos) newDict false (eval iter X.env) (some (assign (.Name y py) X.env))) _ _ s
  have h : tDg o0 put wi g tt tk tv (own.map (·.2)) σ H (fun x H1 => gName i x σ H1 D.nx) := h
  refine wpAny_bind (thn (dg_core (Qf := fun _ s' => SP X pins D .next s') he0 hc hN I hi ok hg ht hk he hp hs h fun L C s' m H' I' q hn ⟨f0, f1, f2, f3, f4, f5⟩ => ?_) fun _ s' hq => wpAny_pure (wpAny_pure hq))
  show wpAny _ _ (assign (.Name y py) X.env (.ref L)) _ _ _
  refine wpAny_assign_Name (store_ok2 (v := V.ref L) I' hN hy (.inl hyl) rfl (fun s2 I2 ⟨a, sb, ha⟩ => ?_) (.inr hyl))
  have haC : C ≠ a := ha.elim (fun z => by rw [z]; exact f1) fun z e => f4 y a z e.symm
  exact ⟨m, hn.sameBut sb haC, fun h3 sb3 => ⟨_, H', I2.turned (t' := s2.toks) (fun b o hb e => (sb3.2 b hb).trans e) f0 f1 f3 f4 f5, q⟩⟩
/-- keys tuples of ints and texts -/
def putT (D : Addr) (y z : V) (H : Hp) (N : Hp → Prop) : Prop := ∃ (kvs : List (List Key × V)) (k : List Key) (b : Addr), y = .ref b ∧ H b = some (.tup (k.map kV)) ∧ H D = some (.dT kvs) ∧ kvs.length < sizeLine ∧ N (upd H D (.dT (putK kvs k z)))
theorem putR_T {Y : Cx} (hu : Y.A.units < cLine) : PutR putT Y := by
  intro pins s σ H D y z u r N I ry rz ⟨kvs, k, b, ey, eb, e, l, n⟩
  subst ey
  obtain rfl : u = Value.ref b := ry
  obtain ⟨zz, hd, xs, rel, dd⟩ := dt_of I.hok e
  have hz : xs.length ≤ sizeLine := by rw [← Paired.length rel]; exact zz
  have hl : (putK kvs k z).length ≤ sizeLine := by have := length_putK kvs k z; omega
  refine wpAny_dictSet_heap (hsz := hz) hu (key_of I.hok eb) dd fun h' dd' hs => ⟨_, ?_, n⟩
  obtain ⟨q, es, ep, hq, h2, h3, h4, _, h5⟩ := dd'
  refine d_write I (by rw [e]; exact True.intro) hs ⟨q, hq⟩ ⟨hl, hd, _, (rel.put k eb rz).keeps fun c ys ec => ?_, q, es, ep, hq, h2, h3, h4, h5⟩
  rw [upd_ne (ne_of ec e (fun z => nomatch z))]
  exact ec
end
end GX
/-! repr in a law's body: a def that is called by the caller alone, and the law's end for it -/
namespace GX
open PySem PySem.Spec PyProof.Rows L2 GxR
/-- repr(x), x plain data of lists and tuples -/
def rRepr (K : PySem.W.Frag) : List V → Hp → VK → Prop := fun xs H Q => ∃ (p : Addr) (d : PyData), xs = [.ref p] ∧ Dp K H (.ref p) d ∧ d.showable = true ∧ d.hasDict = false ∧ d.depth ≤ 60 ∧ d.shown.length ≤ sizeLine ∧ Q (.str d.shown) H
theorem cr_repr {X : Cx} (hg : X.A.guards = some []) (hu : X.A.units + 64 < cLine) : CallR X (.builtin "repr") (rRepr X.K) := by
  intro pins s σ H xs us Q I r ⟨p, d, ex, hd, h1, h2, h3, h4, q⟩
  subst ex
  obtain ⟨u, rfl, rx⟩ := vals1 r
  obtain ⟨as, rd⟩ := Dp.reads I d (.ref p) u hd rx
  obtain rfl : u = Value.ref p := rx
  exact repr_of_reads' (hsz := h4) rd h1 (fun z => by rw [h2] at z; cases z) hg (by omega) (fun _ _ e => e) fun h' u tk hk => ⟨.str d.shown, H, I.kept (t' := tk) hk, ⟨u, rfl⟩, q⟩
/-- what a def does when the caller calls it -/
structure FnC (P : Program) (w : World) (K : PySem.W.Frag) (mg : Str → Option Value) (base : Heap) (f : Addr) (fd : FuncData) (ps : List Str) (sp : Sp) : Prop where
  run : ∀ (s : Shared) (H : Hp) (args : Args) (us : List Value) (vs : List V) (Q : VK) (E : XK), Env0 P w K mg base callerA [] s H → BindsTo s fd args (ps.zip us) → Vals vs us → sp vs H Q E →
    codeAny (model P w) callerA (.call (.ref f) args) (CR CX0 [] P w H s Q E) s
theorem fn_C {P : Program} {w : World} {K : PySem.W.Frag} {mg : Str → Option Value} {base : Heap} {k : Nat} {f : Addr} {name qual : Str} {params : Arguments} {body : List Stmt} {scope : Scope} {dV kV doc pm cdv ct oc : Value} {an od : Option Addr}
    {osl : Array (Option Value)} {N ps : List Str} {sp : Sp} (hk : Room (k + 1) callerA) (lk : K.lookup f = some ⟨oc, od, .func (PySem.W.fnOf name qual params body scope dV kV doc pm an cdv ct), osl⟩) (hcd : PySem.W.codeIn K cdv qual = true) (S : FnScope N ps scope)
    (len : ∀ vs H Q E, sp vs H Q E → vs.length = ps.length)
    (hbody : ∀ (A : Around) (outer : List Env) (s : Shared) (H : Hp) (vs : List V) (Q : VK) (E : XK), A.guards = some [] → Room k (A.deeper (envOfC qual scope s.heap.objs.size f cdv)) → sp vs H Q E →
      ∃ t, PSs (cxOf CX0 P w K mg base N qual scope f cdv A outer s H E).nox body t ∧ t { nx := fun _ H' => Q .non H', rt := Q } (start N vs) H) :
    FnC P w K mg base f (PySem.W.fnOf name qual params body scope dV kV doc pm an cdv ct) ps sp where
  run := fun s H args us vs Q E e0 hb r hsp => by
    have bk := fun b o e => (e0.bs b o e).1
    have KX : K.In s.heap := e0.mod.kin.keeps bk
    obtain ⟨t, ht, hq⟩ := hbody callerA [] s H vs Q E rfl (hk.deeper _) hsp
    refine codeAny_call_function hk.depth (KX _ _ lk) rfl S.co S.gen rfl (PySem.W.codeRec_of KX hcd) (hb _ _ _ _ (wpAny_newFunctionEnv_cells S.kind (fun ⟨n, v⟩ hy => ?_) fun env he s1 x => ?_))
    · exact (S.par n (List.of_mem_zip hy).1).imp id fun q => ⟨q, PySem.W.cellsFrom_some _ _ _ (.inl q)⟩
    · subst he
      refine ⟨(e0.mod.nolimit.keeps bk).keeps x.toInCall.keep, codeAny_func (wpAny_mono (ht.nox.run [] s1 (start N vs) H _ (inv_start S hk.hd e0 (len _ _ _ _ hsp) r x) hq) (fun fl s' hs => ?_) fun e s' hs => hs)⟩
      cases fl with
      | ret u => exact let ⟨v, σ', H', J, rv, q⟩ := hs; ⟨v, H', J.os, J.bare, J.base, J.hok, rv, q⟩
      | next => exact let ⟨σ', H', J, q⟩ := hs; ⟨.non, H', J.os, J.bare, J.base, J.hok, rfl, q⟩
      | brk => exact let ⟨_, _, _, q⟩ := hs; q.elim
      | cont => exact let ⟨_, _, _, q⟩ := hs; q.elim
end GX
/-! the end of a law whose body the caller alone calls; ts: the tables of code objects that may grow -/
namespace GX
open PySem PySem.Spec PyProof.Rows L2 GxR
section
variable {P : Program} {w : World} {K : PySem.W.Frag} {mg mb : Str → Option Value} {fa a : Addr} {cs : List (Addr × Addr)} {fd : FuncData} {x : Str} {sp : Sp} {s₁ : Shared} {vs : List Value} {ns : List Int}
/-- what is known at the law's entry: the tables, the script where it is no object of the module -/
def atE (K : PySem.W.Frag) (cs : List (Addr × Addr)) (a : Addr) (vs : List Value) (ns : List Int) : Hp := fun b =>
  if b ∈ cs.map (·.2) then some (.tbl #[]) else if b = a ∧ K.lookup a = none then some (.frz { cls := .type "list", data := .seq vs.toArray } (.lst (ns.map V.int))) else none
theorem law_callC (KX : K.In s₁.heap) (hns : s₁.heap.Ns mainGlobals mg) (hb : s₁.heap.Ns builtinsNs mb) (hbb : ∀ x : Str, x ≠ "__name__" → mb x = bootBuiltins x) (hlim : s₁.heap.NoLimit) (hg : s₁.gens = #[])
    (hT : ∀ p ∈ cs, s₁.heap.get? p.2 = some { cls := .none, data := .fields #[] }) (nT : ∀ p ∈ cs, K.lookup p.2 = none) (C : ∀ p ∈ cs, PySem.W.CodeHd s₁.heap p.1 p.2)
    (hbm : ∃ (bm : Addr) (ob : Obj), mg "__builtins__" = some (.ref bm) ∧ bm ≠ builtinsNs ∧ s₁.heap.get? bm = some ob ∧ ob.cls = .type "module" ∧ ob.dict = some builtinsNs ∧ ob.data = .plain)
    (ha : s₁.heap.get? a = some { cls := .type "list", data := .seq vs.toArray }) (hi : IntsAre vs ns) (hl : ns.length ≤ sizeLine)
    (F : ∀ base : Heap, K.In base → base.Ns mainGlobals mg → (∀ p ∈ cs, TabB base mg p.1 p.2) → FnC P w K mg base fa fd [x] sp) (hbind : ∀ (s : Shared) (u : Value), BindsTo s fd ⟨[u], []⟩ [(x, u)])
    (hsp : ∀ H : Hp, (∀ p ∈ cs, H p.2 = some (.tbl #[])) → SqL K H a (ns.map V.int) → sp [.ref a] H (fun v _ => v = .bl true) fun _ _ _ => False) :
    codeAny (model P w) callerA (.call (.ref fa) ⟨[.ref a], []⟩) (fun r s' => r = .ok (.ret (.bool true)) ∧ OldK s₁.heap s'.heap ∧ s'.os = s₁.os ∧ AllBare s'.gens) s₁ := by
  have tabOf : ∀ b ∈ cs.map (·.2), s₁.heap.get? b = some { cls := .none, data := .fields #[] } := fun b hb => by
    obtain ⟨p, hp, rfl⟩ := List.mem_map.mp hb
    exact hT p hp
  have aOut : a ∉ cs.map (·.2) := fun z => by
    have := tabOf a z
    rw [ha] at this
    exact nomatch congrArg Obj.data (Option.some.inj this)
  have tabIn : ∀ p ∈ cs, p.2 ∈ cs.map (·.2) := fun p hp => List.mem_map.mpr ⟨p, hp, rfl⟩
  generalize hH : atE K cs a vs ns = H
  have H1 : ∀ p ∈ cs, H p.2 = some (.tbl #[]) := fun p hp => by
    rw [← hH]
    exact if_pos (tabIn p hp)
  have H2 : K.lookup a = none → H a = some (.frz { cls := .type "list", data := .seq vs.toArray } (.lst (ns.map V.int))) := fun z => by
    rw [← hH]
    exact (if_neg aOut).trans (if_pos ⟨rfl, z⟩)
  have H3 : ∀ b u, H b = some u → (b ∈ cs.map (·.2) ∧ u = .tbl #[]) ∨ (b = a ∧ K.lookup a = none ∧ u = .frz { cls := .type "list", data := .seq vs.toArray } (.lst (ns.map V.int))) := fun b u e => by
    rw [← hH] at e
    unfold atE at e
    split at e
    · rename_i z
      exact .inl ⟨z, (Option.some.inj e).symm⟩
    · split at e
      · rename_i z
        exact .inr ⟨z.1, z.2, (Option.some.inj e).symm⟩
      · cases e
  -- what is no list and no empty table is not tracked; nor is an object of the module
  have free : ∀ {b : Addr} {o : Obj}, s₁.heap.get? b = some o → (∀ vs n, o.data ≠ .seq vs n) → o.data ≠ .fields #[] → H b = none := fun {b o} e n1 n2 => by
    cases q : H b with
    | none => rfl
    | some u =>
      rcases H3 b u q with ⟨z, _⟩ | ⟨z, _⟩
      · rw [tabOf b z] at e
        cases e
        exact absurd rfl n2
      · rw [z, ha] at e
        cases e
        exact absurd rfl (n1 _ _)
  have freeK : ∀ b o, K.lookup b = some o → H b = none := fun b o e => by
    cases q : H b with
    | none => rfl
    | some u =>
      rcases H3 b u q with ⟨z, _⟩ | ⟨z, y, _⟩
      · obtain ⟨p, hp, rfl⟩ := List.mem_map.mp z
        rw [nT p hp] at e
        cases e
      · rw [z, y] at e
        cases e
  have inB : ∀ {b : Addr} {o : Obj}, s₁.heap.get? b = some o → H b = none → (hidT s₁.heap H).get? b = some o := fun e n => hidT_get e n
  have nsB : ∀ {b : Addr} {m : Str → Option Value}, s₁.heap.Ns b m → (hidT s₁.heap H).Ns b m := fun {b m} ⟨o, es, ep, e, d, r⟩ =>
    ⟨o, es, ep, inB e (free e (fun _ _ z => by rw [d] at z; cases z) fun z => by rw [d] at z; cases z), d, r⟩
  have kB : K.In (hidT s₁.heap H) := fun b o e => inB (KX b o e) (freeK b o e)
  have mo : L2.Mod K mg (hidT s₁.heap H) := ⟨kB, nsB hns, ⟨mb, nsB hb, hbb⟩, hlim.imp fun _ z => ⟨nsB z.1, z.2⟩⟩
  have okH : HOk P w H s₁.heap := fun b u e => by
    rcases H3 b u e with ⟨z, rfl⟩ | ⟨rfl, _, rfl⟩
    · exact tabOf b z
    · exact ⟨ha, by rw [List.length_map]; exact hl, vs, _, vals_ints hi, ha⟩
  have tB : ∀ p ∈ cs, TabB (hidT s₁.heap H) mg p.1 p.2 := fun p hp => by
    have gp := hT p hp
    obtain ⟨og, eg, epg, e1, d1, _⟩ := id hns
    refine ⟨?_, ?_, fun z => by rw [z, gp] at e1; cases e1; cases d1⟩
    · obtain ⟨o, us, file, tf, flags, tg, inF, text, tt, c1, r1, r2, r3, r⟩ := C p hp
      exact ⟨o, us, file, tf, flags, tg, inF, text, tt, inB c1 (free c1 (fun _ _ z => by rw [r2] at z; cases z) (fun z => by rw [r2] at z; cases z; simp at r3)), r1, r2, r3, r⟩
    · obtain ⟨bm, ob, b1, b2, b3, b4, b5, b6⟩ := hbm
      exact ⟨bm, ob, b1, b2, (fun z => by rw [z, e1] at b3; cases b3; rw [d1] at b6; cases b6), (fun z => by rw [z, gp] at b3; cases b3; cases b6), inB b3 (free b3 (fun _ _ z => by rw [b6] at z; cases z) (fun z => by rw [b6] at z; cases z)), b4, b5, b6⟩
  have sq : SqL K H a (ns.map V.int) := by
    cases e : K.lookup a with
    | none => exact .inl (.inr ⟨_, H2 e⟩)
    | some o =>
      have z := KX a o e
      rw [ha] at z
      cases z
      exact .inr ⟨_, vs.toArray, _, e, rfl, rfl, rfl, by rw [List.size_toArray, hi.length]; exact hl, by simpa using vals_ints hi⟩
  refine codeAny_mono ((F _ kB (nsB hns) tB).run s₁ H ⟨[.ref a], []⟩ [.ref a] [.ref a] _ _ ⟨rfl, mo, fun b o e => of_hidT e, Nat.le_of_eq (hidT_size _ _), trivial, (fun b z => nomatch z), okH, .of_eq hg⟩ (hbind s₁ (.ref a)) (.cons rfl .nil) (hsp H H1 sq)) fun r s' h => ?_
  match r, h with
  | .error e, h => exact False.elim h
  | .ok .next, h => exact False.elim h
  | .ok .brk, h => exact False.elim h
  | .ok .cont, h => exact False.elim h
  | .ok (.ret u), ⟨v, H', os, bare, un, ok', rv, q⟩ =>
    obtain rfl : v = .bl true := q
    obtain rfl : u = Value.bool true := rv
    have stay : ∀ b o, b ∉ cs.map (·.2) → s₁.heap.get? b = some o → s'.heap.get? b = some o := fun b o nb e => by
      cases q : H b with
      | none => exact un.keep b o e q (fun z => nomatch z) (fun z => nomatch z)
      | some y =>
        rcases H3 b y q with ⟨z, _⟩ | ⟨_, _, rfl⟩
        · exact absurd z nb
        · have e1 := (okH b _ q).1
          rw [e] at e1
          cases e1
          exact (ok' b _ (un.frzs b _ _ q)).1
    have grow : ∀ b ∈ cs.map (·.2), ∃ (p : Addr × Addr) (more : Array Value), p ∈ cs ∧ p.2 = b ∧ s'.heap.get? b = some { cls := .none, data := .fields (#[] ++ more) } := fun b hb => by
      obtain ⟨p, hp, rfl⟩ := List.mem_map.mp hb
      obtain ⟨more, z⟩ := un.tbls p.2 #[] (H1 p hp)
      exact ⟨p, more, hp, rfl, ok' p.2 _ z⟩
    refine ⟨rfl, ⟨fun b o e => ?_, fun b o e => ?_⟩, os, bare⟩
    · by_cases hb : b ∈ cs.map (·.2)
      · obtain ⟨p, more, hp, rfl, hm⟩ := grow b hb
        rw [hT p hp] at e
        cases e
        exact .inr (.inl ⟨((C p hp).tab (hT p hp)).isCodeTable, rfl, #[], more, rfl, hm⟩)
      · exact .inl (stay b o hb e)
    · by_cases hb : b ∈ cs.map (·.2)
      · obtain ⟨p, more, _, _, hm⟩ := grow b hb
        exact ⟨_, hm⟩
      · exact ⟨o, stay b o hb e⟩
end
/-- what is known of the law's promise at the head's heap h -/
def LawC (l : PySem.W.OpenLaw) (w : World) (K : PySem.W.Frag) (n : Nat) (x : Str) (mg : Str → Option Value) (fa : Addr) (h : Heap) : Prop :=
  ∃ (fd : FuncData) (cs : List (Addr × Addr)) (sp : Sp), (∀ p ∈ cs, h.get? p.2 = some { cls := .none, data := .fields #[] }) ∧ (∀ p ∈ cs, K.lookup p.2 = none) ∧ (∀ p ∈ cs, PySem.W.CodeHd h p.1 p.2) ∧ (∀ (s : Shared) (u : Value), BindsTo s fd ⟨[u], []⟩ [(x, u)]) ∧
    (∀ (H : Hp) (a : Addr) (ns : List Int), ns.length ≤ n → (∀ z ∈ ns, Builtin.Int.intBits z ≤ 1048576) → (∀ p ∈ cs, H p.2 = some (.tbl #[])) → SqL K H a (ns.map V.int) → sp [.ref a] H (fun v _ => v = .bl true) fun _ _ _ => False) ∧
    ∀ base : Heap, K.In base → base.Ns mainGlobals mg → (∀ p ∈ cs, TabB base mg p.1 p.2) → FnC l.prog w K mg base fa fd [x] sp
theorem walk_ofC {l : PySem.W.OpenLaw} {n : Nat} {q : Program} {loose : List Str} {XP : (Str → Option Value) → Heap → Prop} {YP : World → Heap → Prop} {d : DefRec} {K : Params → PySem.W.Frag} {x : Str}
    (hn : l.most = some n) (hn2 : n ≤ sizeLine) (hdf : d.params.defaults = []) (hY : ∀ (w : World) (h : Heap), YP w h → (K w.params).In h)
    (F : ∀ (w : World) (mg : Str → Option Value) (fa : Addr) (h : Heap), YP w h → (K w.params).In h → h.Ns mainGlobals mg → mg d.name = some (.ref fa) → LawC l w (K w.params) n x mg fa h) :
    PySem.W.WalkO q loose XP YP l.row.toRowW d [] (fun f vs => PySem.call f vs) := by
  refine Att.attach_callB hn hdf fun w s₀ s₁ mg mb fa o pm cd doc a vs ns G Y ho hd hcd hmg hobj hints hlen hbits hg => ?_
  have KX := hY w _ Y
  obtain ⟨fd, cs, sp, hT, nT, C, hb, hsp, hF⟩ := F w mg fa _ Y KX G.T.g hmg
  exact law_callC KX G.T.g G.T.b G.T.builtins G.T.nolimit hg hT nT C G.T.bmain hobj hints (Nat.le_trans hlen hn2) hF hb fun H hH hS => hsp H a ns hlen hbits hH hS
end GX
/-! the end of a law that the caller alone calls, where the program's own defs hold generator expressions -/
namespace GX
open PySem PySem.Spec PyProof.Rows L2 GxR
/-- each def of the view q has an empty table -/
def AllTabs (q : Program) (K : PySem.W.Frag) (mg : Str → Option Value) (h : Heap) : Prop :=
  ∀ (x : Str) (f : Addr), ((recsOf q).any fun e => e.name == x) = true → mg x = some (.ref f) → LamX.OwnTab K f h
theorem walk_tabsC {l : PySem.W.OpenLaw} {n : Nat} {q : Program} {loose : List Str} {XP : (Str → Option Value) → Heap → Prop} {YP : World → Heap → Prop} {d : DefRec} {K : Params → PySem.W.Frag} {x : Str}
    (hn : l.most = some n) (hn2 : n ≤ sizeLine) (hdf : d.params.defaults = []) (hY : ∀ (w : World) (h : Heap), YP w h → (K w.params).In h)
    (F : ∀ (w : World) (mg : Str → Option Value) (fa : Addr) (h : Heap), YP w h → (K w.params).In h → h.Ns mainGlobals mg → mg d.name = some (.ref fa) → AllTabs q (K w.params) mg h → LawC l w (K w.params) n x mg fa h) :
    PySem.W.WalkO q loose XP YP l.row.toRowW d [] (fun f vs => PySem.call f vs) := by
  refine Att.attach_callB hn hdf fun w s₀ s₁ mg mb fa o pm cd doc a vs ns G Y ho hd hcd hmg hobj hints hlen hbits hg => ?_
  have KX := hY w _ Y
  have tabs : AllTabs q (K w.params) mg s₁.heap := by
    intro y f hy hf c P o1 f1 e dd ws sl i1 i2 i3 i4 i5
    obtain ⟨r, hr, hr2⟩ := List.any_eq_true.mp hy
    have nm : r.name = y := beq_iff_eq.mp hr2
    obtain ⟨a2, o2, f2, c2, P2, j1, j2, j3, j4, j5, ⟨oc, vc, t1, _, t3, t4⟩, empty⟩ := G.T.tab r hr
    rw [nm, hf] at j1
    cases j1
    have at1 := KX _ _ i1
    rw [at1] at j2
    cases j2
    rw [i2] at j3
    cases j3
    rw [i3] at j4
    cases j4
    have at2 := KX _ _ i4
    rw [at2] at t1
    cases t1
    cases t3
    rw [i5] at t4
    cases t4
    exact empty
  obtain ⟨fd, cs, sp, hT, nT, C, hb, hsp, hF⟩ := F w mg fa _ Y KX G.T.g hmg tabs
  exact law_callC KX G.T.g G.T.b G.T.builtins G.T.nolimit hg hT nT C G.T.bmain hobj hints (Nat.le_trans hlen hn2) hF hb fun H hH hS => hsp H a ns hlen hbits hH hS
end GX
namespace K20
open PySem PySem.Spec PyProof.Rows L2 QR
open GxR (TabB TabG Tabbed GenS)
/-! ### the text -/
def topS (i : Nat) : Stmt := PySem.Challenge.pw_quiltward_k22_whole_any_lines_are_read_o.main.body.getD i (.Pass ⟨0, 0, 0, 0⟩)
abbrev sWord : Stmt := topS 6
abbrev sNum : Stmt := topS 7
theorem scWord : FnScope ["text", "signs", "most"] ["text", "signs", "most"] (defScope sWord) := ⟨rfl, rfl, rfl, by decide +kernel, rfl, by decide +kernel, by decide +kernel⟩
theorem scNum : FnScope ["text", "most", "number"] ["text", "most"] (defScope sNum) := ⟨rfl, rfl, rfl, by decide +kernel, rfl, by decide +kernel, by decide +kernel⟩

/-! ### what the defs compute -/
def wordB (t z : Str) (m : Int) : Bool := decide ((1 : Int) ≤ (t.length : Int)) && (decide ((t.length : Int) ≤ m) && t.cps.toList.all fun c => decide (c ∈ z.cps.toList))
theorem tabbed_refl {P : Addr} {H : Hp} (h : TabG H P) : Tabbed P H H := ⟨h, fun _ _ => rfl⟩
theorem tabbed_trans {P : Addr} {H H1 H2 : Hp} (a : Tabbed P H H1) (b : Tabbed P H1 H2) : Tabbed P H H2 := ⟨b.1, fun x ne => (b.2 x ne).trans (a.2 x ne)⟩

section
variable {P : Program} {w : World} {K : PySem.W.Frag} {mg : Str → Option Value} {base : Heap}
/-! ### is_word -/
def spWord (T : Addr) : Sp := fun vs H Q _ => ∃ (t z : Str) (m : Int), vs = [.str t, .str z, .int m] ∧ t.length ≤ sizeLine ∧ TabG H T ∧ ∀ H', Tabbed T H H' → Q (.bl (wordB t z m)) H'
theorem ok_word {c T f : Addr} {oc kV doc pm ct : Value} {od an : Option Addr} {osl : Array (Option Value)} (lk : K.lookup f = some ⟨oc, od, .func (PySem.W.fnOf "is_word" "is_word" (defArgs sWord) (defBody sWord) (defScope sWord) .none kV doc pm an (.ref c) ct), osl⟩)
    (hcd : PySem.W.codeIn K (.ref c) "is_word" = true) (TB : TabB base mg c T) (ml : mg "len" = none) (ma : mg "all" = none) :
    FnOk P w K mg base CX0 1 f (PySem.W.fnOf "is_word" "is_word" (defArgs sWord) (defBody sWord) (defScope sWord) .none kV doc pm an (.ref c) ct) ["text", "signs", "most"] (spWord T) := by
  refine fn_of lk hcd scWord (fun vs H Q E h => ?_) fun A outer s H vs Q E hr h => ?_
  · obtain ⟨t, z, m, rfl, _⟩ := h
    rfl
  · obtain ⟨t, z, m, rfl, hl, hT, q⟩ := h
    refine ⟨_, pss_one (ps_ret (pe_and (pe_chain op_le op_le pe_int (pe_callB call_len_str (by rfl) ml PySem.boot_len (pa_cons (pv 0) pa_nil)) (pv 2))
      (pe_one (pe_allIn (i := 1) hr (by rfl) ma TB rfl ⟨rfl, rfl, by decide +kernel, by decide +kernel, by decide +kernel, ?fr⟩ (pv 0) (fun _ => rfl) rfl rfl rfl ?cl)))), ?_⟩
    case fr =>
      intro y hy e
      rcases List.mem_cons.mp hy with rfl | hy
      · cases e
      rcases List.mem_cons.mp hy with rfl | hy
      · cases e
      rcases List.mem_cons.mp hy with rfl | hy
      · exact ⟨_, rfl⟩
      · cases hy
    case cl => rfl
    refine ⟨_, rfl, t, rfl, hl, 1, (t.length : Int), rfl, rfl, _, rfl, ?_⟩
    refine ite2 (fun h1 => ?_) (fun h1 => ?_)
    · refine ⟨_, rfl, _, m, rfl, rfl, _, rfl, ite2 (fun h2 => ?_) (fun h2 => ?_)⟩
      · refine ⟨_, rfl, t, z, rfl, rfl, hT, fun H2 t2 => ?_⟩
        have e : wordB t z m = t.cps.toList.all fun c => decide (c ∈ z.cps.toList) := by
          unfold wordB
          rw [h1, h2, Bool.true_and, Bool.true_and]
        rw [← e]
        exact q H2 t2
      · have e : wordB t z m = false := by
          unfold wordB
          rw [Bool.eq_false_iff.mpr h2, Bool.false_and, Bool.and_false]
        have z0 := q H (tabbed_refl hT)
        rw [e] at z0
        exact z0
    · have e : wordB t z m = false := by
        unfold wordB
        rw [Bool.eq_false_iff.mpr h1, Bool.false_and]
      have z0 := q H (tabbed_refl hT)
      rw [e] at z0
      exact ⟨_, rfl, iteF z0⟩
end
end K20
namespace K20
open PySem PySem.Spec PyProof.Rows L2 QR TL TR
open GxR (TabB TabG Tabbed GenS)
/-! ### what the defs compute, over texts -/
def digitsS : Str := "0123456789"
theorem digits_tl : tl digitsS = [48, 49, 50, 51, 52, 53, 54, 55, 56, 57] := by decide +kernel
theorem digit_mem (c : Nat) : c ∈ tl digitsS ↔ (48 ≤ c ∧ c ≤ 57) := by
  rw [digits_tl]
  constructor
  · intro h
    simp only [List.mem_cons, List.not_mem_nil, or_false] at h
    omega
  · intro h
    simp only [List.mem_cons, List.not_mem_nil, or_false]
    omega
def optV : Option Nat → V
  | none => .non
  | some n => .int (n : Int)
theorem word_digits (t : Str) (m : Nat) : wordB t digitsS ((numL m).length : Nat) = true ↔ ¬ ((tl t).length = 0 ∨ (numL m).length < (tl t).length ∨ ¬ NumText.AllDigits (tl t)) := by
  unfold wordB
  rw [Bool.and_eq_true, Bool.and_eq_true, decide_eq_true_eq, decide_eq_true_eq, List.all_eq_true, len_tl]
  constructor
  · rintro ⟨h1, h2, h3⟩ z
    rcases z with z | z | z
    · omega
    · omega
    · exact z fun c hc => (digit_mem c).mp (of_decide_eq_true (h3 c hc))
  · intro h
    refine ⟨?_, ?_, fun c hc => decide_eq_true ((digit_mem c).mpr ?_)⟩
    · have : (tl t).length ≠ 0 := fun z => h (.inl z)
      omega
    · have : ¬ (numL m).length < (tl t).length := fun z => h (.inr (.inl z))
      omega
    · exact (Decidable.byContradiction fun z => h (.inr (.inr z)) : NumText.AllDigits (tl t)) c hc
theorem log2_small {i : Int} {n : Nat} (h : i.natAbs < 2 ^ n) (hn : 0 < n) (h2 : n ≤ 1920) : i.natAbs.log2 < 1920 := Nat.lt_of_lt_of_le (PySem.Flt.log2_lt_of hn h) h2

section
variable {P : Program} {w : World} {K : PySem.W.Frag} {mg : Str → Option Value} {base : Heap}
/-! ### read_number -/
def spNum (T : Addr) : Sp := fun vs H Q _ => ∃ (t : Str) (m : Nat), vs = [.str t, .int (m : Int)] ∧ t.length ≤ sizeLine ∧ m < 10 ^ 18 ∧ TabG H T ∧ ∀ H', Tabbed T H H' → Q (optV (readNum (tl t) m)) H'
theorem ok_num {T f fW : Addr} {fd fdW : FuncData} {td : Tok} (F : Fun K "read_number" "read_number" sNum f fd) (GW : FnOk P w K mg base CX0 1 fW fdW ["text", "signs", "most"] (spWord T)) (bW : Binds K fdW ["text", "signs", "most"] [])
    (gW : mg "is_word" = some (.ref fW)) (kW : PySem.W.keepIn K (.ref fW) = true) (gD : mg "DIGITS" = some (.str digitsS td)) (ml : mg "len" = none) (ms : mg "str" = none) (mi : mg "int" = none) :
    FnOk P w K mg base CX0 2 f fd ["text", "most"] (spNum T) := by
  refine F.ok scNum (fun vs H Q E h => ?_) (fun cdv A outer s H vs Q E hr h => ?_)
  · obtain ⟨t, m, rfl, _⟩ := h
    rfl
  · obtain ⟨t, m, rfl, hl, hm, hT, q⟩ := h
    refine ⟨_, pss_cons (ps_if (pt_not (pt_val (pe_call GW hr (by rfl) gW kW bW .nil pass0 (pa_cons (pv 0) (pa_cons (pe_glob (v := V.str digitsS) (by rfl) gD ⟨_, rfl⟩)
        (pa_cons (pe_callB call_len_str (by rfl) ml PySem.boot_len (pa_cons (pe_callTy call_str_int (by rfl) ms (by decide +kernel) (pa_cons (pv 1) pa_nil)) pa_nil)) pa_nil)))))) (pss_one (ps_ret pe_non)) pss_nil)
      (pss_cons (ps_if (PW.pt (pw_and (pt_cmpR op_eq (pe_ix ix_str (pv 0) pe_int (fun _ _ => rfl)) pe_str (nomark _)) (pw_and1 (pt_cmpR op_ne (pv 0) pe_str (nomark _))))) (pss_one (ps_ret pe_non)) pss_nil)
      (pss_cons (ps_set (i := 2) scNum.nd rfl (.inl rfl) (pe_callTy call_int_str (by rfl) mi (by decide +kernel) (pa_cons (pv 0) pa_nil)))
      (pss_one (ps_ret (pe_ifExp (pt_cmpR op_le (pv 2) (pv 1) (nomark _)) (pv 2) pe_non))))), ?_⟩
    have p18 : (10 : Nat) ^ 18 < 2 ^ 60 := by decide
    have lm : (numL m).length ≤ 18 := numL_len (by decide) hm
    have em : (Str.ofString (toString (m : Int))).length = (numL m).length := by rw [len_tl, tl_num]
    refine ⟨_, rfl, _, rfl, (m : Int), rfl, log2_small (n := 60) (by omega) (by decide) (by decide), _, rfl, ?_, t, digitsS, _, rfl, hl, hT, fun H1 t1 => ?_⟩
    · rw [sizeLine_eq, em]
      omega
    rw [em]
    refine ⟨_, rfl, ?_⟩
    have qq := q H1 t1
    have wd := word_digits t m
    cases hw : wordB t digitsS ((numL m).length : Nat) with
    | false =>
      have bad : (tl t).length = 0 ∨ (numL m).length < (tl t).length ∨ ¬ NumText.AllDigits (tl t) := Decidable.byContradiction fun z => by
        have := wd.mpr z
        rw [hw] at this
        cases this
      have e : readNum (tl t) m = none := if_pos bad
      rw [e] at qq
      exact iteT qq
    | true =>
      have good := wd.mp hw
      refine iteF ?_
      obtain ⟨c, r, et⟩ : ∃ c r, tl t = c :: r := by
        cases h0 : tl t with
        | nil => exact absurd (.inl (by rw [h0]; rfl)) good
        | cons c r => exact ⟨c, r, rfl⟩
      have len1 : (tl t).length ≤ (numL m).length := Decidable.byContradiction fun z => good (.inr (.inl (by omega)))
      have dig : NumText.AllDigits (tl t) := Decidable.byContradiction fun z => good (.inr (.inr z))
      have hd0 : (tl t).head? = some c := by
        rw [et]
        rfl
      refine ⟨_, rfl, t, 0, c, rfl, rfl, hl, ?_, rfl, _, rfl, ?_⟩
      · show atI (tl t) ((0 : Nat) : Int) = some c
        rw [et]
        exact atI_nat rfl
      have sg : ∀ a : Nat, (V.str ⟨#[a]⟩ = V.str (Str.ofString "0")) ↔ a = 48 := fun a => by
        constructor
        · intro e
          have e2 : (⟨#[a]⟩ : Str) = Str.ofString "0" := V.str.inj e
          have e3 := congrArg tl e2
          rw [show tl (Str.ofString "0") = [48] by decide +kernel] at e3
          exact List.cons.inj e3 |>.1
        · intro e
          rw [e, show Str.ofString "0" = ⟨#[48]⟩ by decide +kernel]
      have sz : (V.str t = V.str (Str.ofString "0")) ↔ tl t = [48] := by
        constructor
        · intro e
          rw [V.str.inj e]
          decide +kernel
        · intro e
          exact congrArg V.str (ext_tl (e.trans (by decide +kernel)))
      have val := PySem.intText_digits (x := t) dig (by rw [show t.cps.toList = c :: r from et]; simp) (by rw [len_tl]; omega)
      by_cases hz : c = 48 ∧ tl t ≠ [48]
      · have e : readNum (tl t) m = none := (if_neg good).trans (if_pos ⟨by rw [hd0, hz.1], hz.2⟩)
        rw [e] at qq
        rw [decide_eq_true ((sg c).mpr hz.1)]
        refine iteT ⟨_, rfl, rfl, _, rfl, ?_⟩
        rw [decide_eq_false fun y => hz.2 (sz.mp y)]
        exact iteT qq
      · have e : readNum (tl t) m = if NumText.digitsVal (tl t) ≤ m then some (NumText.digitsVal (tl t)) else none := (if_neg good).trans (if_neg fun y => hz ⟨by
          have := y.1
          rw [hd0] at this
          exact Option.some.inj this, y.2⟩)
        rw [e] at qq
        by_cases h48 : c = 48
        · have h1 : tl t = [48] := Decidable.byContradiction fun y => hz ⟨h48, y⟩
          rw [decide_eq_true ((sg c).mpr h48)]
          refine iteT ⟨_, rfl, rfl, _, rfl, ?_⟩
          rw [decide_eq_true (sz.mpr h1)]
          refine iteF ?_
          refine ⟨_, rfl, t, _, rfl, val, by rw [len_tl]; omega, ?_⟩
          refine ⟨_, rfl, _, rfl, _, _, rfl, rfl, _, rfl, ite2 (fun y => ?_) (fun y => ?_)⟩
          · have y1 : ((NumText.digitsVal (tl t) : Nat) : Int) ≤ (m : Int) := of_decide_eq_true y
            rw [if_pos (by omega)] at qq
            exact ⟨_, rfl, qq⟩
          · have y1 : ¬ ((NumText.digitsVal (tl t) : Nat) : Int) ≤ (m : Int) := fun z => y (decide_eq_true z)
            rw [if_neg (by omega)] at qq
            exact qq
        · rw [decide_eq_false fun y => h48 ((sg c).mp y)]
          refine iteF (iteF ?_)
          refine ⟨_, rfl, t, _, rfl, val, by rw [len_tl]; omega, ?_⟩
          refine ⟨_, rfl, _, rfl, _, _, rfl, rfl, _, rfl, ite2 (fun y => ?_) (fun y => ?_)⟩
          · have y1 : ((NumText.digitsVal (tl t) : Nat) : Int) ≤ (m : Int) := of_decide_eq_true y
            rw [if_pos (by omega)] at qq
            exact ⟨_, rfl, qq⟩
          · have y1 : ¬ ((NumText.digitsVal (tl t) : Nat) : Int) ≤ (m : Int) := fun z => y (decide_eq_true z)
            rw [if_neg (by omega)] at qq
            exact qq
end
end K20
namespace K20
open PySem PySem.Spec PyProof.Rows L2
abbrev sState : Stmt := topS 44
abbrev sDraw : Stmt := topS 45
abbrev sPick : Stmt := topS 46
theorem scState : FnScope ["script", "seed", "cell"] ["script"] (defScope sState) := ⟨rfl, rfl, rfl, by decide +kernel, rfl, by decide +kernel, by decide +kernel⟩
theorem scDraw : FnScope ["state", "many", "cells", "value", "mixed"] ["state", "many"] (defScope sDraw) := ⟨rfl, rfl, rfl, by decide +kernel, rfl, by decide +kernel, by decide +kernel⟩
theorem scPick : FnScope ["state", "row"] ["state", "row"] (defScope sPick) := ⟨rfl, rfl, rfl, by decide +kernel, rfl, by decide +kernel, by decide +kernel⟩
/-! ### the state of the draws: a list of a list and a number -/
structure StateAt (H : Hp) (p c : Addr) : Prop where
  ex : ∃ (seed : Int) (ms : List Int), H p = some (.lst [.ref c, .int seed]) ∧ H c = some (.lst (ms.map V.int)) ∧ ms.length ≤ 63 ∧ (∀ m ∈ ms, 0 ≤ m) ∧ 0 ≤ seed ∧ seed < 4294967296
  ne : p ≠ c
/-- only the state has changed -/
def Drawn (p c : Addr) (H H' : Hp) : Prop := ∀ b, b ≠ p → b ≠ c → H' b = H b
theorem drawn_refl {p c : Addr} {H : Hp} : Drawn p c H H := fun _ _ _ => rfl
theorem drawn_trans {p c : Addr} {H H1 H2 : Hp} (a : Drawn p c H H1) (b : Drawn p c H1 H2) : Drawn p c H H2 := fun x h1 h2 => (b x h1 h2).trans (a x h1 h2)
theorem StateAt.mono {H H' : Hp} {p c : Addr} (s : StateAt H p c) (hp : ∀ o, H p = some o → H' p = some o) (hc : ∀ o, H c = some o → H' c = some o) : StateAt H' p c := by
  obtain ⟨⟨seed, ms, h1, h2, h3⟩, ne⟩ := s
  exact ⟨⟨seed, ms, hp _ h1, hc _ h2, h3⟩, ne⟩
section
variable {P : Program} {w : World} {K : PySem.W.Frag} {mg : Str → Option Value} {base : Heap}
/-! ### _law_state -/
def spState (K : PySem.W.Frag) : Sp := fun vs H Q _ => ∃ (a : Addr) (ns : List Int), vs = [.ref a] ∧ SqL K H a (ns.map V.int) ∧ ns.length ≤ 63 ∧
  ∀ H' p c, Same H H' → H p = none → H c = none → StateAt H' p c → Q (.ref p) H'
theorem abs_nn (z : Int) : 0 ≤ (if z < 0 then -z else z) := by
  split <;> omega
theorem ok_state {f : Addr} {fd : FuncData} (F : Fun K "_law_state" "_law_state" sState f fd) (ma : mg "abs" = none) (mi : mg "int" = none) : FnOk P w K mg base CX0 1 f fd ["script"] (spState K) := by
  refine F.ok scState (fun vs H Q E h => ?_) (fun cdv A outer s H vs Q E hr h => ?_)
  · obtain ⟨a, ns, rfl, _⟩ := h
    rfl
  · obtain ⟨a, ns, rfl, hS, hl, q⟩ := h
    refine ⟨_, pss_cons (ps_set (i := 1) scState.nd rfl (.inl rfl) pe_int)
      (pss_cons (ps_for PassesOwn.never rfl (pi_list (pv 0)) (pg_name (i := 2) scState.nd rfl (.inl rfl))
        (pss_one (ps_set (i := 1) scState.nd rfl (.inl rfl) (pe_op op_mod (pe_callTy call_int1 (by rfl) mi (by decide +kernel) (pa_cons (pe_op op_add (pe_op op_mul (pv 1) pe_int) (pv 2)) pa_nil)) pe_int))))
      (pss_one (ps_ret (pe_lst (pa_cons (pe_lc (own := [("cell", 2)]) (g := gName 2) (tt := tYes) rfl scState.nd (pi_list (pv 0)) (blkOk_by (N := ["script", "seed", "cell"]) (sc := defScope sState) (by decide +kernel))
          (fun _ _ _ _ _ => pg_name (i := 2) scState.nd rfl (Or.inl rfl)) (fun _ _ _ _ _ => pts_nil) (fun _ _ _ _ _ => pe_callB call_abs (by rfl) ma (by decide +kernel) (pa_cons (pv 2) pa_nil)))
        (pa_cons (pe_op op_add (pv 1) pe_int) pa_nil)))))), ?_⟩
    refine ⟨.ref a, rfl, a, rfl, ⟨_, hS⟩, for_list (xs := ns.map V.int) (fun i σ H' => ∃ (z : Int) (y : Option V), σ = [some (.ref a), some (.int z), y] ∧ 0 ≤ z ∧ z < 1000003 ∧ H' = H) ⟨7, none, rfl, by omega, by omega, rfl⟩ ?_ ?_ ?_⟩
    · rintro i σ H' _ ⟨z, y, _, _, _, rfl⟩
      exact hS
    · rintro i x σ H' hx ⟨z, y, rfl, h0, h1, rfl⟩
      obtain ⟨n, _, rfl⟩ := List.mem_map.mp (List.mem_of_getElem? hx)
      refine ⟨_, rfl, _, _, rfl, rfl, .inl ⟨by omega, by omega⟩, _, rfl, _, _, rfl, rfl, .inl ⟨_, rfl, _, _, rfl, rfl, by show (0 : Int) < 1000003; decide, ?_⟩⟩
      exact ⟨_, _, rfl, Int.emod_nonneg _ (by decide), Int.emod_lt_of_pos _ (by decide), rfl⟩
    · rintro σ H' ⟨z, y, rfl, h0, h1, rfl⟩
      refine ⟨.ref a, rfl, a, rfl, ⟨_, hS⟩, fun D nD => ?_⟩
      refine lc_list (xs := ns.map V.int) (fun i H2 => H2 = upd H' D (.lst (((ns.take i).map fun n => if n < 0 then -n else n).map V.int))) rfl ?_ ?_ ?_
      · rintro i H2 _ rfl
        exact Same.seq (fun b o e => by rw [upd_ne (ne_of_none e nD)]; exact e) hS
      · rintro i x H2 hx rfl
        have hx2 : (ns.map V.int)[i]? = some x := hx
        rw [List.getElem?_map] at hx2
        obtain ⟨n, hn, rfl⟩ := Option.map_eq_some_iff.mp hx2
        refine ⟨rfl, ?_⟩
        refine ⟨_, rfl, n, rfl, _, upd_same, ?_, ?_⟩
        · rw [List.length_map, List.length_map, List.length_take, sizeLine_eq]
          omega
        · rw [upd_upd, List.take_add_one, hn, List.map_append, List.map_append]
          rfl
      · rintro H2 rfl
        refine ⟨_, rfl, _, _, rfl, rfl, by show 2 ≤ sizeLine; rw [sizeLine_eq]; decide, fun p np => ?_⟩
        have eD : (upd H' D (.lst (((ns.take (ns.map V.int).length).map fun n => if n < 0 then -n else n).map V.int))) D = _ := upd_same
        have nDp : D ≠ p := ne_of_none eD np
        have np0 : H' p = none := by
          rw [← np, upd_ne (Ne.symm nDp)]
        refine q _ p D (fun b o e => ?_) np0 nD ⟨⟨z + 1, (ns.take (ns.map V.int).length).map fun n => if n < 0 then -n else n, upd_same, ?_, ?_, ?_, by omega, by omega⟩, Ne.symm nDp⟩
        · rw [upd_ne (ne_of_none e np0), upd_ne (ne_of_none e nD)]
          exact e
        · rw [upd_ne nDp]
          exact upd_same
        · rw [List.length_map, List.length_take]
          omega
        · intro m hm
          obtain ⟨n, _, rfl⟩ := List.mem_map.mp hm
          exact abs_nn n
end
end K20
namespace K20
open PySem PySem.Spec PyProof.Rows L2
theorem seq0 {n : Nat} (h : 0 < n) : seqIndex? 0 n = some 0 := by
  unfold seqIndex?
  simp [h]
theorem ix0 {n : Nat} (h : 0 < n) : ixN n 0 = some 0 := by
  unfold ixN
  simp [h]
section
variable {P : Program} {w : World} {K : PySem.W.Frag} {mg : Str → Option Value} {base : Heap}
/-! ### _law_draw -/
def spDraw : Sp := fun vs H Q _ => ∃ (p c : Addr) (m : Nat), vs = [.ref p, .int (m : Int)] ∧ m < 1000000000 ∧ StateAt H p c ∧
  ∀ H' (r : Nat), (m = 0 → r = 0) → (0 < m → r < m) → StateAt H' p c → Drawn p c H H' → Q (.int (r : Int)) H'
theorem ok_draw {f : Addr} {fd : FuncData} (F : Fun K "_law_draw" "_law_draw" sDraw f fd) (ml : mg "len" = none) (mi : mg "int" = none) : FnOk P w K mg base CX0 1 f fd ["state", "many"] spDraw := by
  refine F.ok scDraw (fun vs H Q E h => ?_) (fun cdv A outer s H vs Q E hr h => ?_)
  · obtain ⟨p, c, m, rfl, _⟩ := h
    rfl
  · obtain ⟨p, c, m, rfl, hm, ⟨⟨seed, ms, hp, hc, hl, h0, s0, s1⟩, npc⟩, q⟩ := h
    refine ⟨_, (pss_cons (ps_if (pt_cmpR op_lt (pv 1) pe_int (nomark _)) (pss_one (ps_ret pe_int)) pss_nil)
      (pss_cons (ps_set (i := 2) scDraw.nd rfl (.inl rfl) (pe_ix ix_list (pv 0) pe_int (fun _ _ => rfl)))
      (pss_cons (ps_while PassesOwn.never (PW.pt (pw_and (pt_cmpR op_gt (pe_callB call_len_seq (by rfl) ml PySem.boot_len (pa_cons (pv 2) pa_nil)) pe_int (nomark _)) (pw_and1 (pt_cmpR op_eq (pe_ix ix_list (pv 2) pe_int (fun _ _ => rfl)) pe_int (nomark _)))))
        (pss_one (ps_expr (pe_bm PySem.F.plainAttrs_list PySem.F.slot_list_pop PySem.F.type_list_pop mt_popAt (pv 2) (pa_cons pe_int pa_nil)))))
      (pss_cons (ps_if (pt_cmpR op_gt (pe_callB call_len_seq (by rfl) ml PySem.boot_len (pa_cons (pv 2) pa_nil)) pe_int (nomark _))
        (pss_cons (ps_set (i := 3) scDraw.nd rfl (.inl rfl) (pe_ix ix_list (pv 2) pe_int (fun _ _ => rfl)))
      (pss_cons (ps_asg (pe_op op_fdiv (pv 3) (pv 1)) (pg_sub (pv 2) pe_int set_list))
      (pss_one (ps_ret (pe_op op_mod (pe_callTy call_int1 (by rfl) mi (by decide +kernel) (pa_cons (pv 3) pa_nil)) (pv 1)))))) pss_nil)
      (pss_cons (ps_set (i := 4) scDraw.nd rfl (.inl rfl) (pe_op op_mod (pe_callTy call_int1 (by rfl) mi (by decide +kernel) (pa_cons (pe_op op_add (pe_op op_mul (pe_ix ix_list (pv 0) pe_int (fun _ _ => rfl)) pe_int) pe_int) pa_nil)) pe_int))
      (pss_cons (ps_asg (pv 4) (pg_sub (pv 0) pe_int set_list))
      (pss_one (ps_ret (pe_op op_mod (pe_callTy call_int1 (by rfl) mi (by decide +kernel) (pa_cons (pe_op op_fdiv (pv 4) pe_int) pa_nil)) (pv 1)))))))))), ?_⟩
    refine ⟨_, rfl, _, _, rfl, rfl, _, rfl, ite2 (fun h1 => ?_) (fun h1 => ?_)⟩
    · have m0 : m = 0 := by
        have := of_decide_eq_true h1
        omega
      exact q H 0 (fun _ => rfl) (fun z => by omega) ⟨⟨seed, ms, hp, hc, hl, h0, s0, s1⟩, npc⟩ drawn_refl
    have mp : 0 < m := by
      have : ¬ ((m : Nat) : Int) < 1 := fun z => h1 (decide_eq_true z)
      omega
    refine ⟨_, rfl, p, _, 0, _, rfl, rfl, SqL.of hp, atI_nat (j := 0) rfl, ?_⟩
    -- while
    refine ⟨fun n σ H' => ∃ ks : List Int, σ = [some (.ref p), some (.int (m : Int)), some (.ref c), none, none] ∧ n = ks.length ∧ Drawn p c H H' ∧ H' p = some (.lst [.ref c, .int seed]) ∧ H' c = some (.lst (ks.map V.int)) ∧ ks.length ≤ 63 ∧ (∀ k ∈ ks, 0 ≤ k),
      ⟨ms.length, ms, rfl, rfl, drawn_refl, hp, hc, hl, h0⟩, ?_⟩
    rintro n σ H' ⟨ks, rfl, rfl, dr, hp', hc', hl', h0'⟩
    refine ⟨_, rfl, c, _, rfl, .inl (SqL.of hc'), _, _, rfl, rfl, _, rfl, ite2 (fun h2 => ?_) (fun h2 => ?_)⟩
    · obtain ⟨k, r, rfl⟩ : ∃ k r, ks = k :: r := by
        cases ks with
        | nil =>
          have := of_decide_eq_true h2
          exact absurd this (by decide)
        | cons k r => exact ⟨k, r, rfl⟩
      refine ⟨_, rfl, c, _, 0, .int k, rfl, rfl, SqL.of hc', atI_nat (j := 0) rfl, rfl, _, rfl, ite2 (fun h3 => ?_) (fun h3 => ?_)⟩
      · refine ⟨fun σ' H2 => ∃ n', n' < (k :: r).length ∧ ∃ ks : List Int, σ' = [some (.ref p), some (.int (m : Int)), some (.ref c), none, none] ∧ n' = ks.length ∧ Drawn p c H H2 ∧ H2 p = some (.lst [.ref c, .int seed]) ∧ H2 c = some (.lst (ks.map V.int)) ∧ ks.length ≤ 63 ∧ (∀ k ∈ ks, 0 ≤ k), fun _ _ z => z, ?_⟩
        refine ⟨_, rfl, .inl ⟨rfl, _, SqL.of hc'⟩, c, _, 0, 0, .int k, rfl, rfl, hc', by decide, by decide, ?_, rfl, ?_⟩
        · show seqIndex? 0 ((k :: r).map V.int).length = some 0
          show seqIndex? 0 (((k :: r).map V.int).length) = some 0
          exact seq0 (by rw [List.length_map, List.length_cons]; omega)
        · refine ⟨r.length, by show r.length < r.length + 1; omega, r, rfl, rfl, ?_, ?_, ?_, ?_, ?_⟩
          · intro b h1 h2
            rw [upd_ne h2]
            exact dr b h1 h2
          · rw [upd_ne npc]
            exact hp'
          · exact upd_same
          · have : r.length + 1 ≤ 63 := hl'
            omega
          · exact fun x hx => h0' x (List.mem_cons_of_mem _ hx)
      · have kne : k ≠ 0 := fun z => h3 (by rw [z]; rfl)
        have k1 := h0' k List.mem_cons_self
        refine ⟨_, rfl, c, _, rfl, .inl (SqL.of hc'), _, _, rfl, rfl, _, rfl, ite2 (fun _ => ?_) (fun z => absurd h2 z)⟩
        refine ⟨_, rfl, c, _, 0, .int k, rfl, rfl, SqL.of hc', atI_nat (j := 0) rfl, ?_⟩
        refine ⟨_, rfl, _, rfl, k, (m : Int), rfl, rfl, ⟨by omega, by omega⟩, _, rfl, c, _, 0, 0, rfl, rfl, hc', ix0 (by rw [List.length_map, List.length_cons]; omega), ?_⟩
        refine ⟨_, rfl, .inl ⟨_, rfl, _, rfl, _, _, rfl, rfl, by show (0 : Int) < (m : Int); omega, ?_⟩⟩
        have e1 : k % (m : Int) = (((k % (m : Int)).toNat : Nat) : Int) := (Int.toNat_of_nonneg (Int.emod_nonneg _ (by omega))).symm
        have e2 := Int.emod_lt_of_pos k (show (0 : Int) < (m : Int) by omega)
        show Q (V.int (k % (m : Int))) _
        rw [e1]
        refine q _ _ (fun z => by omega) (fun _ => by omega) ⟨⟨seed, (k / (m : Int)) :: r, ?_, ?_, hl', ?_, s0, s1⟩, npc⟩ ?_
        · rw [upd_ne npc]
          exact hp'
        · exact upd_same
        · intro x hx
          rcases List.mem_cons.mp hx with rfl | hx
          · exact Int.ediv_nonneg k1 (by omega)
          · exact h0' x (List.mem_cons_of_mem _ hx)
        · intro b z1 z2
          rw [upd_ne z2]
          exact dr b z1 z2
    · have e0 : ks = [] := by
        cases ks with
        | nil => rfl
        | cons k r => exact absurd (decide_eq_true (show (0 : Int) < (((k :: r).map V.int).length : Int) by rw [List.length_map, List.length_cons]; omega)) h2
      subst e0
      refine ⟨_, rfl, c, _, rfl, .inl (SqL.of hc'), _, _, rfl, rfl, _, rfl, ite2 (fun z => absurd z h2) (fun _ => ?_)⟩
      refine ⟨_, rfl, p, _, 1, _, rfl, rfl, SqL.of hp', atI_nat (j := 1) rfl, _, _, rfl, rfl, .inl ⟨by omega, by omega⟩, _, _, rfl, rfl, .inl ⟨_, rfl, _, _, rfl, rfl, by show (0 : Int) < 2147483647; decide, ?_⟩⟩
      have b0 := Int.emod_nonneg (seed * 48271 + 12345) (show (2147483647 : Int) ≠ 0 by decide)
      have b1 := Int.emod_lt_of_pos (seed * 48271 + 12345) (show (0 : Int) < 2147483647 by decide)
      refine ⟨_, rfl, _, rfl, p, _, 1, 1, rfl, rfl, hp', rfl, ?_⟩
      refine ⟨_, rfl, _, _, rfl, rfl, ⟨by show (0 : Int) < 64; decide, by show (64 : Int) < 1073741824; decide⟩, .inl ⟨_, rfl, _, rfl, _, _, rfl, rfl, by show (0 : Int) < (m : Int); omega, ?_⟩⟩
      have e1 : (seed * 48271 + 12345) % 2147483647 / 64 % (m : Int) = ((((seed * 48271 + 12345) % 2147483647 / 64 % (m : Int)).toNat : Nat) : Int) := (Int.toNat_of_nonneg (Int.emod_nonneg _ (by omega))).symm
      have e2 := Int.emod_lt_of_pos ((seed * 48271 + 12345) % 2147483647 / 64) (show (0 : Int) < (m : Int) by omega)
      show Q (V.int ((seed * 48271 + 12345) % 2147483647 / 64 % (m : Int))) _
      rw [e1]
      refine q _ _ (fun z => by omega) (fun _ => by omega) ⟨⟨(seed * 48271 + 12345) % 2147483647, [], upd_same, ?_, by decide, (fun x hx => nomatch hx), b0, by omega⟩, npc⟩ ?_
      · rw [upd_ne (Ne.symm npc)]
        exact hc'
      · intro b z1 z2
        rw [upd_ne z1]
        exact dr b z1 z2
/-! ### _law_pick -/
def spPick : Sp := fun vs H Q _ => ∃ (p c a : Addr) (xs : List V), vs = [.ref p, .ref a] ∧ H a = some (.lst xs) ∧ a ≠ p ∧ a ≠ c ∧ 0 < xs.length ∧ xs.length < 1000 ∧ StateAt H p c ∧
  ∀ H' v, v ∈ xs → StateAt H' p c → Drawn p c H H' → Q v H'
theorem ok_pick {f fD : Addr} {fd fdD : FuncData} (F : Fun K "_law_pick" "_law_pick" sPick f fd) (GD : FnOk P w K mg base CX0 1 fD fdD ["state", "many"] spDraw) (bD : Binds K fdD ["state", "many"] []) (gD : mg "_law_draw" = some (.ref fD)) (kD : PySem.W.keepIn K (.ref fD) = true) (ml : mg "len" = none) :
    FnOk P w K mg base CX0 2 f fd ["state", "row"] spPick := by
  refine F.ok scPick (fun vs H Q E h => ?_) (fun cdv A outer s H vs Q E hr h => ?_)
  · obtain ⟨p, c, a, xs, rfl, _⟩ := h
    rfl
  · obtain ⟨p, c, a, xs, rfl, ha, np, nc, l0, l1, st, q⟩ := h
    refine ⟨_, (pss_one (ps_ret (pe_ix ix_list (pv 1) (pe_call GD hr (by rfl) gD kD bD .nil pass0 (pa_cons (pv 0) (pa_cons (pe_callB call_len_seq (by rfl) ml PySem.boot_len (pa_cons (pv 1) pa_nil)) pa_nil))) (fun _ _ => rfl)))), ?_⟩
    refine ⟨_, rfl, _, rfl, _, rfl, a, _, rfl, .inl (SqL.of ha), p, c, xs.length, rfl, by omega, st, fun H' r _ hr2 st' dr => ?_⟩
    have lt := hr2 l0
    have ha' : H' a = some (.lst xs) := (dr a np nc).trans ha
    refine ⟨a, _, _, xs[r], rfl, rfl, SqL.of ha', atI_nat (List.getElem?_eq_getElem lt), ?_⟩
    exact q H' _ (List.getElem_mem lt) st' dr
end
end K20
namespace GX
open PySem PySem.Spec PyProof.Rows L2 GxR
theorem wk_str {d : Bool} {x : Str} {g : TG} {tt : TT} {te : TE} {vs : List Nat} {σ : L2.St} {Qe Qd : Hp → Prop} {H0 : Hp} (Pv : Nat → Hp → Prop) (h0 : Pv 0 H0)
    (hs : ∀ i c H, x.cps.toList[i]? = some c → Pv i H → g (.str ⟨#[c]⟩) (wipe σ vs) H fun σ2 H2 => wipe σ2 vs = wipe σ vs ∧ tt σ2 H2 fun b H3 =>
      if b = true then te σ2 H3 fun y H4 => ∃ c, y = .bl c ∧ if c = d then Qd H4 else Pv (i + 1) H4 else Pv (i + 1) H3) (hd : ∀ H, Pv x.cps.toList.length H → Qe H) :
    ∃ W : Nat → Nat → Hp → Prop, (∃ m, W 0 m H0) ∧ Wk d (Its x) g tt te vs σ W Qe Qd := by
  refine ⟨fun i m H => m = x.cps.size - i ∧ i ≤ x.cps.size ∧ Pv i H, ⟨x.cps.size, by simp, Nat.zero_le _, h0⟩, ?_⟩
  rintro i m H ⟨rfl, hi, p⟩
  by_cases hlt : i < x.cps.size
  · refine .inr ⟨hlt, Pv (i + 1), fun H' p' => ⟨x.cps.size - (i + 1), by omega, rfl, hlt, p'⟩, fun v H' y => ?_⟩
    obtain ⟨rfl, c, hc, rfl⟩ := y
    exact hs i c _ (by rw [Array.getElem?_toList]; exact hc) p
  · have e : i = x.cps.size := by omega
    subst e
    exact .inl ⟨Nat.le_refl _, hd H p⟩
theorem wk_tup {d : Bool} {K : PySem.W.Frag} {a : Addr} {xs : List V} {g : TG} {tt : TT} {te : TE} {vs : List Nat} {σ : L2.St} {Qe Qd : Hp → Prop} {H0 : Hp} (Pv : Nat → Hp → Prop) (h0 : Pv 0 H0) (hl : ∀ i H, i ≤ xs.length → Pv i H → SqT K H a xs)
    (hs : ∀ i x H, xs[i]? = some x → Pv i H → g x (wipe σ vs) H fun σ2 H2 => wipe σ2 vs = wipe σ vs ∧ tt σ2 H2 fun b H3 =>
      if b = true then te σ2 H3 fun y H4 => ∃ c, y = .bl c ∧ if c = d then Qd H4 else Pv (i + 1) H4 else Pv (i + 1) H3) (hd : ∀ H, Pv xs.length H → Qe H) :
    ∃ W : Nat → Nat → Hp → Prop, (∃ m, W 0 m H0) ∧ Wk d (Itt K a) g tt te vs σ W Qe Qd := by
  refine ⟨fun i m H => m = xs.length - i ∧ i ≤ xs.length ∧ Pv i H, ⟨xs.length, by simp, Nat.zero_le _, h0⟩, ?_⟩
  rintro i m H ⟨rfl, hi, p⟩
  have q := hl i H hi p
  by_cases hlt : i < xs.length
  · refine .inr ⟨⟨xs, xs[i], q, by simp [hlt]⟩, Pv (i + 1), fun H' p' => ⟨xs.length - (i + 1), by omega, rfl, hlt, p'⟩, fun x H' y => ?_⟩
    obtain ⟨rfl, e⟩ := y
    exact hs i x _ (e xs q) p
  · have e : i = xs.length := by omega
    subst e
    exact .inl ⟨⟨xs, q, Nat.le_refl _⟩, hd H p⟩
end GX
namespace K20
open PySem PySem.Spec PyProof.Rows L2 TL TR QR
open GxR (TabB TabG Tabbed)
theorem zl : 2000000 ≤ sizeLine := by
  rw [sizeLine_eq]
  decide
theorem same_new {a : Addr} {H : Hp} {o : HO} (e : H a = none) : Same H (upd H a o) := fun b o' e' => by
  rw [upd_ne (ne_of_none e' e)]
  exact e'
theorem same_upd {a : Addr} {H H1 : Hp} {o : HO} (e : H a = none) (s : Same H H1) : Same H (upd H1 a o) := fun b o' e' => by
  rw [upd_ne (ne_of_none e' e)]
  exact s b o' e'
theorem same_trans {H H1 H2 : Hp} (a : Same H H1) (b : Same H1 H2) : Same H H2 := fun x o e => b x o (a x o e)
theorem same_none {H H' : Hp} {a : Addr} (s : Same H H') (n : H' a = none) : H a = none := by
  cases e : H a with
  | none => rfl
  | some o =>
    rw [s a o e] at n
    cases n
theorem same_refl {H : Hp} : Same H H := fun _ _ e => e
theorem ixN_nat {n j : Nat} (h : j < n) : ixN n (j : Int) = some j := by
  unfold ixN
  rw [if_pos (by omega), if_pos (by omega), Int.toNat_natCast]
theorem atI_s {α : Type} {xs : List α} {j : Nat} {v : α} (h : xs[j + 1]? = some v) : atI xs ((j : Int) + 1) = some v := by
  have := atI_nat h
  rw [Int.natCast_add] at this
  exact this
theorem atI_end {α : Type} {xs : List α} {v : α} (h : xs[xs.length - 1]? = some v) : atI xs (-1) = some v := by
  have l := (List.getElem?_eq_some_iff.mp h).1
  have e : ixN xs.length (-1) = some (xs.length - 1) := by
    unfold ixN
    rw [if_neg (by decide), if_pos (by omega)]
    congr 1
    omega
  unfold atI
  rw [e]
  exact h
def lnV : Option Str → V
  | none => .non
  | some s => .str s
theorem scal_ln (x : Option Str) (y : Str) : scal (lnV x) (.str y) = true := by
  cases x <;> rfl
theorem dec_ln (x : Option Str) (y : Str) : decide (lnV x = V.str y) = decide (x = some y) := by
  cases x with
  | none => rfl
  | some s =>
    rw [Bool.eq_iff_iff]
    simp [lnV]
theorem get_map {α β : Type} {l : List α} {i : Nat} {x : α} (f : α → β) (h : l[i]? = some x) : (l.map f)[i]? = some (f x) := by
  rw [List.getElem?_map, h]
  rfl
theorem map_get {α β : Type} {l : List α} {i : Nat} {y : β} {f : α → β} (h : (l.map f)[i]? = some y) : ∃ x, l[i]? = some x ∧ f x = y := by
  rw [List.getElem?_map] at h
  exact Option.map_eq_some_iff.mp h
theorem flat_rep {α : Type} (n : Nat) (v : α) : (List.replicate n [v]).flatten = (List.range n).map fun _ => v := by
  induction n with
  | zero => rfl
  | succ n ih =>
    rw [List.replicate_succ', List.flatten_append, ih, List.range_succ, List.map_append]
    rfl
theorem upd_self {H : Hp} {a : Addr} {o : HO} (h : H a = some o) : upd H a o = H := by
  funext b
  by_cases e : b = a
  · rw [e, upd_same, h]
  · rw [upd_ne e]
theorem to_dec {R : Bool → Hp → Prop} {H : Hp} {x y : Bool} (e : x = y) (h : R y H) : R x H := e ▸ h
/-- a test of two parts; the parts may lay new objects -/
theorem and_dec {tA tB : TT} {σ : L2.St} {H : Hp} {Q : Bool → Hp → Prop} {p q : Prop} [Decidable p] [Decidable q] (hA : ∀ R : Bool → Hp → Prop, (∀ H1, Same H H1 → R (decide p) H1) → tA σ H R)
    (hB : p → ∀ H1, Same H H1 → ∀ R : Bool → Hp → Prop, (∀ H2, Same H1 H2 → R (decide q) H2) → tB σ H1 R) (h : ∀ H2, Same H H2 → Q (decide (p ∧ q)) H2) : tAnd tA tB σ H Q := by
  refine hA _ fun H1 s1 => ?_
  by_cases hp : p
  · show if decide p = true then tB σ H1 Q else Q false H1
    rw [decide_eq_true hp]
    refine hB hp H1 s1 Q fun H2 s2 => ?_
    have := h H2 (same_trans s1 s2)
    rw [show decide (p ∧ q) = decide q from decide_eq_decide.mpr ⟨fun z => z.2, fun z => ⟨hp, z⟩⟩] at this
    exact this
  · show if decide p = true then tB σ H1 Q else Q false H1
    rw [decide_eq_false hp]
    have := h H1 s1
    rw [decide_eq_false (fun z => hp z.1)] at this
    exact this
theorem or_dec {tA tB : TT} {σ : L2.St} {H : Hp} {Q : Bool → Hp → Prop} {p q : Prop} [Decidable p] [Decidable q] (hA : ∀ R : Bool → Hp → Prop, (∀ H1, Same H H1 → R (decide p) H1) → tA σ H R)
    (hB : ¬ p → ∀ H1, Same H H1 → ∀ R : Bool → Hp → Prop, (∀ H2, Same H1 H2 → R (decide q) H2) → tB σ H1 R) (h : ∀ H2, Same H H2 → Q (decide (p ∨ q)) H2) : tOr tA tB σ H Q := by
  refine hA _ fun H1 s1 => ?_
  by_cases hp : p
  · show if decide p = true then Q true H1 else tB σ H1 Q
    rw [decide_eq_true hp]
    have := h H1 s1
    rw [decide_eq_true (Or.inl hp)] at this
    exact this
  · show if decide p = true then Q true H1 else tB σ H1 Q
    rw [decide_eq_false hp]
    refine hB hp H1 s1 Q fun H2 s2 => ?_
    have := h H2 (same_trans s1 s2)
    rw [show decide (p ∨ q) = decide q from decide_eq_decide.mpr ⟨fun z => z.resolve_left hp, fun z => .inr z⟩] at this
    exact this
theorem dec_lt {α : Type} {i : Nat} {l : List α} {f : α → V} : decide ((i : Int) < ((l.map f).length : Int)) = decide (i < l.length) := by
  rw [List.length_map]
  exact decide_eq_decide.mpr Int.ofNat_lt
theorem dec_nat {i j : Nat} : decide ((V.int (i : Int)) = V.int (j : Int)) = decide (i = j) := by
  refine decide_eq_decide.mpr ⟨fun z => ?_, fun z => by rw [z]⟩
  have := V.int.inj z
  omega
/-- draws were made, objects laid: the state stands, the others stand as before -/
structure Dr (p c : Addr) (H H' : Hp) : Prop where
  st : StateAt H' p c
  ou : ∀ b o, b ≠ p → b ≠ c → H b = some o → H' b = some o
theorem StateAt.some {H : Hp} {p c : Addr} (s : StateAt H p c) : (∃ o, H p = Option.some (.lst o)) ∧ ∃ o, H c = Option.some (.lst o) := by
  obtain ⟨⟨seed, ms, h1, h2, _⟩, _⟩ := s
  exact ⟨⟨_, h1⟩, ⟨_, h2⟩⟩
theorem StateAt.same {H H' : Hp} {p c : Addr} (s : StateAt H p c) (k : Same H H') : StateAt H' p c := s.mono (fun o e => k _ _ e) (fun o e => k _ _ e)
theorem Dr.refl {p c : Addr} {H : Hp} (s : StateAt H p c) : Dr p c H H := ⟨s, fun _ _ _ _ e => e⟩
theorem Dr.trans {p c : Addr} {H H1 H2 : Hp} (a : Dr p c H H1) (b : Dr p c H1 H2) : Dr p c H H2 := ⟨b.st, fun x o n1 n2 e => b.ou x o n1 n2 (a.ou x o n1 n2 e)⟩
theorem Dr.same {p c : Addr} {H H1 H2 : Hp} (a : Dr p c H H1) (b : Same H1 H2) : Dr p c H H2 := ⟨a.st.same b, fun x o n1 n2 e => b _ _ (a.ou x o n1 n2 e)⟩
theorem Dr.drawn {p c : Addr} {H H1 H2 : Hp} (a : Dr p c H H1) (s : StateAt H2 p c) (b : Drawn p c H1 H2) : Dr p c H H2 := ⟨s, fun x o n1 n2 e => (b x n1 n2).trans (a.ou x o n1 n2 e)⟩
theorem Dr.none {p c : Addr} {H H1 : Hp} {x : Addr} (a : Dr p c H H1) (n : H1 x = none) : H x = none := by
  obtain ⟨⟨_, e1⟩, ⟨_, e2⟩⟩ := a.st.some
  cases e : H x with
  | none => rfl
  | some o =>
    have n1 : x ≠ p := fun z => by rw [z, e1] at n; cases n
    have n2 : x ≠ c := fun z => by rw [z, e2] at n; cases n
    rw [a.ou x o n1 n2 e] at n
    cases n
theorem StateAt.new {H : Hp} {p c x : Addr} (s : StateAt H p c) (n : H x = none) : x ≠ p ∧ x ≠ c := by
  obtain ⟨⟨_, e1⟩, ⟨_, e2⟩⟩ := s.some
  exact ⟨fun z => (by rw [z, e1] at n; cases n), fun z => (by rw [z, e2] at n; cases n)⟩
theorem StateAt.upd {H : Hp} {p c x : Addr} {o : HO} (s : StateAt H p c) (n : x ≠ p ∧ x ≠ c) : StateAt (L2.upd H x o) p c :=
  s.mono (fun q e => by rw [upd_ne (Ne.symm n.1)]; exact e) (fun q e => by rw [upd_ne (Ne.symm n.2)]; exact e)
theorem tab_ne {H : Hp} {T b : Addr} {o : HO} (g : TabG H T) (e : H b = some o) (n : ∀ ps, o ≠ .tbl ps) : b ≠ T := fun z => by
  obtain ⟨ps, e1, _⟩ := g
  rw [z, e1] at e
  exact n ps (Option.some.inj e).symm
theorem tab_same {H H' : Hp} {T : Addr} (g : TabG H T) (s : Same H H') : TabG H' T := by
  obtain ⟨ps, e1, e2⟩ := g
  exact ⟨ps, s _ _ e1, e2⟩
/-- the tables stand -/
def TG (Ts : List Addr) (H : Hp) : Prop := ∀ T ∈ Ts, TabG H T
/-- what stood stands, but for the tables -/
structure Tbs (Ts : List Addr) (H H' : Hp) : Prop where
  sm : ∀ b o, b ∉ Ts → H b = some o → H' b = some o
  tg : TG Ts H'
theorem TG.same {Ts : List Addr} {H H' : Hp} (g : TG Ts H) (s : Same H H') : TG Ts H' := fun T hT => tab_same (g T hT) s
theorem Tbs.refl {Ts : List Addr} {H : Hp} (g : TG Ts H) : Tbs Ts H H := ⟨fun _ _ _ e => e, g⟩
theorem Tbs.trans {Ts : List Addr} {H H1 H2 : Hp} (a : Tbs Ts H H1) (b : Tbs Ts H1 H2) : Tbs Ts H H2 := ⟨fun x o n e => b.sm x o n (a.sm x o n e), b.tg⟩
theorem Tbs.same {Ts : List Addr} {H H1 H2 : Hp} (a : Tbs Ts H H1) (s : Same H1 H2) : Tbs Ts H H2 := ⟨fun x o n e => s _ _ (a.sm x o n e), a.tg.same s⟩
theorem Tbs.tab {Ts : List Addr} {H H1 H2 : Hp} {T : Addr} (a : Tbs Ts H H1) (t : Tabbed T H1 H2) (hT : T ∈ Ts) : Tbs Ts H H2 := by
  refine ⟨fun x o n e => (t.2 x fun z => n (z ▸ hT)).trans (a.sm x o n e), fun T' h' => ?_⟩
  by_cases z : T' = T
  · rw [z]
    exact t.1
  · obtain ⟨ps, e1, e2⟩ := a.tg T' h'
    exact ⟨ps, (t.2 T' z).trans e1, e2⟩
theorem Tbs.at_ {Ts : List Addr} {H H' : Hp} (h : Tbs Ts H H') (g : TG Ts H) {b : Addr} {o : HO} (e : H b = some o) (n : ∀ ps, o ≠ .tbl ps) : H' b = some o := h.sm b o (fun z => tab_ne (g b z) e n rfl) e
theorem Tbs.tup {Ts : List Addr} {H H' : Hp} (h : Tbs Ts H H') (g : TG Ts H) {b : Addr} {xs : List V} (e : H b = some (.tup xs)) : H' b = some (.tup xs) := h.at_ g e fun _ z => nomatch z
theorem Tbs.lst {Ts : List Addr} {H H' : Hp} (h : Tbs Ts H H') (g : TG Ts H) {b : Addr} {xs : List V} (e : H b = some (.lst xs)) : H' b = some (.lst xs) := h.at_ g e fun _ z => nomatch z
end K20
namespace K20
open PySem PySem.Spec PyProof.Rows L2 TL TR QR
open GxR (TabB TabG Tabbed)
abbrev sTO : Stmt := topS 11
abbrev nTO : List Str := ["value", "size"]
theorem scTO : FnScope nTO ["value", "size"] (defScope sTO) := ⟨rfl, rfl, rfl, by decide +kernel, rfl, by decide +kernel, by decide +kernel⟩
abbrev sWI : Stmt := topS 12
abbrev nWI : List Str := ["number", "least", "most"]
theorem scWI : FnScope nWI ["number", "least", "most"] (defScope sWI) := ⟨rfl, rfl, rfl, by decide +kernel, rfl, by decide +kernel, by decide +kernel⟩
abbrev sIL : Stmt := topS 13
abbrev nIL : List Str := ["label", "marks", "k", "mark"]
theorem scIL : FnScope nIL ["label"] (defScope sIL) := ⟨rfl, rfl, rfl, by decide +kernel, rfl, by decide +kernel, by decide +kernel⟩
abbrev sIH : Stmt := topS 14
abbrev nIH : List Str := ["name"]
theorem scIH : FnScope nIH ["name"] (defScope sIH) := ⟨rfl, rfl, rfl, by decide +kernel, rfl, by decide +kernel, by decide +kernel⟩
theorem or_decG {Rel : Hp → Hp → Prop} (tr : ∀ a b c, Rel a b → Rel b c → Rel a c) {tA tB : TT} {σ : L2.St} {H : Hp} {Q : Bool → Hp → Prop} {p q : Prop} [Decidable p] [Decidable q] (hA : ∀ R : Bool → Hp → Prop, (∀ H1, Rel H H1 → R (decide p) H1) → tA σ H R)
    (hB : ¬ p → ∀ H1, Rel H H1 → ∀ R : Bool → Hp → Prop, (∀ H2, Rel H1 H2 → R (decide q) H2) → tB σ H1 R) (h : ∀ H2, Rel H H2 → Q (decide (p ∨ q)) H2) : tOr tA tB σ H Q := by
  refine hA _ fun H1 s1 => ?_
  by_cases hp : p
  · show if decide p = true then Q true H1 else tB σ H1 Q
    rw [decide_eq_true hp]
    have := h H1 s1
    rw [decide_eq_true (Or.inl hp)] at this
    exact this
  · show if decide p = true then Q true H1 else tB σ H1 Q
    rw [decide_eq_false hp]
    refine hB hp H1 s1 Q fun H2 s2 => ?_
    have := h H2 (tr _ _ _ s1 s2)
    rw [show decide (p ∨ q) = decide q from decide_eq_decide.mpr ⟨fun z => z.resolve_left hp, fun z => .inr z⟩] at this
    exact this
def LabO (H : Hp) (la ma : Addr) (a : Option Nat) (ms : List (Option Nat)) : Prop := H la = some (.tup [.str "label", optV a, .ref ma]) ∧ H ma = some (.tup (ms.map optV))
def withinB : Option Nat → Nat → Nat → Bool
  | none, _, _ => false
  | some k, l, m => decide (l ≤ k ∧ k ≤ m)
def ascB (l : List (Option Nat)) : Bool := (List.range (l.length - 1)).all fun k => decide ((l.getD k none).getD 0 < (l.getD (k + 1) none).getD 0)
def labB (a : Option Nat) (ms : List (Option Nat)) : Bool := withinB a 0 7 && (ms.all (fun m => withinB m 0 5) && ascB ms)
section
variable {P : Program} {w : World} {K : PySem.W.Frag} {mg : Str → Option Value} {base : Heap}
def spTO : Sp := fun vs H Q _ => ∃ (v : V) (n : Nat), vs = [v, .int (n : Int)] ∧ ((v = .non ∧ Q (.bl false) H) ∨ (∃ a xs, v = .ref a ∧ H a = some (.tup xs) ∧ Q (.bl (decide (xs.length = n))) H))
theorem ok_TO {f : Addr} {fd : FuncData} (F : Fun K "is_tuple_of" "is_tuple_of" sTO f fd)
    (m_len : mg "len" = none) (m_isinstance : mg "isinstance" = none) (m_tuple : mg "tuple" = none) : FnOk P w K mg base CX0 1 f fd ["value", "size"] spTO := by
  refine F.ok scTO (fun vs H Q E h => ?_) (fun cdv A outer s H vs Q E hr h => ?_)
  · obtain ⟨v, n, rfl, _⟩ := h
    rfl
  · obtain ⟨v, n, rfl, h⟩ := h
    have hu := hr.units
    have hu1 := hu_of hr
    have zl := zl
    refine ⟨_, (pss_one (ps_ret (pe_and (pe_callB call_isi (by rfl) m_isinstance (by decide +kernel) (pa_cons (pv 0) (pa_cons (pe_bltn (v := V.ty "tuple") (u := .type "tuple") (by rfl) m_tuple (by decide +kernel) rfl) pa_nil))) (pe_one (pe_cmpR op_eq (pe_callB call_len_seq (by rfl) m_len PySem.boot_len (pa_cons (pv 0) pa_nil)) (pv 1) (nomark _)))))), ?_⟩
    rcases h with ⟨rfl, q⟩ | ⟨a, xs, rfl, ha, q⟩
    · exact ⟨_, rfl, _, _, _, _, false, rfl, .ty _, .base .non, kit_ty (by decide +kernel), _, rfl, ite2 (fun z => absurd z (by decide)) (fun _ => q)⟩
    · refine ⟨_, rfl, _, _, _, _, true, rfl, .ty _, .base (.tup ha), kit_ty (by decide +kernel), _, rfl, ite2 (fun _ => ⟨_, rfl, a, _, rfl, .inr (SqT.of ha), _, rfl, rfl, ?_⟩) (fun z => absurd rfl z)⟩
      rw [dec_nat]
      exact q
def spWI : Sp := fun vs H Q _ => ∃ (o : Option Nat) (l m : Nat), vs = [optV o, .int (l : Int), .int (m : Int)] ∧ Q (.bl (withinB o l m)) H
theorem ok_WI {f : Addr} {fd : FuncData} (F : Fun K "is_within" "is_within" sWI f fd)
    (m_int : mg "int" = none) (m_isinstance : mg "isinstance" = none) : FnOk P w K mg base CX0 1 f fd ["number", "least", "most"] spWI := by
  refine F.ok scWI (fun vs H Q E h => ?_) (fun cdv A outer s H vs Q E hr h => ?_)
  · obtain ⟨o, l, m, rfl, _⟩ := h
    rfl
  · obtain ⟨o, l, m, rfl, q⟩ := h
    have hu := hr.units
    have hu1 := hu_of hr
    have zl := zl
    refine ⟨_, (pss_one (ps_ret (pe_and (pe_callB call_isi (by rfl) m_isinstance (by decide +kernel) (pa_cons (pv 0) (pa_cons (pe_bltn (v := V.ty "int") (u := .type "int") (by rfl) m_int (by decide +kernel) rfl) pa_nil))) (pe_one (pe_chain op_le op_le (pv 1) (pv 0) (pv 2)))))), ?_⟩
    cases o with
    | none => exact ⟨_, rfl, _, _, _, _, false, rfl, .ty _, .base .non, kit_ty (by decide +kernel), _, rfl, ite2 (fun z => absurd z (by decide)) (fun _ => q)⟩
    | some k =>
      refine ⟨_, rfl, _, _, _, _, true, rfl, .ty _, .base (.int _), kit_ty (by decide +kernel), _, rfl, ite2 (fun _ => ⟨_, rfl, _, rfl, _, _, rfl, rfl, _, rfl, ite2 (fun h => ⟨_, rfl, _, _, rfl, rfl, ?_⟩) (fun h => ?_)⟩) (fun z => absurd rfl z)⟩
      · have h := of_decide_eq_true h
        have e : decide ((k : Int) ≤ (m : Int)) = withinB (some k) l m := decide_eq_decide.mpr ⟨fun z => ⟨by omega, by omega⟩, fun z => by omega⟩
        show Q (V.bl (decide ((k : Int) ≤ (m : Int)))) H
        rw [e]
        exact q
      · have h : ¬ (l : Int) ≤ (k : Int) := fun z => h (decide_eq_true z)
        have e : withinB (some k) l m = false := decide_eq_false fun z => h (by omega)
        rw [e] at q
        exact q
def spIH (T : Addr) : Sp := fun vs H Q _ => ∃ (t : Str), vs = [.str t] ∧ t.length ≤ sizeLine ∧ TabG H T ∧ ∀ H', Tabbed T H H' → Q (.bl (wordB t "abcdefghijklmnopqrstuvwxyz" 8)) H'
theorem ok_IH {T1 f fW : Addr} {fd fdW : FuncData} {kLE : Tok} (F : Fun K "is_hand" "is_hand" sIH f fd)
    (GW : FnOk P w K mg base CX0 1 fW fdW ["text", "signs", "most"] (spWord T1)) (bW : Binds K fdW ["text", "signs", "most"] []) (gW : mg "is_word" = some (.ref fW)) (kW : PySem.W.keepIn K (.ref fW) = true)
    (gLE : mg "LETTERS" = some (.str "abcdefghijklmnopqrstuvwxyz" kLE)) (m_isinstance : mg "isinstance" = none) (m_str : mg "str" = none) : FnOk P w K mg base CX0 2 f fd ["name"] (spIH T1) := by
  refine F.ok scIH (fun vs H Q E h => ?_) (fun cdv A outer s H vs Q E hr h => ?_)
  · obtain ⟨t, rfl, _⟩ := h
    rfl
  · obtain ⟨t, rfl, ht, hT, q⟩ := h
    have hu := hr.units
    have hu1 := hu_of hr
    have hr1 : Room 1 _ := hr.mono (by decide)
    have zl := zl
    refine ⟨_, (pss_one (ps_ret (pe_and (pe_callB call_isi (by rfl) m_isinstance (by decide +kernel) (pa_cons (pv 0) (pa_cons (pe_bltn (v := V.ty "str") (u := .type "str") (by rfl) m_str (by decide +kernel) rfl) pa_nil))) (pe_one (pe_call GW hr1 (by rfl) gW kW bW .nil pass0 (pa_cons (pv 0) (pa_cons (pe_glob (v := V.str "abcdefghijklmnopqrstuvwxyz") (by rfl) gLE ⟨_, rfl⟩) (pa_cons (pe_int) pa_nil)))))))), ?_⟩
    exact ⟨_, rfl, _, _, _, _, true, rfl, .ty _, .base (.str _), kit_ty (by decide +kernel), _, rfl, ite2 (fun _ => ⟨_, rfl, t, _, 8, rfl, ht, hT, q⟩) (fun z => absurd rfl z)⟩
def spIL (Ts : List Addr) : Sp := fun vs H Q _ => ∃ (v : V), vs = [v] ∧ TG Ts H ∧ ((v = .non ∧ ∀ H', Tbs Ts H H' → Q (.bl false) H') ∨ (∃ la ma a ms, v = .ref la ∧ LabO H la ma a ms ∧ ms.length ≤ 100000 ∧ ∀ H', Tbs Ts H H' → Q (.bl (labB a ms)) H'))
theorem ok_IL {T2 c f fTO fWI : Addr} {Ts : List Addr} {oc kV doc pm ct : Value} {od an : Option Addr} {osl : Array (Option Value)} {fdTO fdWI : FuncData} (hT2 : T2 ∈ Ts) (lk : K.lookup f = some ⟨oc, od, .func (PySem.W.fnOf "is_label" "is_label" (defArgs sIL) (defBody sIL) (defScope sIL) .none kV doc pm an (.ref c) ct), osl⟩)
    (hcd : PySem.W.codeIn K (.ref c) "is_label" = true) (TB : TabB base mg c T2)
    (GTO : FnOk P w K mg base CX0 1 fTO fdTO ["value", "size"] spTO) (bTO : Binds K fdTO ["value", "size"] []) (gTO : mg "is_tuple_of" = some (.ref fTO)) (kTO : PySem.W.keepIn K (.ref fTO) = true)
    (GWI : FnOk P w K mg base CX0 1 fWI fdWI ["number", "least", "most"] spWI) (bWI : Binds K fdWI ["number", "least", "most"] []) (gWI : mg "is_within" = some (.ref fWI)) (kWI : PySem.W.keepIn K (.ref fWI) = true)
    (m_isinstance : mg "isinstance" = none) (m_tuple : mg "tuple" = none) (m_all : mg "all" = none) (m_range : mg "range" = none) (m_len : mg "len" = none) :
    FnOk P w K mg base CX0 3 f (PySem.W.fnOf "is_label" "is_label" (defArgs sIL) (defBody sIL) (defScope sIL) .none kV doc pm an (.ref c) ct) ["label"] (spIL Ts) := by
  refine fn_of lk hcd scIL (fun vs H Q E h => ?_) fun A outer s H vs Q E hr h => ?_
  · obtain ⟨v, rfl, _⟩ := h
    rfl
  · obtain ⟨v, rfl, g, h⟩ := h
    have hu := hr.units
    have hu1 := hu_of hr
    have hr1 : Room 1 _ := hr.mono (by decide)
    have zl := zl
    have hrX := hr
    refine ⟨_, (pss_cons (ps_if (PW.pt (pw_or (pt_not (pt_val (pe_call GTO hr1 (by rfl) gTO kTO bTO .nil pass0 (pa_cons (pv 0) (pa_cons (pe_int) pa_nil))))) (pw_or (pt_cmpR op_ne (pe_ix ix_tup (pv 0) (pe_int) (fun _ _ => rfl)) (pe_str) (nomark _)) (pw_or1 (pt_not (pt_val (pe_call GWI hr1 (by rfl) gWI kWI bWI .nil pass0 (pa_cons (pe_ix ix_tup (pv 0) (pe_int) (fun _ _ => rfl)) (pa_cons (pe_int) (pa_cons (pe_int) pa_nil))))))))))
      (pss_one (ps_ret (pe_bl))) pss_nil)
      (pss_cons (ps_set (i := 1) scIL.nd rfl (.inr rfl) (pe_ix ix_tup (pv 0) (pe_int) (fun _ _ => rfl)))
      (pss_cons (ps_if (PW.pt (pw_or (pt_not (pt_val (pe_callB call_isi (by rfl) m_isinstance (by decide +kernel) (pa_cons (pv 1) (pa_cons (pe_bltn (v := V.ty "tuple") (u := .type "tuple") (by rfl) m_tuple (by decide +kernel) rfl) pa_nil))))) (pw_or1 (pt_not (pt_truth (GX.pe_allG (k := 1) (own := [("mark", 3)]) (g := gName 3) (tt := tYes) (te := tCall spWI [] E0 (tCons (tVar 3) (tCons (tC (.int 0)) (tCons (tC (.int 5)) tNil)))) hrX rfl scIL.nd (by rfl) m_all ⟨blkOk_by (N := nIL) (sc := defScope sIL) (by decide +kernel), by decide +kernel, rfl, rfl, TB, rfl⟩ (pi_tup (pv 1)) (fun _ _ _ _ _ _ hrG => by exact pg_name (i := 3) scIL.nd rfl (.inl rfl)) (fun _ _ _ _ _ _ hrG => pts_nil) (fun _ _ _ _ _ _ hrG => by exact pe_call GWI (hrG.mono (by decide)) (by rfl) gWI kWI bWI .nil pass0 (pa_cons (pv 3) (pa_cons (pe_int) (pa_cons (pe_int) pa_nil)))) (fun _ => rfl)) (by intro _; rfl))))))
      (pss_one (ps_ret (pe_bl))) pss_nil)
      (pss_one (ps_ret (GX.pe_allG (k := 1) (own := [("k", 2)]) (g := gName 2) (tt := tYes) (te := tOp (rI0 fun i j => .bl (decide (i < j))) (tOp (rIxT K) (tVar 1) (tVar 2)) (tOp (rIxT K) (tVar 1) (tOp (rI0 fun i j => .int (i + j)) (tVar 2) (tC (.int 1))))) hrX rfl scIL.nd (by rfl) m_all ⟨blkOk_by (N := nIL) (sc := defScope sIL) (by decide +kernel), by decide +kernel, rfl, rfl, TB, rfl⟩ (pi_range1 (by rfl) m_range (pa_cons (pe_op op_sub (pe_callB call_len_seq (by rfl) m_len PySem.boot_len (pa_cons (pv 1) pa_nil)) (pe_int)) pa_nil)) (fun _ _ _ _ _ _ hrG => by exact pg_name (i := 2) scIL.nd rfl (.inl rfl)) (fun _ _ _ _ _ _ hrG => pts_nil) (fun _ _ _ _ _ _ hrG => by exact pe_cmpR op_lt (pe_ix ix_tup (pv 1) (pv 2) (fun _ _ => rfl)) (pe_ix ix_tup (pv 1) (pe_op op_add (pv 2) (pe_int)) (fun _ _ => rfl)) (nomark _)) (fun _ => rfl))))))), ?_⟩
    dsimp only [tNext, tSeq, tIfS, tAsg, gName, tC]
    rcases h with ⟨rfl, q⟩ | ⟨la, ma, a, ms, rfl, hL, hl, q⟩
    · refine or_dec (p := True) (q := False) (fun R k => ⟨_, rfl, _, 3, rfl, .inl ⟨rfl, _, rfl, to_dec (by simp) (k _ same_refl)⟩⟩) (fun z => absurd trivial z) fun H2 s2 => ite2 (fun _ => q _ ((Tbs.refl g).same s2)) (fun h => absurd (decide_eq_true (.inl trivial)) h)
    · have no : ∀ H', Tbs Ts H H' → labB a ms = false → Q (.bl false) H' := fun H' t e => by
        have := q H' t
        rw [e] at this
        exact this
      have hml : (ms.map optV).length = ms.length := List.length_map _
      refine or_dec (p := False) (q := False ∨ ¬ withinB a 0 7 = true) (fun R k => ⟨_, rfl, _, 3, rfl, .inr ⟨la, _, rfl, hL.1, _, rfl, to_dec (by simp) (k _ same_refl)⟩⟩)
        (fun _ H1 s1 R k => or_dec (p := False) (q := ¬ withinB a 0 7 = true) (fun R k => ⟨_, rfl, la, _, _, _, rfl, rfl, SqT.of (s1 _ _ hL.1), atI_nat (j := 0) rfl, rfl, _, rfl, to_dec (by simp) (k _ same_refl)⟩)
          (fun _ H2 s2 R k => ⟨_, rfl, la, _, _, _, rfl, rfl, SqT.of (s2 _ _ (s1 _ _ hL.1)), atI_nat (j := 1) rfl, a, 0, 7, rfl, _, rfl, to_dec (by cases withinB a 0 7 <;> simp) (k _ same_refl)⟩) k) fun H1 s1 => ite2 (fun h => ?_) (fun h => ?_)
      · have h := of_decide_eq_true h
        refine no _ ((Tbs.refl g).same s1) ?_
        unfold labB
        rw [show withinB a 0 7 = false from Bool.eq_false_iff.mpr (by simpa using h), Bool.false_and]
      have h7 : withinB a 0 7 = true := Decidable.byContradiction fun z => h (decide_eq_true (.inr (.inr z)))
      have t1 : Tbs Ts H H1 := (Tbs.refl g).same s1
      have e1 := s1 _ _ hL.1
      have m1 := s1 _ _ hL.2
      refine ⟨_, rfl, la, _, _, _, rfl, rfl, SqT.of e1, atI_nat (j := 2) rfl, ?_⟩
      dsimp only [tNext, tSeq, tIfS, tAsg, gName, tC]
      refine or_decG (Rel := Tbs Ts) (fun _ _ _ => Tbs.trans) (p := False) (q := ¬ (ms.all fun m => withinB m 0 5) = true) (fun R k => ⟨_, rfl, _, _, _, _, true, rfl, .ty _, .base (.tup m1), kit_ty (by decide +kernel), _, rfl, to_dec (by simp) (k _ (Tbs.refl t1.tg))⟩)
        (fun _ H2 t2 R k => ⟨_, rfl, ma, rfl, ⟨_, SqT.of (t2.tup t1.tg m1)⟩, t2.tg T2 hT2, fun H3 t3 => ?_⟩) fun H2 t2 => ite2 (fun h => ?_) (fun h => ?_)
      · have m2 := t2.tup t1.tg m1
        have b3 := (Tbs.refl t2.tg).tab t3 hT2
        refine GX.wk_tup (xs := ms.map optV) (fun i H' => Tbs Ts H2 H' ∧ ∀ m o, m < i → ms[m]? = some o → withinB o 0 5 = true) ⟨b3, fun m o h => by omega⟩ ?_ ?_ ?_
        · rintro i H' _ ⟨t5, _⟩
          exact SqT.of (t5.tup t2.tg m2)
        · rintro i y H5 hy ⟨t5, hm⟩
          obtain ⟨o, go, rfl⟩ := map_get hy
          refine ⟨rfl, _, rfl, o, 0, 5, rfl, _, rfl, ?_⟩
          by_cases hw : withinB o 0 5 = true
          · rw [if_neg (by rw [hw]; decide)]
            refine ⟨t5, fun m o' h e => ?_⟩
            by_cases hmk : m = i
            · subst hmk
              rw [go] at e
              cases e
              exact hw
            · exact hm m o' (by omega) e
          · rw [if_pos (Bool.eq_false_iff.mpr hw)]
            have ha : (ms.all fun m => withinB m 0 5) = false := by
              rw [List.all_eq_false]
              exact ⟨o, List.mem_of_getElem? go, hw⟩
            exact ⟨_, rfl, to_dec (by rw [ha]; rfl) (k _ t5)⟩
        · rintro H5 ⟨t5, hm⟩
          rw [hml] at hm
          have ha : (ms.all fun m => withinB m 0 5) = true := by
            rw [List.all_eq_true]
            intro o ho
            obtain ⟨m, e⟩ := List.mem_iff_getElem?.mp ho
            exact hm m o (List.getElem?_eq_some_iff.mp e).1 e
          exact ⟨_, rfl, to_dec (by rw [ha]; rfl) (k _ t5)⟩
      · have h := of_decide_eq_true h
        refine no _ (t1.trans t2) ?_
        unfold labB
        rw [Bool.eq_false_iff.mpr (h.resolve_left id), Bool.false_and, Bool.and_false]
      have ha : (ms.all fun m => withinB m 0 5) = true := Decidable.byContradiction fun z => h (decide_eq_true (.inr z))
      have t12 := t1.trans t2
      have m2 := t2.tup t1.tg m1
      have yes : ∀ H', Tbs Ts H H' → Q (.bl (ascB ms)) H' := fun H' t => by
        have := q H' t
        unfold labB at this
        rw [h7, ha] at this
        exact this
      have isS : ∀ i, i < ms.length → ∃ n, ms[i]? = some (some n) := fun i hi => by
        have ge := List.getElem?_eq_getElem hi
        have := List.all_eq_true.mp ha _ (List.getElem_mem hi)
        generalize ms[i] = o at ge this
        cases o with
        | none => cases this
        | some n => exact ⟨n, ge⟩
      refine ⟨_, rfl, ma, _, rfl, .inr (SqT.of m2), _, _, rfl, rfl, _, rfl, by rw [hml]; omega, by rw [hml]; omega, t2.tg T2 hT2, fun H3 t3 => ?_⟩
      have b3 := (Tbs.refl t2.tg).tab t3 hT2
      have en : (((ms.map optV).length : Nat) : Int) - 1 = ((ms.length : Nat) : Int) - 1 := by rw [hml]
      refine GX.wk_range (lo := 0) (n := ((((ms.map optV).length : Nat) : Int) - 1).toNat) (fun i H' => Tbs Ts H2 H' ∧ ∀ m, m < i → (ms.getD m none).getD 0 < (ms.getD (m + 1) none).getD 0) ⟨b3, fun m h => by omega⟩ ?_ ?_
      · rintro i H5 hi ⟨t5, hm⟩
        rw [en] at hi
        obtain ⟨n1, g1⟩ := isS i (by omega)
        obtain ⟨n2, g2⟩ := isS (i + 1) (by omega)
        have m5 := t5.tup t2.tg m2
        rw [show (0 : Int) + (i : Int) = ((i : Nat) : Int) from Int.zero_add _]
        refine ⟨rfl, _, rfl, _, rfl, ma, _, _, .int (n1 : Int), rfl, rfl, SqT.of m5, atI_nat (get_map _ g1), _, rfl, _, rfl, _, _, rfl, rfl, ma, _, _, .int (n2 : Int), rfl, rfl, SqT.of m5, atI_s (get_map _ g2), _, _, rfl, rfl, _, rfl, ?_⟩
        have d1 : (ms.getD i none).getD 0 = n1 := by rw [List.getD_eq_getElem?_getD, g1]; rfl
        have d2 : (ms.getD (i + 1) none).getD 0 = n2 := by rw [List.getD_eq_getElem?_getD, g2]; rfl
        by_cases hw : n1 < n2
        · rw [if_neg (by rw [decide_eq_true (Int.ofNat_lt.mpr hw)]; decide)]
          refine ⟨t5, fun m h => ?_⟩
          by_cases hmk : m = i
          · subst hmk
            rw [d1, d2]
            exact hw
          · exact hm m (by omega)
        · rw [if_pos (decide_eq_false (fun z => hw (Int.ofNat_lt.mp z)))]
          have := yes H5 (t12.trans t5)
          rw [show ascB ms = false by
            unfold ascB
            rw [List.all_eq_false]
            exact ⟨i, List.mem_range.mpr (by omega), by rw [d1, d2, decide_eq_true_eq]; exact hw⟩] at this
          exact this
      · rintro H5 ⟨t5, hm⟩
        rw [en] at hm
        have := yes H5 (t12.trans t5)
        rw [show ascB ms = true by
          unfold ascB
          rw [List.all_eq_true]
          intro i hi
          exact decide_eq_true (hm i (by have := List.mem_range.mp hi; omega))] at this
        exact this
end
end K20
namespace K20
open PySem PySem.Spec PyProof.Rows L2 TL TR QR
open GxR (TabB TabG Tabbed)
abbrev sII : Stmt := topS 15
abbrev nII : List Str := ["name"]
theorem scII : FnScope nII ["name"] (defScope sII) := ⟨rfl, rfl, rfl, by decide +kernel, rfl, by decide +kernel, by decide +kernel⟩
abbrev sIP : Stmt := topS 16
abbrev nIP : List Str := ["path", "part"]
theorem scIP : FnScope nIP ["path"] (defScope sIP) := ⟨rfl, rfl, rfl, by decide +kernel, rfl, by decide +kernel, by decide +kernel⟩
abbrev sIV : Stmt := topS 18
abbrev nIV : List Str := ["vertex"]
theorem scIV : FnScope nIV ["vertex"] (defScope sIV) := ⟨rfl, rfl, rfl, by decide +kernel, rfl, by decide +kernel, by decide +kernel⟩
abbrev Lab := Nat × List Nat
abbrev Nm := Lab × List Nat × Nat
abbrev Vx := Nm × Nat × Nat
abbrev Path := List (List Nat)
abbrev strV (ps : Path) : List V := ps.map fun l => V.str (Sg l)
def LabAt (H : Hp) (v : V) (l : Lab) : Prop := ∃ la ma, v = .ref la ∧ H la = some (.tup [.str "label", .int (l.1 : Int), .ref ma]) ∧ H ma = some (.tup (l.2.map fun m : Nat => V.int (m : Int)))
def NmAt (H : Hp) (v : V) (n : Nm) : Prop := ∃ na lv, v = .ref na ∧ H na = some (.tup [lv, .str (Sg n.2.1), .int (n.2.2 : Int)]) ∧ LabAt H lv n.1
def VxAt (H : Hp) (v : V) (x : Vx) : Prop := ∃ va nv, v = .ref va ∧ H va = some (.tup [nv, .int (x.2.1 : Int), .int (x.2.2 : Int)]) ∧ NmAt H nv x.1
def PathAt (H : Hp) (v : V) (ps : Path) : Prop := ∃ a, v = .ref a ∧ H a = some (.tup (strV ps))
def OptR {α : Type} (R : Hp → V → α → Prop) (H : Hp) (v : V) : Option α → Prop
  | none => v = .non
  | some a => R H v a
/-- tuples stay -/
def TS (H H' : Hp) : Prop := ∀ b xs, H b = some (.tup xs) → H' b = some (.tup xs)
theorem TS.refl {H : Hp} : TS H H := fun _ _ e => e
theorem TS.trans {H H1 H2 : Hp} (a : TS H H1) (b : TS H1 H2) : TS H H2 := fun x o e => b x o (a x o e)
theorem Same.ts {H H' : Hp} (s : Same H H') : TS H H' := fun b _ e => s b _ e
theorem Tbs.ts {Ts : List Addr} {H H' : Hp} (t : Tbs Ts H H') (g : TG Ts H) : TS H H' := fun b _ e => t.tup g e
theorem Dr.ts {p c : Addr} {H H' : Hp} (st : StateAt H p c) (d : Dr p c H H') : TS H H' := fun b xs e => by
  obtain ⟨⟨_, e1⟩, ⟨_, e2⟩⟩ := st.some
  exact d.ou b _ (fun z => by rw [z, e1] at e; cases e) (fun z => by rw [z, e2] at e; cases e) e
theorem LabAt.ts {H H' : Hp} {v : V} {l : Lab} (s : TS H H') : LabAt H v l → LabAt H' v l := fun ⟨la, ma, e, a, b⟩ => ⟨la, ma, e, s _ _ a, s _ _ b⟩
theorem NmAt.ts {H H' : Hp} {v : V} {l : Nm} (s : TS H H') : NmAt H v l → NmAt H' v l := fun ⟨na, lv, e, a, b⟩ => ⟨na, lv, e, s _ _ a, b.ts s⟩
theorem VxAt.ts {H H' : Hp} {v : V} {l : Vx} (s : TS H H') : VxAt H v l → VxAt H' v l := fun ⟨na, lv, e, a, b⟩ => ⟨na, lv, e, s _ _ a, b.ts s⟩
theorem PathAt.ts {H H' : Hp} {v : V} {l : Path} (s : TS H H') : PathAt H v l → PathAt H' v l := fun ⟨a, e, h⟩ => ⟨a, e, s _ _ h⟩
theorem OptR.ts {α : Type} {R : Hp → V → α → Prop} {H H' : Hp} {v : V} {o : Option α} (s : TS H H') (h : ∀ a, R H v a → R H' v a) : OptR R H v o → OptR R H' v o := fun z => by
  cases o with
  | none => exact z
  | some a => exact h a z
def okLab (l : Lab) : Bool := labB (some l.1) (l.2.map some)
def okWord (w : List Nat) : Bool := wordB (Sg w) "abcdefghijklmnopqrstuvwxyz" 8
def letS : Str := Str.ofString "abcdefghijklmnopqrstuvwxyz" ++ digitsS
def okPath (ps : Path) : Bool := decide (1 ≤ ps.length ∧ ps.length ≤ 4) && ps.all fun l => wordB (Sg l) letS 8
def idB (lo : Option Lab) (w : List Nat) (k : Option Nat) : Bool := (match lo with | none => false | some l => okLab l) && (okWord w && withinB k 1 99999)
def okNm (n : Nm) : Bool := okLab n.1 && (okWord n.2.1 && withinB (some n.2.2) 1 99999)
def vxB (o : Option Nm) (a b : Option Nat) : Bool := (match o with | none => false | some n => okNm n) && (withinB a 0 11 && withinB b 0 199)
section
variable {P : Program} {w : World} {K : PySem.W.Frag} {mg : Str → Option Value} {base : Heap}
def spII (Ts : List Addr) : Sp := fun vs H Q _ => ∃ (v : V), vs = [v] ∧ TG Ts H ∧ ((v = .non ∧ ∀ H', Tbs Ts H H' → Q (.bl false) H') ∨
  (∃ na lv wd k lo, v = .ref na ∧ H na = some (.tup [lv, .str (Sg wd), optV k]) ∧ wd.length ≤ 100000 ∧ OptR LabAt H lv lo ∧ (∀ l, lo = some l → l.2.length ≤ 1000) ∧ ∀ H', Tbs Ts H H' → Q (.bl (idB lo wd k)) H'))
theorem ok_II {T1 f fTO fIL fIH fWI : Addr} {Ts : List Addr} {fd fdTO fdIL fdIH fdWI : FuncData} (hT1 : T1 ∈ Ts) (F : Fun K "is_id" "is_id" sII f fd)
    (GTO : FnOk P w K mg base CX0 1 fTO fdTO ["value", "size"] spTO) (bTO : Binds K fdTO ["value", "size"] []) (gTO : mg "is_tuple_of" = some (.ref fTO)) (kTO : PySem.W.keepIn K (.ref fTO) = true)
    (GIL : FnOk P w K mg base CX0 3 fIL fdIL ["label"] (spIL Ts)) (bIL : Binds K fdIL ["label"] []) (gIL : mg "is_label" = some (.ref fIL)) (kIL : PySem.W.keepIn K (.ref fIL) = true)
    (GIH : FnOk P w K mg base CX0 2 fIH fdIH ["name"] (spIH T1)) (bIH : Binds K fdIH ["name"] []) (gIH : mg "is_hand" = some (.ref fIH)) (kIH : PySem.W.keepIn K (.ref fIH) = true)
    (GWI : FnOk P w K mg base CX0 1 fWI fdWI ["number", "least", "most"] spWI) (bWI : Binds K fdWI ["number", "least", "most"] []) (gWI : mg "is_within" = some (.ref fWI)) (kWI : PySem.W.keepIn K (.ref fWI) = true) :
    FnOk P w K mg base CX0 4 f fd ["name"] (spII Ts) := by
  refine F.ok scII (fun vs H Q E h => ?_) (fun cdv A outer s H vs Q E hr h => ?_)
  · obtain ⟨v, rfl, _⟩ := h
    rfl
  · obtain ⟨v, rfl, g, h⟩ := h
    have hu := hr.units
    have hu1 := hu_of hr
    have hr1 : Room 1 _ := hr.mono (by decide)
    have hr2 : Room 2 _ := hr.mono (by decide)
    have hr3 : Room 3 _ := hr.mono (by decide)
    have zl := zl
    refine ⟨_, (pss_one (ps_ret (pe_and (pe_call GTO hr1 (by rfl) gTO kTO bTO .nil pass0 (pa_cons (pv 0) (pa_cons (pe_int) pa_nil))) (pe_and (pe_call GIL hr3 (by rfl) gIL kIL bIL .nil pass0 (pa_cons (pe_ix ix_tup (pv 0) (pe_int) (fun _ _ => rfl)) pa_nil)) (pe_and (pe_call GIH hr2 (by rfl) gIH kIH bIH .nil pass0 (pa_cons (pe_ix ix_tup (pv 0) (pe_int) (fun _ _ => rfl)) pa_nil)) (pe_one (pe_call GWI hr1 (by rfl) gWI kWI bWI .nil pass0 (pa_cons (pe_ix ix_tup (pv 0) (pe_int) (fun _ _ => rfl)) (pa_cons (pe_int) (pa_cons (pe_int) pa_nil)))))))))), ?_⟩
    rcases h with ⟨rfl, q⟩ | ⟨na, lv, wd, k, lo, rfl, hn, hw, hl, hm, q⟩
    · exact ⟨_, rfl, _, 3, rfl, .inl ⟨rfl, _, rfl, ite2 (fun z => absurd z (by decide)) (fun _ => q _ (Tbs.refl g))⟩⟩
    · have zl := zl
      refine ⟨_, rfl, _, 3, rfl, .inr ⟨na, _, rfl, hn, _, rfl, ite2 (fun _ => ?_) (fun z => absurd rfl z)⟩⟩
      cases lo with
      | none =>
        have ev : lv = .non := hl
        subst ev
        refine ⟨_, rfl, na, _, _, _, rfl, rfl, SqT.of hn, atI_nat (j := 0) rfl, .non, rfl, g, .inl ⟨rfl, fun H1 t1 => ⟨_, rfl, ite2 (fun z => absurd z (by decide)) (fun _ => q H1 t1)⟩⟩⟩
      | some l =>
        have hl2 := hl
        obtain ⟨la, ma, rfl, e1, e2⟩ := hl
        refine ⟨_, rfl, na, _, _, _, rfl, rfl, SqT.of hn, atI_nat (j := 0) rfl, .ref la, rfl, g, .inr ⟨la, ma, some l.1, l.2.map some, rfl, ⟨e1, by rw [List.map_map]; exact e2⟩, by rw [List.length_map]; exact Nat.le_trans (hm l rfl) (by decide), fun H1 t1 => ⟨_, rfl, ite2 (fun h1 => ?_) (fun h1 => ?_)⟩⟩⟩
        · have h1 : okLab l = true := h1
          refine ⟨_, rfl, na, _, _, _, rfl, rfl, SqT.of (t1.tup g hn), atI_nat (j := 1) rfl, Sg wd, rfl, by show wd.length ≤ _; omega, t1.tg T1 hT1, fun H2 t2 => ?_⟩
          have b2 : Tbs Ts H H2 := t1.tab t2 hT1
          refine ⟨_, rfl, ite2 (fun h2 => ?_) (fun h2 => ?_)⟩
          · have h2 : okWord wd = true := h2
            refine ⟨_, rfl, na, _, _, _, rfl, rfl, SqT.of (b2.tup g hn), atI_nat (j := 2) rfl, k, 1, 99999, rfl, ?_⟩
            have := q H2 b2
            unfold idB at this
            simp only [h1, h2, Bool.true_and] at this
            exact this
          · have h2 : okWord wd = false := Bool.eq_false_iff.mpr h2
            have := q H2 b2
            unfold idB at this
            rw [h2, Bool.false_and, Bool.and_false] at this
            exact this
        · have h1 : okLab l = false := Bool.eq_false_iff.mpr h1
          have := q H1 t1
          unfold idB at this
          simp only [h1, Bool.false_and] at this
          exact this
def spIP (Ts : List Addr) : Sp := fun vs H Q _ => ∃ (a : Addr) (ps : Path), vs = [.ref a] ∧ H a = some (.tup (strV ps)) ∧ ps.length ≤ 100000 ∧ (∀ l ∈ ps, l.length ≤ 100000) ∧ TG Ts H ∧ ∀ H', Tbs Ts H H' → Q (.bl (okPath ps)) H'
theorem ok_IP {T1 T3 c f fIW : Addr} {Ts : List Addr} {oc kV doc pm ct : Value} {od an : Option Addr} {osl : Array (Option Value)} {fdIW : FuncData} {kLE kDI : Tok} (hT1 : T1 ∈ Ts) (hT3 : T3 ∈ Ts) (lk : K.lookup f = some ⟨oc, od, .func (PySem.W.fnOf "is_path" "is_path" (defArgs sIP) (defBody sIP) (defScope sIP) .none kV doc pm an (.ref c) ct), osl⟩)
    (hcd : PySem.W.codeIn K (.ref c) "is_path" = true) (TB : TabB base mg c T3)
    (GW : FnOk P w K mg base CX0 1 fIW fdIW ["text", "signs", "most"] (spWord T1)) (bW : Binds K fdIW ["text", "signs", "most"] []) (gW : mg "is_word" = some (.ref fIW)) (kW : PySem.W.keepIn K (.ref fIW) = true)
    (gLE : mg "LETTERS" = some (.str "abcdefghijklmnopqrstuvwxyz" kLE)) (gDI : mg "DIGITS" = some (.str digitsS kDI))
    (m_isinstance : mg "isinstance" = none) (m_tuple : mg "tuple" = none) (m_len : mg "len" = none) (m_all : mg "all" = none) (m_str : mg "str" = none) :
    FnOk P w K mg base CX0 3 f (PySem.W.fnOf "is_path" "is_path" (defArgs sIP) (defBody sIP) (defScope sIP) .none kV doc pm an (.ref c) ct) ["path"] (spIP Ts) := by
  refine fn_of lk hcd scIP (fun vs H Q E h => ?_) fun A outer s H vs Q E hr h => ?_
  · obtain ⟨a, ps, rfl, _⟩ := h
    rfl
  · obtain ⟨a, ps, rfl, ha, hn, hl, g, q⟩ := h
    have hu := hr.units
    have hu1 := hu_of hr
    have hr1 : Room 1 _ := hr.mono (by decide)
    have zl := zl
    have hrX := hr
    refine ⟨_, (pss_cons (ps_if (PW.pt (pw_or (pt_not (pt_val (pe_callB call_isi (by rfl) m_isinstance (by decide +kernel) (pa_cons (pv 0) (pa_cons (pe_bltn (v := V.ty "tuple") (u := .type "tuple") (by rfl) m_tuple (by decide +kernel) rfl) pa_nil))))) (pw_or1 (pt_not (pt_chain op_le op_le (pe_int) (pe_callB call_len_seq (by rfl) m_len PySem.boot_len (pa_cons (pv 0) pa_nil)) (pe_int))))))
      (pss_one (ps_ret (pe_bl))) pss_nil)
      (pss_one (ps_ret (GX.pe_allG (k := 1) (own := [("part", 1)]) (g := gName 1) (tt := tYes) (te := tAndV (tCB (rIsi K) (tCons (tVar 1) (tCons (tC (.ty "str")) tNil))) (tCall (spWord T1) [] E0 (tCons (tVar 1) (tCons (tOp (fun x y H Q => ∃ i j, x = .str i ∧ y = .str j ∧ i.length + j.length ≤ sizeLine ∧ Q (.str (i ++ j)) H) (tC (.str "abcdefghijklmnopqrstuvwxyz")) (tC (.str digitsS))) (tCons (tC (.int 8)) tNil))))) hrX rfl scIP.nd (by rfl) m_all ⟨blkOk_by (N := nIP) (sc := defScope sIP) (by decide +kernel), by decide +kernel, rfl, rfl, TB, rfl⟩ (pi_tup (pv 0)) (fun _ _ _ _ _ _ hrG => by exact pg_name (i := 1) scIP.nd rfl (.inl rfl)) (fun _ _ _ _ _ _ hrG => pts_nil) (fun _ _ _ _ _ _ hrG => by exact pe_and (pe_callB (show CallR _ (.builtin "isinstance") (rIsi K) from call_isi) (by rfl) m_isinstance (by decide +kernel) (pa_cons (pv 1) (pa_cons (pe_bltn (v := V.ty "str") (u := .type "str") (by rfl) m_str (by decide +kernel) rfl) pa_nil))) (pe_one (pe_call GW (hrG.mono (by decide)) (by rfl) gW kW bW .nil pass0 (pa_cons (pv 1) (pa_cons (pe_op op_add_str (pe_glob (v := V.str "abcdefghijklmnopqrstuvwxyz") (by rfl) gLE ⟨_, rfl⟩) (pe_glob (v := V.str digitsS) (by rfl) gDI ⟨_, rfl⟩)) (pa_cons (pe_int) pa_nil)))))) (fun _ => rfl))))), ?_⟩
    have lps : (strV ps).length = ps.length := List.length_map _
    have no : ∀ H', Tbs Ts H H' → ¬ (1 ≤ ps.length ∧ ps.length ≤ 4) → Q (.bl false) H' := fun H' t z => by
      have := q H' t
      unfold okPath at this
      rw [decide_eq_false z, Bool.false_and] at this
      exact this
    dsimp only [tNext, tSeq, tIfS, tAsg, gName, tC]
    refine or_dec (p := False) (q := ¬ (1 ≤ ps.length ∧ ps.length ≤ 4)) (fun R k => ⟨_, rfl, _, _, _, _, true, rfl, .ty _, .base (.tup ha), kit_ty (by decide +kernel), _, rfl, to_dec (by simp) (k _ same_refl)⟩)
      (fun _ H1 s1 R k => ⟨_, rfl, a, _, rfl, .inr (SqT.of (s1 _ _ ha)), _, _, rfl, rfl, _, rfl, ite2 (fun h1 => ⟨_, _, rfl, rfl, _, rfl, ?_⟩) (fun h1 => ⟨_, rfl, ?_⟩)⟩) fun H1 s1 => ite2 (fun h1 => ?_) (fun h1 => ?_)
    · have h1 := of_decide_eq_true h1
      refine to_dec ?_ (k _ same_refl)
      rw [← decide_not]
      exact decide_eq_decide.mpr (by omega)
    · have h1 : ¬ (1 : Int) ≤ ((strV ps).length : Int) := fun z => h1 (decide_eq_true z)
      refine to_dec ?_ (k _ same_refl)
      exact (decide_eq_true (by omega)).symm
    · have h1 := of_decide_eq_true h1
      exact no H1 ((Tbs.refl g).same s1) (by simpa using h1)
    · have h1 : 1 ≤ ps.length ∧ ps.length ≤ 4 := Decidable.byContradiction fun z => h1 (decide_eq_true (.inr z))
      have yes : ∀ H', Tbs Ts H H' → Q (.bl (ps.all fun l => wordB (Sg l) letS 8)) H' := fun H' t => by
        have := q H' t
        unfold okPath at this
        rw [decide_eq_true h1, Bool.true_and] at this
        exact this
      have t1 := (Tbs.refl g).same s1
      refine ⟨_, rfl, a, rfl, ⟨_, SqT.of (s1 _ _ ha)⟩, t1.tg T3 hT3, fun H2 t2 => ?_⟩
      have b2 := t1.tab t2 hT3
      refine GX.wk_tup (xs := strV ps) (fun k H' => Tbs Ts H H' ∧ ∀ (m : Nat) (l : List Nat), m < k → ps[m]? = some l → wordB (Sg l) letS 8 = true) ⟨b2, fun m l h => by omega⟩ ?_ ?_ ?_
      · rintro k H' _ ⟨t5, _⟩
        exact SqT.of (t5.tup g ha)
      · rintro i y H5 hy ⟨t5, hm⟩
        obtain ⟨l, gl, rfl⟩ := map_get hy
        have ll := hl l (List.mem_of_getElem? gl)
        refine ⟨rfl, _, rfl, _, _, _, _, true, rfl, .ty _, .base (.str _), kit_ty (by decide +kernel), _, rfl, ite2 (fun _ => ?_) (fun z => absurd rfl z)⟩
        refine ⟨_, rfl, _, _, rfl, rfl, (by have : (Str.ofString "abcdefghijklmnopqrstuvwxyz").length + digitsS.length = 36 := by decide +kernel
                                            omega), Sg l, _, 8, rfl, (by show l.length ≤ _; omega), t5.tg T1 hT1, fun H6 t6 => ⟨_, rfl, ?_⟩⟩
        have b6 := t5.tab t6 hT1
        by_cases hw : wordB (Sg l) letS 8 = true
        · rw [show wordB (Sg l) (Str.ofString "abcdefghijklmnopqrstuvwxyz" ++ digitsS) 8 = true from hw, if_neg (by decide)]
          refine ⟨b6, fun m l' h e => ?_⟩
          by_cases hmk : m = i
          · subst hmk
            rw [gl] at e
            cases e
            exact hw
          · exact hm m l' (by omega) e
        · rw [if_pos (show wordB (Sg l) (Str.ofString "abcdefghijklmnopqrstuvwxyz" ++ digitsS) 8 = false from Bool.eq_false_iff.mpr hw)]
          have := yes H6 b6
          rw [show (ps.all fun l => wordB (Sg l) letS 8) = false by
            rw [List.all_eq_false]
            exact ⟨l, List.mem_of_getElem? gl, hw⟩] at this
          exact this
      · rintro H5 ⟨t5, hm⟩
        rw [lps] at hm
        have := yes H5 t5
        rw [show (ps.all fun l => wordB (Sg l) letS 8) = true by
          rw [List.all_eq_true]
          intro c hc
          obtain ⟨m, e⟩ := List.mem_iff_getElem?.mp hc
          exact hm m c (List.getElem?_eq_some_iff.mp e).1 e] at this
        exact this
def spIV (Ts : List Addr) : Sp := fun vs H Q _ => ∃ (va : Addr) (nv : V) (a b : Option Nat) (o : Option Nm), vs = [.ref va] ∧ TG Ts H ∧ H va = some (.tup [nv, optV a, optV b]) ∧ OptR NmAt H nv o ∧ (∀ n, o = some n → n.1.2.length ≤ 1000 ∧ n.2.1.length ≤ 1000) ∧ ∀ H', Tbs Ts H H' → Q (.bl (vxB o a b)) H'
theorem ok_IV {f fTO fII fWI : Addr} {Ts : List Addr} {fd fdTO fdII fdWI : FuncData} {kMC : Tok} (F : Fun K "is_vertex" "is_vertex" sIV f fd)
    (GTO : FnOk P w K mg base CX0 1 fTO fdTO ["value", "size"] spTO) (bTO : Binds K fdTO ["value", "size"] []) (gTO : mg "is_tuple_of" = some (.ref fTO)) (kTO : PySem.W.keepIn K (.ref fTO) = true)
    (GII : FnOk P w K mg base CX0 4 fII fdII ["name"] (spII Ts)) (bII : Binds K fdII ["name"] []) (gII : mg "is_id" = some (.ref fII)) (kII : PySem.W.keepIn K (.ref fII) = true)
    (GWI : FnOk P w K mg base CX0 1 fWI fdWI ["number", "least", "most"] spWI) (bWI : Binds K fdWI ["number", "least", "most"] []) (gWI : mg "is_within" = some (.ref fWI)) (kWI : PySem.W.keepIn K (.ref fWI) = true) (gMC : mg "MOST_CHANGES" = some (.int 12 kMC)) :
    FnOk P w K mg base CX0 5 f fd ["vertex"] (spIV Ts) := by
  refine F.ok scIV (fun vs H Q E h => ?_) (fun cdv A outer s H vs Q E hr h => ?_)
  · obtain ⟨va, nv, a, b, o, rfl, _⟩ := h
    rfl
  · obtain ⟨va, nv, a, b, o, rfl, g, hv, ho, hb, q⟩ := h
    have hu := hr.units
    have hu1 := hu_of hr
    have hr1 : Room 1 _ := hr.mono (by decide)
    have hr2 : Room 2 _ := hr.mono (by decide)
    have hr3 : Room 3 _ := hr.mono (by decide)
    have hr4 : Room 4 _ := hr.mono (by decide)
    have zl := zl
    refine ⟨_, (pss_one (ps_ret (pe_and (pe_call GTO hr1 (by rfl) gTO kTO bTO .nil pass0 (pa_cons (pv 0) (pa_cons (pe_int) pa_nil))) (pe_and (pe_call GII hr4 (by rfl) gII kII bII .nil pass0 (pa_cons (pe_ix ix_tup (pv 0) (pe_int) (fun _ _ => rfl)) pa_nil)) (pe_and (pe_call GWI hr1 (by rfl) gWI kWI bWI .nil pass0 (pa_cons (pe_ix ix_tup (pv 0) (pe_int) (fun _ _ => rfl)) (pa_cons (pe_int) (pa_cons (pe_op op_sub (pe_glob (v := V.int 12) (by rfl) gMC ⟨_, rfl⟩) (pe_int)) pa_nil)))) (pe_one (pe_call GWI hr1 (by rfl) gWI kWI bWI .nil pass0 (pa_cons (pe_ix ix_tup (pv 0) (pe_int) (fun _ _ => rfl)) (pa_cons (pe_int) (pa_cons (pe_int) pa_nil)))))))))), ?_⟩
    refine ⟨_, rfl, _, 3, rfl, .inr ⟨va, _, rfl, hv, _, rfl, ite2 (fun _ => ?_) (fun z => absurd rfl z)⟩⟩
    cases o with
    | none =>
      have ev : nv = .non := ho
      subst ev
      refine ⟨_, rfl, va, _, _, _, rfl, rfl, SqT.of hv, atI_nat (j := 0) rfl, .non, rfl, g, .inl ⟨rfl, fun H1 t1 => ⟨_, rfl, ite2 (fun z => absurd z (by decide)) (fun _ => q H1 t1)⟩⟩⟩
    | some n =>
      obtain ⟨na, lv, rfl, e1, e2⟩ := ho
      refine ⟨_, rfl, va, _, _, _, rfl, rfl, SqT.of hv, atI_nat (j := 0) rfl, .ref na, rfl, g, .inr ⟨na, lv, n.2.1, some n.2.2, some n.1, rfl, e1, Nat.le_trans (hb n rfl).2 (by decide), e2, fun l e => by cases e; exact (hb n rfl).1, fun H1 t1 => ⟨_, rfl, ite2 (fun h1 => ?_) (fun h1 => ?_)⟩⟩⟩
      · have h1 : okNm n = true := h1
        refine ⟨_, rfl, va, _, _, _, rfl, rfl, SqT.of (t1.tup g hv), atI_nat (j := 1) rfl, _, _, rfl, rfl, a, 0, 11, rfl, _, rfl, ite2 (fun h2 => ?_) (fun h2 => ?_)⟩
        · have h2 : withinB a 0 11 = true := h2
          refine ⟨_, rfl, va, _, _, _, rfl, rfl, SqT.of (t1.tup g hv), atI_nat (j := 2) rfl, b, 0, 199, rfl, ?_⟩
          have := q H1 t1
          unfold vxB at this
          simp only [h1, h2, Bool.true_and] at this
          exact this
        · have h2 : withinB a 0 11 = false := Bool.eq_false_iff.mpr h2
          have := q H1 t1
          unfold vxB at this
          simp only [h2, Bool.false_and, Bool.and_false] at this
          exact this
      · have h1 : okNm n = false := Bool.eq_false_iff.mpr h1
        have := q H1 t1
        unfold vxB at this
        simp only [h1, Bool.false_and] at this
        exact this
end
end K20
namespace K20
open PySem PySem.Spec PyProof.Rows L2 TL TR QR
open GxR (TabB TabG Tabbed)
abbrev sSL : Stmt := topS 23
abbrev nSL : List Str := ["label", "marks", "mark"]
theorem scSL : FnScope nSL ["label"] (defScope sSL) := ⟨rfl, rfl, rfl, by decide +kernel, rfl, by decide +kernel, by decide +kernel⟩
abbrev sSH : Stmt := topS 24
abbrev nSH : List Str := ["path"]
theorem scSH : FnScope nSH ["path"] (defScope sSH) := ⟨rfl, rfl, rfl, by decide +kernel, rfl, by decide +kernel, by decide +kernel⟩
abbrev sSI : Stmt := topS 25
abbrev nSI : List Str := ["name"]
theorem scSI : FnScope nSI ["name"] (defScope sSI) := ⟨rfl, rfl, rfl, by decide +kernel, rfl, by decide +kernel, by decide +kernel⟩
abbrev sSV : Stmt := topS 26
abbrev nSV : List Str := ["vertex"]
theorem scSV : FnScope nSV ["vertex"] (defScope sSV) := ⟨rfl, rfl, rfl, by decide +kernel, rfl, by decide +kernel, by decide +kernel⟩
def markL (ms : List Nat) : List Nat := (ms.map numL).flatten
def labL (l : Lab) : List Nat := numL l.1 ++ (if l.2 = [] then [] else 58 :: markL l.2)
def slashL : Path → List Nat := TR.joinL 47
def idL (n : Nm) : List Nat := labL n.1 ++ 46 :: (n.2.1 ++ 46 :: numL n.2.2)
def vxL (x : Vx) : List Nat := idL x.1 ++ 46 :: (numL x.2.1 ++ 46 :: numL x.2.2)
def SmL (l : Lab) : Prop := l.1 ≤ 99999 ∧ l.2.length ≤ 1000 ∧ ∀ m ∈ l.2, m ≤ 9
def SmN (n : Nm) : Prop := SmL n.1 ∧ n.2.1.length ≤ 1000 ∧ n.2.2 ≤ 99999
def SmV (x : Vx) : Prop := SmN x.1 ∧ x.2.1 ≤ 99999 ∧ x.2.2 ≤ 99999
def SmP (ps : Path) : Prop := ps.length ≤ 1000 ∧ ∀ l ∈ ps, l.length ≤ 1000
theorem sg_num (n : Nat) : Str.ofString (toString (n : Int)) = Sg (numL n) := ext_tl (tl_num n)
theorem num_five {n : Nat} (h : n ≤ 99999) : (numL n).length ≤ 5 := numL_len (by decide) (by omega)
theorem num_small {n : Nat} (h : n ≤ 99999) : (n : Int).natAbs.log2 < 1920 := log2_small (n := 60) (by omega) (by decide) (by decide)
theorem mark_len : ∀ {ms : List Nat}, (∀ m ∈ ms, m ≤ 9) → (markL ms).length = ms.length
  | [], _ => rfl
  | m :: r, h => by
    have := mark_len (ms := r) fun x hx => h x (List.mem_cons_of_mem _ hx)
    unfold markL at this ⊢
    rw [List.map_cons, List.flatten_cons, List.length_append, this, numL_lt (by have := h m List.mem_cons_self; omega)]
    simp only [List.length_cons, List.length_nil]
    omega
theorem lab_len {l : Lab} (h : SmL l) : (labL l).length ≤ 1006 := by
  have a := num_five h.1
  have b := mark_len h.2.2
  have c := h.2.1
  unfold labL
  rw [List.length_append]
  split
  · show _ + 0 ≤ _
    omega
  · rw [List.length_cons]
    omega
theorem id_len {n : Nm} (h : SmN n) : (idL n).length ≤ 2013 := by
  have a := lab_len h.1
  have b := num_five h.2.2
  have c := h.2.1
  unfold idL
  rw [List.length_append, List.length_cons, List.length_append, List.length_cons]
  omega
theorem vx_len {n : Vx} (h : SmV n) : (vxL n).length ≤ 2025 := by
  have a := id_len h.1
  have b := num_five h.2.1
  have c := num_five h.2.2
  unfold vxL
  rw [List.length_append, List.length_cons, List.length_append, List.length_cons]
  omega
theorem sg_app (a b : List Nat) : Sg a ++ Sg b = Sg (a ++ b) := ext_tl (tl_app _ _)
theorem dot_str : Str.ofString "." = Sg [46] := by decide +kernel
theorem colon_str : Str.ofString ":" = Sg [58] := by decide +kernel
theorem slash_str : Str.ofString "/" = ⟨#[47]⟩ := by decide +kernel
theorem empty_str : Str.empty = Sg [] := rfl
theorem join_slash (ps : Path) : Txt.join (Str.ofString "/") (ps.map Sg) = Sg (slashL ps) := by
  rw [slash_str]
  show Builtin.Str.glued _ _ = _
  rw [StrLaws.glued_eq_join]
  refine ext_tl ?_
  rw [TR.tl_join, List.map_map]
  have e : (tl ∘ Sg) = id := by funext l; rfl
  rw [e, List.map_id]
  rfl
theorem sum_sg (b : Nat) : ∀ {ps : Path}, (∀ l ∈ ps, l.length ≤ b) → ((ps.map Sg).map (·.length)).sum ≤ b * ps.length
  | [], _ => Nat.le_refl _
  | p :: r, h => by
    have a := h p List.mem_cons_self
    have c := sum_sg b (ps := r) fun x hx => h x (List.mem_cons_of_mem _ hx)
    rw [List.map_cons, List.map_cons, List.sum_cons, List.length_cons, Nat.mul_succ]
    have e : (Sg p).length = p.length := rfl
    rw [e]
    omega
section
variable {P : Program} {w : World} {K : PySem.W.Frag} {mg : Str → Option Value} {base : Heap}
def spSL : Sp := fun vs H Q _ => ∃ (v : V) (l : Lab), vs = [v] ∧ LabAt H v l ∧ SmL l ∧ ∀ H', Same H H' → Q (.str (Sg (labL l))) H'
theorem ok_SL {f : Addr} {fd : FuncData} (F : Fun K "show_label" "show_label" sSL f fd)
    (m_str : mg "str" = none) : FnOk P w K mg base CX0 1 f fd ["label"] spSL := by
  refine F.ok scSL (fun vs H Q E h => ?_) (fun cdv A outer s H vs Q E hr h => ?_)
  · obtain ⟨v, l, rfl, _⟩ := h
    rfl
  · obtain ⟨v, l, rfl, hl, sm, q⟩ := h
    have hu := hr.units
    have hu1 := hu_of hr
    have zl := zl
    refine ⟨_, (pss_cons (ps_set (i := 1) scSL.nd rfl (.inl rfl) (pe_join (pe_str) (pe_lc (own := [("mark", 2)]) (g := gName 2) (tt := tYes) (te := tCB (fun xs H Q => ∃ i, xs = [.int i] ∧ i.natAbs.log2 < 1920 ∧ Q (.str (toString i)) H) (tCons (tVar 2) tNil)) rfl scSL.nd (pi_tup (pe_ix ix_tup (pv 0) (pe_int) (fun _ _ => rfl))) (blkOk_by (N := nSL) (sc := defScope sSL) (by decide +kernel)) (fun _ _ _ _ _ => by exact pg_name (i := 2) scSL.nd rfl (.inl rfl)) (fun _ _ _ _ _ => pts_nil) (fun _ _ _ _ _ => by exact pe_callTy call_str_int (by rfl) m_str (by decide +kernel) (pa_cons (pv 2) pa_nil)))))
      (pss_one (ps_ret (pe_ifExp (pt_truth (pv 1) (by intro _; rfl)) (pe_joined (.cons (pe_fmt (pe_ix ix_tup (pv 0) (pe_int) (fun _ _ => rfl))) (.cons (pe_str) (.cons (pe_fmt (pv 1)) (.nil))))) (pe_callTy call_str_int (by rfl) m_str (by decide +kernel) (pa_cons (pe_ix ix_tup (pv 0) (pe_int) (fun _ _ => rfl)) pa_nil)))))), ?_⟩
    obtain ⟨la, ma, rfl, h1, h2⟩ := hl
    have zl := zl
    have lm : (l.2.map fun m : Nat => V.int (m : Int)).length = l.2.length := List.length_map _
    refine ⟨⟨_, rfl⟩, _, rfl, la, _, _, _, rfl, rfl, SqT.of h1, atI_nat (j := 2) rfl, ma, rfl, ⟨_, SqT.of h2⟩, fun D nD => ?_⟩
    have s0 : Same H (upd H D (.lst [])) := same_new nD
    refine lc_tup (xs := l.2.map fun m : Nat => V.int (m : Int)) (fun i H' => Same H H' ∧ H' D = some (.lst ((l.2.take i).map fun m => V.str (Sg (numL m))))) ⟨s0, upd_same⟩ ?_ ?_ ?_
    · rintro i H' _ ⟨s1, _⟩
      exact SqT.of (s1 _ _ h2)
    · rintro i y H1 hy ⟨s1, eD⟩
      obtain ⟨m, gm, rfl⟩ := map_get hy
      have hm := sm.2.2 m (List.mem_of_getElem? gm)
      have li := (List.getElem?_eq_some_iff.mp gm).1
      have := sm.2.1
      refine ⟨rfl, _, rfl, (m : Int), rfl, num_small (by omega), _, eD, by rw [List.length_map, List.length_take]; omega, same_upd nD s1, ?_⟩
      rw [upd_same, List.take_add_one, gm]
      show _ = some (HO.lst (((l.2.take i) ++ [m]).map _))
      rw [List.map_append]
      show some (HO.lst (_ ++ [V.str (Str.ofString (toString (m : Int)))])) = _
      rw [sg_num]
      rfl
    · rintro H1 ⟨s1, eD⟩
      rw [lm, List.take_length] at eD
      have eD2 : H1 D = some (.lst (((l.2.map numL).map Sg).map V.str)) := by
        rw [eD, List.map_map, List.map_map]
        rfl
      have sms : ∀ p ∈ l.2.map numL, p.length ≤ 5 := fun p hp => by
        obtain ⟨m, hm, rfl⟩ := List.mem_map.mp hp
        exact num_five (by have := sm.2.2 m hm; omega)
      have ml := mark_len sm.2.2
      have ll := sm.2.1
      have lb := lab_len sm
      have l5 := num_five sm.1
      refine ⟨_, D, _, rfl, rfl, .inl (SqL.of eD2), ?_, ?_⟩
      · have := sum_sg 5 sms
        rw [List.length_map] at this
        rw [List.length_map, List.length_map, show (Str.ofString "").length = 0 by decide +kernel]
        omega
      have ej : Txt.join (Str.ofString "") ((l.2.map numL).map Sg) = Sg (markL l.2) := by
        rw [show Str.ofString "" = Str.empty from rfl, txt_join0, List.map_map]
        have e : (tl ∘ Sg) = id := by funext l; rfl
        rw [e, List.map_id]
        rfl
      rw [ej]
      have e1 := s1 _ _ h1
      dsimp only [tNext, tSeq, tIfS, tAsg, gName, tC]
      have qq := q H1 s1
      unfold labL at qq
      have lM : (Sg (markL l.2)).length = l.2.length := ml
      have dots : ∀ a b : List Nat, Str.empty ++ Sg a ++ Str.ofString ":" ++ Sg b = Sg (a ++ 58 :: b) := fun a b => by
        rw [empty_str, colon_str, sg_app, sg_app, sg_app, List.nil_append, List.append_assoc]
        rfl
      have lens : ∀ a : List Nat, (Sg a).length = a.length := fun a => rfl
      by_cases hms : l.2 = []
      · rw [if_pos hms, List.append_nil] at qq
        refine ⟨_, rfl, false, ⟨by rw [lM]; omega, by rw [lM, hms]; rfl⟩, iteF ⟨_, rfl, la, _, _, _, rfl, rfl, SqT.of e1, atI_nat (j := 1) rfl, (l.1 : Int), rfl, num_small sm.1, ?_⟩⟩
        rw [sg_num]
        exact qq
      · rw [if_neg hms] at qq
        have l0 : 0 < l.2.length := List.length_pos_iff.mpr hms
        have d := dots (numL l.1) (markL l.2)
        refine ⟨_, rfl, true, ⟨by rw [lM]; omega, by rw [lM]; simp; omega⟩, iteT ⟨_, rfl, la, _, _, _, rfl, rfl, SqT.of e1, atI_nat (j := 1) rfl, .inr ⟨(l.1 : Int), rfl, num_small sm.1, _, rfl, ?_, _, rfl, ?_, _, rfl, .inl ⟨_, rfl, by rw [lM]; omega, _, rfl, ?_, ?_⟩⟩⟩⟩
        · rw [sg_num, empty_str, sg_app, lens, List.nil_append]
          omega
        · rw [sg_num, empty_str, colon_str, sg_app, sg_app]
          simp only [lens, List.nil_append, List.length_append, List.length_cons, List.length_nil]
          omega
        · rw [sg_num, d, lens, List.length_append, List.length_cons]
          omega
        · rw [sg_num, d]
          exact qq
def spSI : Sp := fun vs H Q _ => ∃ (v : V) (n : Nm), vs = [v] ∧ NmAt H v n ∧ SmN n ∧ ∀ H', Same H H' → Q (.str (Sg (idL n))) H'
theorem ok_SI {f fSL : Addr} {fd fdSL : FuncData} (F : Fun K "show_id" "show_id" sSI f fd)
    (GSL : FnOk P w K mg base CX0 1 fSL fdSL ["label"] spSL) (bSL : Binds K fdSL ["label"] []) (gSL : mg "show_label" = some (.ref fSL)) (kSL : PySem.W.keepIn K (.ref fSL) = true) :
    FnOk P w K mg base CX0 2 f fd ["name"] spSI := by
  refine F.ok scSI (fun vs H Q E h => ?_) (fun cdv A outer s H vs Q E hr h => ?_)
  · obtain ⟨v, n, rfl, _⟩ := h
    rfl
  · obtain ⟨v, n, rfl, ⟨na, lv, rfl, e1, e2⟩, sm, q⟩ := h
    have hu := hr.units
    have hu1 := hu_of hr
    have hr1 : Room 1 _ := hr.mono (by decide)
    have zl := zl
    refine ⟨_, (pss_one (ps_ret (pe_joined (.cons (pe_fmt (pe_call GSL hr1 (by rfl) gSL kSL bSL .nil pass0 (pa_cons (pe_ix ix_tup (pv 0) (pe_int) (fun _ _ => rfl)) pa_nil))) (.cons (pe_str) (.cons (pe_fmt (pe_ix ix_tup (pv 0) (pe_int) (fun _ _ => rfl))) (.cons (pe_str) (.cons (pe_fmt (pe_ix ix_tup (pv 0) (pe_int) (fun _ _ => rfl))) (.nil))))))))), ?_⟩
    have zl := zl
    have lens : ∀ a : List Nat, (Sg a).length = a.length := fun a => rfl
    have ll := lab_len sm.1
    have l5 := num_five sm.2.2
    have lw := sm.2.1
    have e4 : Str.empty ++ Sg (labL n.1) ++ Str.ofString "." ++ Sg n.2.1 ++ Str.ofString "." ++ Sg (numL n.2.2) = Sg (idL n) := by
      rw [empty_str, dot_str, sg_app, sg_app, sg_app, sg_app, sg_app]
      unfold idL
      simp
    refine ⟨_, rfl, na, _, _, _, rfl, rfl, SqT.of e1, atI_nat (j := 0) rfl, lv, n.1, rfl, e2, sm.1, fun H1 s1 => .inl ⟨_, rfl, by rw [lens]; omega, _, rfl, ?_, _, rfl, ?_,
      _, rfl, na, _, _, _, rfl, rfl, SqT.of (s1 _ _ e1), atI_nat (j := 1) rfl, .inl ⟨_, rfl, by rw [lens]; omega, _, rfl, ?_, _, rfl, ?_, _, rfl, na, _, _, _, rfl, rfl, SqT.of (s1 _ _ e1), atI_nat (j := 2) rfl, .inr ⟨(n.2.2 : Int), rfl, num_small sm.2.2, _, rfl, ?_, ?_⟩⟩⟩⟩
    · rw [empty_str, sg_app, lens, List.nil_append]
      omega
    · rw [empty_str, dot_str, sg_app, sg_app]
      simp only [lens, List.nil_append, List.length_append, List.length_cons, List.length_nil]
      omega
    · rw [empty_str, dot_str, sg_app, sg_app, sg_app]
      simp only [lens, List.nil_append, List.length_append, List.length_cons, List.length_nil]
      omega
    · rw [empty_str, dot_str, sg_app, sg_app, sg_app, sg_app]
      simp only [lens, List.nil_append, List.length_append, List.length_cons, List.length_nil]
      omega
    · rw [sg_num, e4, lens]
      have := id_len sm
      omega
    · rw [sg_num, e4]
      exact q H1 s1
def spSV : Sp := fun vs H Q _ => ∃ (v : V) (n : Vx), vs = [v] ∧ VxAt H v n ∧ SmV n ∧ ∀ H', Same H H' → Q (.str (Sg (vxL n))) H'
theorem ok_SV {f fSI : Addr} {fd fdSI : FuncData} (F : Fun K "show_vertex" "show_vertex" sSV f fd)
    (GSI : FnOk P w K mg base CX0 2 fSI fdSI ["name"] spSI) (bSI : Binds K fdSI ["name"] []) (gSI : mg "show_id" = some (.ref fSI)) (kSI : PySem.W.keepIn K (.ref fSI) = true) :
    FnOk P w K mg base CX0 3 f fd ["vertex"] spSV := by
  refine F.ok scSV (fun vs H Q E h => ?_) (fun cdv A outer s H vs Q E hr h => ?_)
  · obtain ⟨v, n, rfl, _⟩ := h
    rfl
  · obtain ⟨v, n, rfl, ⟨na, lv, rfl, e1, e2⟩, sm, q⟩ := h
    have hu := hr.units
    have hu1 := hu_of hr
    have hr1 : Room 1 _ := hr.mono (by decide)
    have hr2 : Room 2 _ := hr.mono (by decide)
    have zl := zl
    refine ⟨_, (pss_one (ps_ret (pe_joined (.cons (pe_fmt (pe_call GSI hr2 (by rfl) gSI kSI bSI .nil pass0 (pa_cons (pe_ix ix_tup (pv 0) (pe_int) (fun _ _ => rfl)) pa_nil))) (.cons (pe_str) (.cons (pe_fmt (pe_ix ix_tup (pv 0) (pe_int) (fun _ _ => rfl))) (.cons (pe_str) (.cons (pe_fmt (pe_ix ix_tup (pv 0) (pe_int) (fun _ _ => rfl))) (.nil))))))))), ?_⟩
    have zl := zl
    have lens : ∀ a : List Nat, (Sg a).length = a.length := fun a => rfl
    have ll := id_len sm.1
    have l5 := num_five sm.2.1
    have l6 := num_five sm.2.2
    have e4 : Str.empty ++ Sg (idL n.1) ++ Str.ofString "." ++ Sg (numL n.2.1) ++ Str.ofString "." ++ Sg (numL n.2.2) = Sg (vxL n) := by
      rw [empty_str, dot_str, sg_app, sg_app, sg_app, sg_app, sg_app]
      unfold vxL
      simp
    refine ⟨_, rfl, na, _, _, _, rfl, rfl, SqT.of e1, atI_nat (j := 0) rfl, lv, n.1, rfl, e2, sm.1, fun H1 s1 => .inl ⟨_, rfl, by rw [lens]; omega, _, rfl, ?_, _, rfl, ?_,
      _, rfl, na, _, _, _, rfl, rfl, SqT.of (s1 _ _ e1), atI_nat (j := 1) rfl, .inr ⟨(n.2.1 : Int), rfl, num_small sm.2.1, _, rfl, ?_, _, rfl, ?_, _, rfl, na, _, _, _, rfl, rfl, SqT.of (s1 _ _ e1), atI_nat (j := 2) rfl, .inr ⟨(n.2.2 : Int), rfl, num_small sm.2.2, _, rfl, ?_, ?_⟩⟩⟩⟩
    · rw [empty_str, sg_app, lens, List.nil_append]
      omega
    · rw [empty_str, dot_str, sg_app, sg_app]
      simp only [lens, List.nil_append, List.length_append, List.length_cons, List.length_nil]
      omega
    · rw [sg_num, empty_str, dot_str, sg_app, sg_app, sg_app]
      simp only [lens, List.nil_append, List.length_append, List.length_cons, List.length_nil]
      omega
    · rw [sg_num, empty_str, dot_str, sg_app, sg_app, sg_app, sg_app]
      simp only [lens, List.nil_append, List.length_append, List.length_cons, List.length_nil]
      omega
    · rw [sg_num, sg_num, e4, lens]
      have := vx_len sm
      omega
    · rw [sg_num, sg_num, e4]
      exact q H1 s1
def spSH : Sp := fun vs H Q _ => ∃ (v : V) (ps : Path), vs = [v] ∧ PathAt H v ps ∧ SmP ps ∧ Q (.str (Sg (slashL ps))) H
theorem ok_SH {f : Addr} {fd : FuncData} (F : Fun K "show_path" "show_path" sSH f fd) : FnOk P w K mg base CX0 1 f fd ["path"] spSH := by
  refine F.ok scSH (fun vs H Q E h => ?_) (fun cdv A outer s H vs Q E hr h => ?_)
  · obtain ⟨a, ps, rfl, _⟩ := h
    rfl
  · obtain ⟨v, ps, rfl, ⟨a, rfl, ha⟩, ⟨hn, hl⟩, q⟩ := h
    have hu := hr.units
    have hu1 := hu_of hr
    have zl := zl
    refine ⟨_, (pss_one (ps_ret (pe_join (pe_str) (pv 0)))), ?_⟩
    refine ⟨⟨_, rfl⟩, _, rfl, _, a, ps.map Sg, rfl, rfl, .inr (SqT.of (by rw [List.map_map]; exact ha)), ?_, ?_⟩
    · have := sum_sg 1000 hl
      rw [List.length_map, show (Str.ofString "/").length = 1 by decide +kernel]
      omega
    · rw [join_slash]
      exact q
end
end K20
/-! x.rsplit(sep, k) -/
namespace GX
open PySem PySem.Spec PyProof.Rows L2
section
variable {X : Cx}
theorem mt_rsplitMax : MtR X "str.rsplit" (fun x xs H Q => ∃ (a b : Str) (k : Int), x = .str a ∧ xs = [.str b, .int k] ∧ (b.length == 0) = false ∧ -(2 ^ 63) ≤ k ∧ k < 2 ^ 63 ∧ a.length + 2 ≤ sizeLine ∧ rNewStrs (Txt.rsplitMax a b k) H Q) := by
  intro pins s σ H x xs v us Q I rx rs ⟨a, b, k, ex, exs, hb, k1, k2, hz, h⟩
  subst ex
  subst exs
  obtain ⟨t, rfl⟩ := rx
  cases rs with
  | cons r1 rs =>
    cases rs with
    | cons r2 rs =>
      cases rs
      obtain ⟨u, rfl⟩ := r1
      obtain ⟨v, rfl⟩ := r2
      have hk : (decide (k < -(2 ^ 63 : Int)) || decide (k ≥ 2 ^ 63)) = false := by
        rw [show decide (k < -(2 ^ 63 : Int)) = false from decide_eq_false (by omega), show decide (k ≥ 2 ^ 63) = false from decide_eq_false (by omega), Bool.or_false]
      have hn : (Builtin.Str.partsBetween a (Builtin.Str.occurrencesFromRight a b (limitOf a k)) b.length).length ≤ sizeLine := by
        have := StrLaws.occR_length_le_len a b (limitOf a k)
        rw [length_partsBetween]
        omega
      have hl : (Txt.rsplitMax a b k).length ≤ sizeLine := by
        unfold Txt.rsplitMax
        split
        · show 1 ≤ sizeLine
          omega
        · split
          · show 1 ≤ sizeLine
            omega
          · exact hn
      cases h1 : (decide (a.length < b.length) || decide (Builtin.Str.strKind a < Builtin.Str.strKind b)) with
      | true =>
        refine call_meets F.slot_str_rsplit (typeIs_str _ _ _) F.entry_str_rsplit (F.args_str_rsplit_3 _ _ _) (meets_str_rsplit_max_cannot_occur a b k t u v hk h1) ?_
        exact laid_strs (l := [(a, t)]) (ys := Txt.rsplitMax a b k) (k := s.toks) I (if_pos h1).symm hl h
      | false =>
        cases hf : (Builtin.Str.occurrencesFromRight a b (limitOf a k)).isEmpty with
        | true =>
          refine call_meets F.slot_str_rsplit (typeIs_str _ _ _) F.entry_str_rsplit (F.args_str_rsplit_3 _ _ _) (meets_str_rsplit_max_not_found a b k t u v hk h1 hb hf) ?_
          exact laid_strs (l := [(a, t)]) (ys := Txt.rsplitMax a b k) (k := s.toks) I ((if_neg (ne_true_of_eq_false h1)).trans (if_pos hf)).symm hl h
        | false =>
          refine call_meets F.slot_str_rsplit (typeIs_str _ _ _) F.entry_str_rsplit (F.args_str_rsplit_3 _ _ _) (meets_str_rsplit_sep_max a b k t u v hk h1 hb hf (by omega) hn) ?_
          show EP X pins σ Q (.ref s.heap.objs.size) { s with toks := _, heap := s.heap.push { cls := .type "list", data := .seq (strsFrom s.toks (Builtin.Str.partsBetween a (Builtin.Str.occurrencesFromRight a b (limitOf a k)) b.length)).toArray } }
          rw [strsFrom_eq]
          exact laid_strs (ys := Txt.rsplitMax a b k) I ((numbered_texts _ _).trans ((if_neg (ne_true_of_eq_false h1)).trans (if_neg (ne_true_of_eq_false hf))).symm) hl h
def tM2 (r : V → List V → Hp → VK → Prop) (to te tf : TE) : TE := fun σ H Q => to σ H fun x H1 => (∃ a, x = .str a) ∧ te σ H1 fun y H2 => tf σ H2 fun z H3 => r x [y, z] H3 Q
theorem pe_m2 {o e e2 : Expr} {to te te2 : TE} {id : String} {name : Str} {apos pos : Pos} {r : V → List V → Hp → VK → Prop} (slot : Slot "str" name id) (ty : typeOf (.builtin id) = pure (.type "method_descriptor")) (rule : MtR X id r) (ho : PE X o to) (he : PE X e te) (he2 : PE X e2 te2)
    (hs : starEach [e, e2] X.env = [(false, eval e X.env), (false, eval e2 X.env)] := by rfl) (hbase : attributeBase o name X.env (eval o X.env) = eval o X.env := by rfl) (hline : (apos.endLine == pos.line) = true := by rfl) :
    PE X (.Call (.Attribute o name apos) [e, e2] [] pos) (tM2 r to te te2) := by
  refine ⟨fun pins s σ H Q I h => ?_⟩
  refine PySem.Call_method2 hbase hs hline (thn (ho.run pins s σ H _ I h) fun v s1 ⟨x, H1, I1, r1, q1⟩ => ?_)
  obtain ⟨⟨a, rfl⟩, q1⟩ := q1
  obtain ⟨t, rfl⟩ := _root_.id r1
  refine ⟨"str", _, F.plainAttrs_str, slot, ty, typeIs_str _ _ _, (fun _ e => nomatch e), Calls.callWith_builtin rfl (Calls.evalArgs_plain (Calls.spliced_cons ?_))⟩
  refine thn (he.run pins s1 σ H1 _ I1 q1) fun u s2 ⟨y, H2, I2, r2, q2⟩ => Calls.spliced_cons ?_
  exact thn (he2.run pins s2 σ H2 _ I2 q2) fun u3 s3 ⟨z, H3, I3, r3, q3⟩ => Calls.spliced_nil (rule pins s3 σ H3 _ [y, z] _ [u, u3] Q I3 r1 (.cons r2 (.cons r3 .nil)) q3)
theorem pe_rsplit {o e e2 : Expr} {to te te2 : TE} {apos pos : Pos} (ho : PE X o to) (he : PE X e te) (he2 : PE X e2 te2) (hs : starEach [e, e2] X.env = [(false, eval e X.env), (false, eval e2 X.env)] := by rfl) (hbase : attributeBase o "rsplit" X.env (eval o X.env) = eval o X.env := by rfl) (hline : (apos.endLine == pos.line) = true := by rfl) :
    PE X (.Call (.Attribute o "rsplit" apos) [e, e2] [] pos) (tM2 (fun x xs H Q => ∃ (a b : Str) (k : Int), x = .str a ∧ xs = [.str b, .int k] ∧ (b.length == 0) = false ∧ -(2 ^ 63) ≤ k ∧ k < 2 ^ 63 ∧ a.length + 2 ≤ sizeLine ∧ rNewStrs (Txt.rsplitMax a b k) H Q) to te te2) :=
  pe_m2 F.slot_str_rsplit F.type_str_rsplit mt_rsplitMax ho he he2 hs hbase hline
end
end GX
namespace TR
open PySem PySem.Spec PyProof.Rows L2 TL
open StrLaws Builtin Builtin.Str
theorem chain_of {s sub : Str} {hi : Nat} : ∀ {a : Nat} {cuts : List Nat} {f : Nat}, ChainG s sub hi a cuts f → ChainTo s sub hi a cuts f
  | _, [], _, h => h
  | _, _ :: _, _, h => ⟨h.1, h.2.1, chain_of h.2.2.2⟩
theorem chain_low {s sub : Str} {hi : Nat} {a b : Nat} {cuts : List Nat} {f : Nat} (h : ChainG s sub hi b cuts f) (hab : a ≤ b) (no : ∀ k, a ≤ k → k < b → ¬ At s sub hi k) (hne : cuts ≠ [] ∨ a = b) : ChainG s sub hi a cuts f := by
  cases cuts with
  | nil =>
    rcases hne with z | z
    · exact absurd rfl z
    · rw [z]
      exact h
  | cons c r =>
    refine ⟨Nat.le_trans hab h.1, h.2.1, fun k h1 h2 => ?_, h.2.2.2⟩
    by_cases hk : k < b
    · exact no k h1 hk
    · exact h.2.2.1 k (by omega) h2
/-- cuts found so far from the right, all places from cur on seen -/
def RInv (x : Str) (c limit cur : Nat) (arr : Array Nat) (free : Nat) : Prop :=
  (arr.size < limit ∧ ((arr.toList = [] ∧ free = x.length ∧ ∀ k, cur ≤ k → ¬ At x ⟨#[c]⟩ x.length k) ∨ ∃ d r f, arr.toList.reverse = d :: r ∧ free = d ∧ cur ≤ d ∧ At x ⟨#[c]⟩ x.length d ∧ (∀ k, cur ≤ k → k < d → ¬ At x ⟨#[c]⟩ x.length k) ∧ ChainG x ⟨#[c]⟩ x.length (d + 1) r f ∧ ∀ k, f ≤ k → ¬ At x ⟨#[c]⟩ x.length k)) ∨
  (arr.size = limit ∧ ∃ d r f, arr.toList.reverse = d :: r ∧ At x ⟨#[c]⟩ x.length d ∧ ChainG x ⟨#[c]⟩ x.length (d + 1) r f ∧ ∀ k, f ≤ k → ¬ At x ⟨#[c]⟩ x.length k)
theorem rinv_run (x : Str) (c limit : Nat) : ∀ (m j : Nat) (st : Array Nat × Nat), j + m = x.length + 1 → RInv x c limit (x.length + 1 - j) st.1 st.2 →
    RInv x c limit 0 (forIn (List.range' j m) st (occRBody x ⟨#[c]⟩ limit)).run.fst (forIn (List.range' j m) st (occRBody x ⟨#[c]⟩ limit)).run.snd
  | 0, j, st, e, h => by
    rw [show x.length + 1 - j = 0 by omega] at h
    exact h
  | m + 1, j, st, e, h => by
    rw [List.range'_succ, List.forIn_cons]
    unfold occRBody
    have e1 : x.length + 1 - (j + 1) = x.length - j := by omega
    have e2 : x.length + 1 - j = x.length - j + 1 := by omega
    rw [e2] at h
    generalize hi : x.length - j = i at h e1 e2 ⊢
    split
    · rename_i hc
      refine rinv_run x c limit m (j + 1) _ (by omega) ?_
      rw [e1]
      have hA : At x ⟨#[c]⟩ x.length i := ⟨by
        show i + 1 ≤ _
        have : i + 1 ≤ st.2 := hc.1.2
        rcases h with ⟨_, ⟨_, e, _⟩ | ⟨d, _, _, _, e, _, a, _⟩⟩ | ⟨e, _⟩
        · omega
        · have := a.1
          have : d + 1 ≤ x.length := this
          omega
        · have := hc.1.1
          omega, hc.2⟩
      have key : ∃ f, ChainG x ⟨#[c]⟩ x.length (i + 1) st.1.toList.reverse f ∧ ∀ k, f ≤ k → ¬ At x ⟨#[c]⟩ x.length k := by
        rcases h with ⟨_, ⟨e, _, no⟩ | ⟨d, r, f, e, _, hd, a, no, ch, nf⟩⟩ | ⟨e, _⟩
        · rw [e]
          exact ⟨i + 1, rfl, no⟩
        · rw [e]
          exact ⟨f, ⟨hd, a, no, ch⟩, nf⟩
        · have := hc.1.1
          omega
      obtain ⟨f, ch, nf⟩ := key
      have er : (st.1.push i).toList.reverse = i :: st.1.toList.reverse := by rw [Array.toList_push, List.reverse_append]; rfl
      have sz : (st.1.push i).size = st.1.size + 1 := Array.size_push _
      by_cases hl : st.1.size + 1 < limit
      · refine .inl ⟨by rw [sz]; exact hl, .inr ⟨i, _, f, er, rfl, Nat.le_refl _, hA, fun k h1 h2 => by omega, ch, nf⟩⟩
      · refine .inr ⟨by rw [sz]; have := hc.1.1; omega, i, _, f, er, hA, ch, nf⟩
    · rename_i hc
      refine rinv_run x c limit m (j + 1) _ (by omega) ?_
      rw [e1]
      rcases h with ⟨hs, ⟨e, ef, no⟩ | ⟨d, r, f, e, ef, hd, a, no, ch, nf⟩⟩ | h
      · refine .inl ⟨hs, .inl ⟨e, ef, fun k hk hA => ?_⟩⟩
        by_cases z : k = i
        · subst z
          exact hc ⟨⟨hs, by rw [ef]; exact hA.1⟩, hA.2⟩
        · exact no k (by omega) hA
      · refine .inl ⟨hs, .inr ⟨d, r, f, e, ef, by omega, a, fun k h1 h2 hA => ?_, ch, nf⟩⟩
        by_cases z : k = i
        · subst z
          exact hc ⟨⟨hs, by rw [ef]; exact h2⟩, hA.2⟩
        · exact no k (by omega) h2 hA
      · exact .inr h
end TR
namespace TR
open PySem PySem.Spec PyProof.Rows L2 TL
open StrLaws Builtin Builtin.Str
theorem parts_len (x : Str) (w : Nat) : ∀ (a : Nat) (cuts : List Nat), (partsFrom x w a cuts).length = cuts.length + 1
  | _, [] => rfl
  | _, c :: r => by
    show (partsFrom x w _ r).length + 1 = _
    rw [parts_len x w _ r]
    rfl
theorem at_free {x : Str} {c : Nat} (h : ∀ k, ¬ At x ⟨#[c]⟩ x.length k) : c ∉ tl x := by
  have := part_free x c 0 x.length (Nat.le_refl _) fun k _ _ => h k
  rw [sub_whole] at this
  exact this
theorem cut_more (c : Nat) (t : List Nat) : ∀ h : List Nat, cutAt c (h ++ c :: t) = cutAt c h ++ cutAt c t
  | [] => by
    show cutAt c (c :: t) = [] :: cutAt c t
    rw [cutAt, if_pos rfl]
  | y :: h => by
    have ih := cut_more c t h
    show cutAt c (y :: (h ++ c :: t)) = _
    by_cases e : y = c
    · rw [cutAt, if_pos e, ih, cutAt, if_pos e]
      rfl
    · rw [cutAt, if_neg e, ih, cutAt, if_neg e]
      have := cut_ne c h
      cases hq : cutAt c h with
      | nil => exact absurd hq this
      | cons p r => rfl
theorem rsplit_two (x : Str) (c : Nat) : ((Txt.rsplitMax x ⟨#[c]⟩ 2).length ≤ 2 ∧ (cutAt c (tl x)).length ≤ 2) ∨
    ∃ h a b, Txt.rsplitMax x ⟨#[c]⟩ 2 = [Sg h, Sg a, Sg b] ∧ cutAt c (tl x) = cutAt c h ++ [a, b] ∧ tl x = h ++ c :: (a ++ c :: b) := by
  have one : c ∉ tl x → (cutAt c (tl x)).length ≤ 2 := fun h => by
    rw [cut_free h]
    show 1 ≤ 2
    omega
  have inv := rinv_run x c 2 (x.length + 1) 0 ((#[] : Array Nat), x.length) (by omega) (.inl ⟨by show 0 < 2; omega, .inl ⟨rfl, rfl, fun k hk hA => by
    have h1 : k + 1 ≤ x.length := hA.1
    omega⟩⟩)
  have eo := occR_eq x ⟨#[c]⟩ 2
  generalize (forIn (List.range' 0 (x.length + 1)) ((#[] : Array Nat), x.length) (occRBody x ⟨#[c]⟩ 2)).run = st at inv eo
  have lim : limitOf x 2 = 2 := rfl
  unfold Txt.rsplitMax
  rw [lim]
  by_cases h1 : (decide (x.length < (⟨#[c]⟩ : Str).length) || decide (strKind x < strKind ⟨#[c]⟩)) = true
  · rw [if_pos h1]
    refine .inl ⟨by show 1 ≤ 2; omega, one ?_⟩
    rw [Bool.or_eq_true, decide_eq_true_eq, decide_eq_true_eq] at h1
    rcases h1 with h | h
    · have h2 : x.length < 1 := h
      have : (tl x).length = 0 := by
        have := len_tl x
        omega
      rw [List.eq_nil_of_length_eq_zero this]
      exact List.not_mem_nil
    · exact kind_free x c h
  rw [if_neg h1, eo]
  rcases inv with ⟨hs, ⟨e, _, no⟩ | ⟨d, r, f, e, _, _, hA, no, ch, nf⟩⟩ | ⟨hs, d, r, f, e, hA, ch, nf⟩
  · rw [e]
    rw [if_pos (by rfl)]
    exact .inl ⟨by show 1 ≤ 2; omega, one (at_free fun k => no k (Nat.zero_le _))⟩
  · have lr : r.length ≤ 0 := by
      have := congrArg List.length e
      rw [List.length_reverse, Array.length_toList, List.length_cons] at this
      omega
    rw [e, if_neg (by intro z; cases z), partsBetween_eq]
    have ch0 : ChainG x ⟨#[c]⟩ x.length 0 (d :: r) f := ⟨Nat.zero_le _, hA, no, ch⟩
    have fr := parts_free x c (d :: r) 0 f ch0 nf
    have jn := join_partsFrom x ⟨#[c]⟩ (d :: r) 0 f (chain_of ch0)
    rw [sub_whole] at jn
    have pl := parts_len x (⟨#[c]⟩ : Str).length 0 (d :: r)
    generalize partsFrom x (⟨#[c]⟩ : Str).length 0 (d :: r) = R at fr jn pl
    rw [List.length_cons] at pl
    refine .inl ⟨by omega, ?_⟩
    have e2 := tl_join c R
    rw [jn] at e2
    rw [e2, cut_join (by intro z; rw [List.map_eq_nil_iff.mp z] at pl; cases pl) (by
      intro p hp
      obtain ⟨q, hq, rfl⟩ := List.mem_map.mp hp
      exact fr q hq), List.length_map]
    omega
  · have lr : r.length = 1 := by
      have := congrArg List.length e
      rw [List.length_reverse, Array.length_toList, List.length_cons] at this
      omega
    rw [e, if_neg (by intro z; cases z), partsBetween_eq]
    obtain ⟨d2, rfl⟩ : ∃ d2, r = [d2] := by
      cases r with
      | nil => cases lr
      | cons d2 r2 =>
        cases r2 with
        | nil => exact ⟨d2, rfl⟩
        | cons _ _ => cases lr
    have fr := parts_free x c [d2] (d + 1) f ch nf
    have jn := join_partsFrom x ⟨#[c]⟩ [d2] (d + 1) f (chain_of ch)
    have cat := sub_cat x ⟨#[c]⟩ (a := 0) (Nat.zero_le d) hA
    rw [sub_whole] at cat
    refine .inr ⟨tl (strSub x 0 d), tl (strSub x (d + 1) d2), tl (strSub x (d2 + 1) x.length), rfl, ?_⟩
    have e3 : tl (strSub x (d + 1) x.length) = tl (strSub x (d + 1) d2) ++ c :: tl (strSub x (d2 + 1) x.length) := by
      have e4 := congrArg tl jn
      rw [tl_join] at e4
      exact e4.symm
    have e5 : tl x = tl (strSub x 0 d) ++ c :: (tl (strSub x (d + 1) d2) ++ c :: tl (strSub x (d2 + 1) x.length)) := by
      rw [← e3]
      have e6 := congrArg tl cat
      rw [tl_app, tl_app, List.append_assoc] at e6
      exact e6.symm
    refine ⟨?_, e5⟩
    have f1 : c ∉ tl (strSub x (d + 1) d2) := fr _ List.mem_cons_self
    have f2 : c ∉ tl (strSub x (d2 + 1) x.length) := fr _ (List.mem_cons_of_mem _ List.mem_cons_self)
    conv => lhs; rw [e5]
    rw [cut_more, cut_app f1, cut_free f2]
end TR
/-! mathematics of labels, ids, vertices and their texts -/
namespace K20
open PySem PySem.Spec PyProof.Rows L2 TL TR QR
theorem within_some {o : Option Nat} {l m : Nat} (h : withinB o l m = true) : ∃ k, o = some k ∧ l ≤ k ∧ k ≤ m := by
  cases o with
  | none => cases h
  | some k => exact ⟨k, rfl, of_decide_eq_true h⟩
theorem asc_ge {ms : List Nat} (h : ascB (ms.map some) = true) : ∀ k, k < ms.length → k ≤ ms.getD k 0
  | 0, _ => Nat.zero_le _
  | k + 1, hk => by
    have ih := asc_ge h k (by omega)
    unfold ascB at h
    have := List.all_eq_true.mp h k (List.mem_range.mpr (by rw [List.length_map]; omega))
    have e : ∀ j, j < ms.length → ((ms.map some).getD j none).getD 0 = ms.getD j 0 := fun j hj => by
      rw [List.getD_eq_getElem?_getD, List.getElem?_map, List.getElem?_eq_getElem hj, List.getD_eq_getElem?_getD, List.getElem?_eq_getElem hj]
      rfl
    rw [e k (by omega), e (k + 1) hk, decide_eq_true_eq] at this
    omega
structure LabOk (l : Lab) : Prop where
  lv : l.1 ≤ 7
  mks : ∀ m ∈ l.2, m ≤ 5
  ln : l.2.length ≤ 6
  asc : ascB (l.2.map some) = true
theorem lab_ok {l : Lab} : okLab l = true ↔ LabOk l := by
  unfold okLab labB
  rw [Bool.and_eq_true, Bool.and_eq_true]
  constructor
  · rintro ⟨h1, h2, h3⟩
    obtain ⟨k, e, _, a⟩ := within_some h1
    cases e
    have mk : ∀ m ∈ l.2, m ≤ 5 := fun m hm => by
      have := List.all_eq_true.mp h2 (some m) (List.mem_map.mpr ⟨m, hm, rfl⟩)
      obtain ⟨k, e, _, b⟩ := within_some this
      cases e
      exact b
    refine ⟨a, mk, ?_, h3⟩
    refine Decidable.byContradiction fun z => ?_
    have := asc_ge h3 6 (by omega)
    have h6 : l.2.getD 6 0 ∈ l.2 := by
      rw [List.getD_eq_getElem?_getD, List.getElem?_eq_getElem (by omega : 6 < l.2.length)]
      exact List.getElem_mem _
    have := mk _ h6
    omega
  · rintro ⟨a, b, _, d⟩
    refine ⟨decide_eq_true ⟨Nat.zero_le _, a⟩, ?_, d⟩
    rw [List.all_eq_true]
    intro o ho
    obtain ⟨m, hm, rfl⟩ := List.mem_map.mp ho
    exact decide_eq_true ⟨Nat.zero_le _, b m hm⟩
theorem LabOk.sm {l : Lab} (h : LabOk l) : SmL l := ⟨by have := h.lv; omega, by have := h.ln; omega, fun m hm => by have := h.mks m hm; omega⟩
def labOf (a : Option Nat) (ms : List (Option Nat)) : Option Lab := if labB a ms = true then some (a.getD 0, ms.map (·.getD 0)) else none
theorem labOf_some {a : Option Nat} {ms : List (Option Nat)} (h : labB a ms = true) : ∃ l : Lab, a = some l.1 ∧ ms = l.2.map some ∧ LabOk l ∧ labOf a ms = some l := by
  have h0 := h
  unfold labB at h
  rw [Bool.and_eq_true, Bool.and_eq_true] at h
  obtain ⟨k, rfl, _, hk⟩ := within_some h.1
  have em : ms = (ms.map (·.getD 0)).map some := by
    rw [List.map_map]
    conv => lhs; rw [← List.map_id ms]
    refine List.map_congr_left fun o ho => ?_
    obtain ⟨m, rfl, _⟩ := within_some (List.all_eq_true.mp h.2.1 o ho)
    rfl
  refine ⟨(k, ms.map (·.getD 0)), rfl, em, lab_ok.mp ?_, by unfold labOf; rw [if_pos h0]; rfl⟩
  unfold okLab
  show labB (some k) ((ms.map (·.getD 0)).map some) = true
  rw [← em]
  exact h0
theorem labOf_ok {l : Lab} (h : LabOk l) : labOf (some l.1) (l.2.map some) = some l := by
  unfold labOf
  rw [if_pos (show labB (some l.1) (l.2.map some) = true from lab_ok.mpr h), List.map_map]
  have : (l.2.map ((fun o : Option Nat => o.getD 0) ∘ some)) = l.2 := by
    conv => rhs; rw [← List.map_id l.2]
    rfl
  rw [this]
  rfl
theorem labOf_back {a : Option Nat} {ms : List (Option Nat)} {l : Lab} (h : labOf a ms = some l) : a = some l.1 ∧ ms = l.2.map some ∧ LabOk l := by
  unfold labOf at h
  split at h
  · rename_i h1
    obtain ⟨l', a1, a2, a3, a4⟩ := labOf_some h1
    unfold labOf at a4
    rw [if_pos h1] at a4
    rw [a4] at h
    cases h
    exact ⟨a1, a2, a3⟩
  · cases h
/-- a text at its first colon -/
def brk : List Nat → List Nat × Option (List Nat)
  | [] => ([], none)
  | c :: l => if c = 58 then ([], some l) else (c :: (brk l).1, (brk l).2)
theorem brk_free : ∀ {l : List Nat}, 58 ∉ l → brk l = (l, none)
  | [], _ => rfl
  | c :: l, h => by
    rw [brk, if_neg (fun e : c = 58 => h (e ▸ List.mem_cons_self)), brk_free fun z => h (List.mem_cons_of_mem _ z)]
theorem brk_app {b : List Nat} : ∀ {a : List Nat}, 58 ∉ a → brk (a ++ 58 :: b) = (a, some b)
  | [], _ => by
    show brk (58 :: b) = _
    rw [brk, if_pos rfl]
  | c :: l, h => by
    show brk (c :: (l ++ 58 :: b)) = _
    rw [brk, if_neg (fun e : c = 58 => h (e ▸ List.mem_cons_self)), brk_app fun z => h (List.mem_cons_of_mem _ z)]
theorem brk_cases (l : List Nat) : (58 ∉ l ∧ brk l = (l, none)) ∨ ∃ a b, l = a ++ 58 :: b ∧ 58 ∉ a ∧ brk l = (a, some b) := by
  induction l with
  | nil => exact .inl ⟨List.not_mem_nil, rfl⟩
  | cons c l ih =>
    by_cases e : c = 58
    · refine .inr ⟨[], l, by rw [e]; rfl, List.not_mem_nil, ?_⟩
      rw [brk, if_pos e]
    · rcases ih with ⟨h, _⟩ | ⟨a, b, e1, h, _⟩
      · have : 58 ∉ c :: l := fun z => (List.mem_cons.mp z).elim (fun y => e y.symm) h
        exact .inl ⟨this, brk_free this⟩
      · have : 58 ∉ c :: a := fun z => (List.mem_cons.mp z).elim (fun y => e y.symm) h
        refine .inr ⟨c :: a, b, by rw [e1]; rfl, this, ?_⟩
        rw [e1]
        exact brk_app (a := c :: a) this
def rd5 (b : List Nat) : List (Option Nat) := b.map fun c => readNum [c] 5
def readLab (l : List Nat) : Option Lab := match (brk l).2 with
  | none => labOf (readNum (brk l).1 7) []
  | some b => if b = [] then none else labOf (readNum (brk l).1 7) (rd5 b)
theorem rd5_mark : ∀ {ms : List Nat}, (∀ m ∈ ms, m ≤ 5) → rd5 (markL ms) = ms.map some
  | [], _ => rfl
  | m :: r, h => by
    have h5 := h m List.mem_cons_self
    have ih := rd5_mark (ms := r) fun x hx => h x (List.mem_cons_of_mem _ hx)
    unfold rd5 markL at ih ⊢
    have e : readNum [48 + m] 5 = some m := by
      rw [← numL_lt (by omega : m < 10)]
      exact readNum_num h5
    rw [List.map_cons, List.flatten_cons, List.map_append, ih, numL_lt (by omega : m < 10)]
    show readNum [48 + m] 5 :: _ = _
    rw [e]
    rfl
theorem mark_rd5 : ∀ {b ms : List Nat}, rd5 b = ms.map some → (∀ m ∈ ms, m ≤ 5) → markL ms = b
  | [], [], _, _ => rfl
  | [], m :: r, h, _ => by cases h
  | c :: b, [], h, _ => by cases h
  | c :: b, m :: r, h, hm => by
    have h1 : readNum [c] 5 = some m := (List.cons.inj h).1
    have h2 : rd5 b = r.map some := (List.cons.inj h).2
    have ih := mark_rd5 h2 fun x hx => hm x (List.mem_cons_of_mem _ hx)
    unfold markL at ih ⊢
    rw [List.map_cons, List.flatten_cons, ih, ← (readNum_some h1).1]
    rfl
theorem mark_ne {ms : List Nat} (h : ms ≠ []) : markL ms ≠ [] := by
  cases ms with
  | nil => exact absurd rfl h
  | cons m r => exact fun z => numL_ne m (List.append_eq_nil_iff.mp z).1
theorem readLab_labL {l : Lab} (h : LabOk l) : readLab (labL l) = some l := by
  unfold labL
  by_cases e : l.2 = []
  · rw [if_pos e, List.append_nil]
    unfold readLab
    rw [brk_free (numL_free (by omega))]
    show labOf (readNum (numL l.1) 7) [] = _
    rw [readNum_num h.lv]
    have := labOf_ok h
    rw [e] at this
    exact this
  · rw [if_neg e]
    unfold readLab
    rw [brk_app (numL_free (by omega))]
    show (if markL l.2 = [] then none else labOf (readNum (numL l.1) 7) (rd5 (markL l.2))) = _
    rw [if_neg (mark_ne e), rd5_mark h.mks, readNum_num h.lv]
    exact labOf_ok h
theorem readLab_back {t : List Nat} {l : Lab} (h : readLab t = some l) : LabOk l ∧ labL l = t := by
  unfold readLab at h
  rcases brk_cases t with ⟨h1, e⟩ | ⟨a, b, e1, h1, e⟩
  · rw [e] at h
    obtain ⟨a1, a2, a3⟩ := labOf_back h
    have e2 : l.2 = [] := List.map_eq_nil_iff.mp a2.symm
    refine ⟨a3, ?_⟩
    unfold labL
    rw [if_pos e2, List.append_nil]
    exact (readNum_some a1).1.symm
  · rw [e] at h
    have h : (if b = [] then none else labOf (readNum a 7) (rd5 b)) = some l := h
    split at h
    · cases h
    · rename_i hb
      obtain ⟨a1, a2, a3⟩ := labOf_back h
      have e2 : markL l.2 = b := mark_rd5 a2 a3.mks
      have e3 : l.2 ≠ [] := fun z => by
        rw [z] at e2
        exact hb e2.symm
      refine ⟨a3, ?_⟩
      unfold labL
      rw [if_neg e3, e2, e1, ← (readNum_some a1).1]
theorem join_cut (c : Nat) : ∀ l : List Nat, TR.joinL c (cutAt c l) = l
  | [] => rfl
  | x :: l => by
    have ih := join_cut c l
    have ne := cut_ne c l
    by_cases e : x = c
    · rw [cutAt, if_pos e]
      cases hq : cutAt c l with
      | nil => exact absurd hq ne
      | cons p r =>
        rw [hq] at ih
        show [] ++ c :: TR.joinL c (p :: r) = _
        rw [ih, e]
        rfl
    · rw [cutAt, if_neg e]
      cases hq : cutAt c l with
      | nil => exact absurd hq ne
      | cons p r =>
        rw [hq] at ih
        cases r with
        | nil =>
          show x :: p = _
          have ih : p = l := ih
          rw [ih]
        | cons q r =>
          show x :: (p ++ c :: TR.joinL c (q :: r)) = _
          have ih : p ++ c :: TR.joinL c (q :: r) = l := ih
          rw [ih]
theorem cut_mem_free (c : Nat) : ∀ (l : List Nat), ∀ p ∈ cutAt c l, c ∉ p
  | [], p, hp => by
    rw [List.mem_singleton.mp hp]
    exact List.not_mem_nil
  | x :: l, p, hp => by
    have ih := cut_mem_free c l
    by_cases e : x = c
    · rw [cutAt, if_pos e] at hp
      rcases List.mem_cons.mp hp with rfl | h
      · exact List.not_mem_nil
      · exact ih p h
    · rw [cutAt, if_neg e] at hp
      cases hq : cutAt c l with
      | nil => exact absurd hq (cut_ne c l)
      | cons q r =>
        rw [hq] at hp ih
        rcases List.mem_cons.mp hp with rfl | h
        · intro z
          rcases List.mem_cons.mp z with y | y
          · exact e y.symm
          · exact ih q List.mem_cons_self y
        · exact ih p (List.mem_cons_of_mem _ h)
def readPath (t : List Nat) : Option Path := if okPath (cutAt 47 t) = true then some (cutAt 47 t) else none
def nmOf (lo : Option Lab) (w : List Nat) (k : Option Nat) : Option Nm := if idB lo w k = true then some (lo.getD (0, []), w, k.getD 0) else none
def readNmP : List (List Nat) → Option Nm
  | [a, b, c] => nmOf (readLab a) b (readNum c 99999)
  | _ => none
def readNm (t : List Nat) : Option Nm := readNmP (cutAt 46 t)
def vxOf (o : Option Nm) (a b : Option Nat) : Option Vx := if vxB o a b = true then some (o.getD ((0, []), [], 0), a.getD 0, b.getD 0) else none
def readVxP : List (List Nat) → Option Vx
  | [a, b, c, d, e] => vxOf (readNmP [a, b, c]) (readNum d 11) (readNum e 199)
  | _ => none
def readVx (t : List Nat) : Option Vx := readVxP (cutAt 46 t)
theorem nmOf_some {lo : Option Lab} {w : List Nat} {k : Option Nat} (h : idB lo w k = true) : ∃ n : Nm, lo = some n.1 ∧ w = n.2.1 ∧ k = some n.2.2 ∧ okNm n = true ∧ nmOf lo w k = some n := by
  have h0 := h
  unfold idB at h
  rw [Bool.and_eq_true, Bool.and_eq_true] at h
  cases lo with
  | none => cases h.1
  | some l =>
    obtain ⟨k', rfl, a, b⟩ := within_some h.2.2
    refine ⟨(l, w, k'), rfl, rfl, rfl, ?_, if_pos h0⟩
    unfold okNm
    rw [Bool.and_eq_true, Bool.and_eq_true]
    exact ⟨h.1, h.2.1, h.2.2⟩
theorem nmOf_back {lo : Option Lab} {w : List Nat} {k : Option Nat} {n : Nm} (h : nmOf lo w k = some n) : lo = some n.1 ∧ w = n.2.1 ∧ k = some n.2.2 ∧ okNm n = true := by
  unfold nmOf at h
  split at h
  · rename_i h1
    obtain ⟨n', a1, a2, a3, a4, a5⟩ := nmOf_some h1
    unfold nmOf at a5
    rw [if_pos h1] at a5
    rw [a5] at h
    cases h
    exact ⟨a1, a2, a3, a4⟩
  · cases h
theorem vxOf_some {o : Option Nm} {a b : Option Nat} (h : vxB o a b = true) : ∃ x : Vx, o = some x.1 ∧ a = some x.2.1 ∧ b = some x.2.2 ∧ okNm x.1 = true ∧ x.2.1 ≤ 11 ∧ x.2.2 ≤ 199 ∧ vxOf o a b = some x := by
  have h0 := h
  unfold vxB at h
  rw [Bool.and_eq_true, Bool.and_eq_true] at h
  cases o with
  | none => cases h.1
  | some n =>
    obtain ⟨a', rfl, _, ha⟩ := within_some h.2.1
    obtain ⟨b', rfl, _, hb⟩ := within_some h.2.2
    exact ⟨(n, a', b'), rfl, rfl, rfl, h.1, ha, hb, if_pos h0⟩
theorem vxOf_back {o : Option Nm} {a b : Option Nat} {x : Vx} (h : vxOf o a b = some x) : o = some x.1 ∧ a = some x.2.1 ∧ b = some x.2.2 ∧ okNm x.1 = true ∧ x.2.1 ≤ 11 ∧ x.2.2 ≤ 199 := by
  unfold vxOf at h
  split at h
  · rename_i h1
    obtain ⟨n', a1, a2, a3, a4, a5, a6, a7⟩ := vxOf_some h1
    unfold vxOf at a7
    rw [if_pos h1] at a7
    rw [a7] at h
    cases h
    exact ⟨a1, a2, a3, a4, a5, a6⟩
  · cases h
theorem word_free {w : List Nat} (h : okWord w = true) : w ≠ [] ∧ w.length ≤ 8 ∧ 46 ∉ w := by
  unfold okWord wordB at h
  rw [Bool.and_eq_true, Bool.and_eq_true] at h
  obtain ⟨h1, h2, h3⟩ := h
  have h1 := of_decide_eq_true h1
  have h2 := of_decide_eq_true h2
  have e : (Sg w).length = w.length := rfl
  rw [e] at h1 h2
  refine ⟨fun z => ?_, by omega, fun z => ?_⟩
  · rw [z] at h1
    exact absurd h1 (by decide)
  · have := List.all_eq_true.mp h3 46 z
    exact absurd this (by decide +kernel)
theorem lab_free {l : Lab} (h : LabOk l) : 46 ∉ labL l := by
  unfold labL
  intro z
  rcases List.mem_append.mp z with z | z
  · exact numL_free (by omega) z
  · split at z
    · cases z
    · rcases List.mem_cons.mp z with z | z
      · cases z
      · obtain ⟨p, hp, hz⟩ := List.mem_flatten.mp z
        obtain ⟨m, _, rfl⟩ := List.mem_map.mp hp
        exact numL_free (by omega) hz
structure NmOk (n : Nm) : Prop where
  lb : LabOk n.1
  wd : okWord n.2.1 = true
  lo : 1 ≤ n.2.2
  hi : n.2.2 ≤ 99999
theorem nm_ok {n : Nm} : okNm n = true ↔ NmOk n := by
  unfold okNm
  rw [Bool.and_eq_true, Bool.and_eq_true]
  constructor
  · rintro ⟨a, b, c⟩
    have := of_decide_eq_true c
    exact ⟨lab_ok.mp a, b, this.1, this.2⟩
  · rintro ⟨a, b, c, d⟩
    exact ⟨lab_ok.mpr a, b, decide_eq_true ⟨c, d⟩⟩
theorem NmOk.sm {n : Nm} (h : NmOk n) : SmN n := ⟨h.lb.sm, by have := (word_free h.wd).2.1; omega, h.hi⟩
theorem id_cut {n : Nm} (h : NmOk n) : cutAt 46 (idL n) = [labL n.1, n.2.1, numL n.2.2] := by
  unfold idL
  rw [cut_app (lab_free h.lb), cut_app (word_free h.wd).2.2, cut_free (numL_free (by omega))]
theorem readNmP_nm {n : Nm} (h : NmOk n) : readNmP [labL n.1, n.2.1, numL n.2.2] = some n := by
  show nmOf (readLab (labL n.1)) n.2.1 (readNum (numL n.2.2) 99999) = _
  rw [readLab_labL h.lb, readNum_num h.hi]
  have : idB (some n.1) n.2.1 (some n.2.2) = true := nm_ok.mpr h
  unfold nmOf
  rw [if_pos this]
  rfl
theorem readNm_idL {n : Nm} (h : NmOk n) : readNm (idL n) = some n := by
  unfold readNm
  rw [id_cut h]
  exact readNmP_nm h
theorem readNmP_back {P : List (List Nat)} {n : Nm} (h : readNmP P = some n) : NmOk n ∧ P = [labL n.1, n.2.1, numL n.2.2] := by
  unfold readNmP at h
  split at h
  · obtain ⟨a1, a2, a3, a4⟩ := nmOf_back h
    rw [(readLab_back a1).2, ← a2, ← (readNum_some a3).1]
    exact ⟨nm_ok.mp a4, rfl⟩
  · cases h
theorem readNm_back {t : List Nat} {n : Nm} (h : readNm t = some n) : NmOk n ∧ idL n = t := by
  obtain ⟨a, b⟩ := readNmP_back h
  refine ⟨a, ?_⟩
  rw [← join_cut 46 t, b]
  rfl
structure VxOk (x : Vx) : Prop where
  nm : NmOk x.1
  a : x.2.1 ≤ 11
  b : x.2.2 ≤ 199
theorem VxOk.sm {x : Vx} (h : VxOk x) : SmV x := ⟨h.nm.sm, by have := h.a; omega, by have := h.b; omega⟩
theorem vx_cut {x : Vx} (h : VxOk x) : cutAt 46 (vxL x) = [labL x.1.1, x.1.2.1, numL x.1.2.2, numL x.2.1, numL x.2.2] := by
  unfold vxL
  rw [cut_more, id_cut h.nm, cut_app (numL_free (by omega)), cut_free (numL_free (by omega))]
  rfl
theorem readVx_vxL {x : Vx} (h : VxOk x) : readVx (vxL x) = some x := by
  unfold readVx
  rw [vx_cut h]
  show vxOf (readNmP [labL x.1.1, x.1.2.1, numL x.1.2.2]) (readNum (numL x.2.1) 11) (readNum (numL x.2.2) 199) = _
  rw [readNmP_nm h.nm, readNum_num h.a, readNum_num h.b]
  have : vxB (some x.1) (some x.2.1) (some x.2.2) = true := by
    unfold vxB
    rw [Bool.and_eq_true, Bool.and_eq_true]
    exact ⟨nm_ok.mpr h.nm, decide_eq_true ⟨Nat.zero_le _, h.a⟩, decide_eq_true ⟨Nat.zero_le _, h.b⟩⟩
  unfold vxOf
  rw [if_pos this]
  rfl
theorem readVx_back {t : List Nat} {x : Vx} (h : readVx t = some x) : VxOk x ∧ vxL x = t := by
  unfold readVx readVxP at h
  split at h
  · rename_i a b c d e hq
    obtain ⟨a1, a2, a3, a4, a5, a6⟩ := vxOf_back h
    obtain ⟨b1, b2⟩ := readNmP_back a1
    have e1 := List.cons.inj b2
    have e2 := List.cons.inj e1.2
    have e3 := List.cons.inj e2.2
    refine ⟨⟨b1, a5, a6⟩, ?_⟩
    rw [← join_cut 46 t, hq, e1.1, e2.1, e3.1, (readNum_some a2).1, (readNum_some a3).1]
    unfold vxL idL
    simp [TR.joinL]
  · cases h
theorem readPath_back {t : List Nat} {ps : Path} (h : readPath t = some ps) : okPath ps = true ∧ slashL ps = t := by
  unfold readPath at h
  split at h
  · rename_i h1
    cases h
    exact ⟨h1, join_cut 47 t⟩
  · cases h
theorem path_ok {ps : Path} (h : okPath ps = true) : 1 ≤ ps.length ∧ ps.length ≤ 4 ∧ ∀ p ∈ ps, p.length ≤ 8 ∧ 47 ∉ p := by
  unfold okPath at h
  rw [Bool.and_eq_true] at h
  have h1 := of_decide_eq_true h.1
  refine ⟨h1.1, h1.2, fun p hp => ?_⟩
  have h2 := List.all_eq_true.mp h.2 p hp
  unfold wordB at h2
  rw [Bool.and_eq_true, Bool.and_eq_true] at h2
  have e : (Sg p).length = p.length := rfl
  have h3 := of_decide_eq_true h2.2.1
  rw [e] at h3
  refine ⟨by omega, fun z => ?_⟩
  have := List.all_eq_true.mp h2.2.2 47 z
  exact absurd this (by decide +kernel)
theorem path_sm {ps : Path} (h : okPath ps = true) : SmP ps := by
  obtain ⟨_, a, b⟩ := path_ok h
  exact ⟨by omega, fun p hp => by have := (b p hp).1; omega⟩
theorem readPath_slash {ps : Path} (h : okPath ps = true) : readPath (slashL ps) = some ps := by
  obtain ⟨a, _, b⟩ := path_ok h
  have e : cutAt 47 (slashL ps) = ps := cut_join (by rintro rfl; exact absurd a (by decide)) fun p hp => (b p hp).2
  unfold readPath
  rw [e, if_pos h]
end K20
namespace K20
open PySem PySem.Spec PyProof.Rows L2 TL TR QR
open GxR (TabB TabG Tabbed)
abbrev sRL : Stmt := topS 28
abbrev nRL : List Str := ["text", "level", "colon", "marks", "label", "sign"]
theorem scRL : FnScope nRL ["text"] (defScope sRL) := ⟨rfl, rfl, rfl, by decide +kernel, rfl, by decide +kernel, by decide +kernel⟩
theorem part_free {x : Str} (h : 58 ∉ tl x) : Txt.partition x (Str.ofString ":") = (x, Str.empty, Str.empty) := TL.partition_none (s := 58) (S := []) (by decide +kernel) h
theorem part_at {x : Str} {a b : List Nat} (e : tl x = a ++ 58 :: b) (h : 58 ∉ a) : Txt.partition x (Str.ofString ":") = (Sg a, Str.ofString ":", Sg b) := by
  have ex : x = Sg a ++ Str.ofString ":" ++ Sg b := by
    refine ext_tl ?_
    rw [e, TR.tl_app, TR.tl_app, colon_str]
    show _ = a ++ [58] ++ b
    rw [List.append_assoc]
    rfl
  rw [ex]
  exact TL.partition_app (s := 58) (S := []) (by decide +kernel) (a := Sg a) h
theorem bne_nat (n : Nat) : ((n : Int) != 0) = decide (n ≠ 0) := by
  cases n with
  | zero => rfl
  | succ n =>
    have : ((n + 1 : Nat) : Int) ≠ 0 := by omega
    rw [bne_iff_ne.mpr this, decide_eq_true (Nat.succ_ne_zero n)]
theorem bne_not (n : Nat) : (!((n : Int) != 0)) = decide (n = 0) := by
  rw [bne_nat, ← decide_not, decide_eq_decide]
  omega
theorem Tbs.isNew {Ts : List Addr} {H H' : Hp} {D : Addr} (t : Tbs Ts H H') (n : H' D = none) : H D = none ∧ D ∉ Ts := by
  have h : D ∉ Ts := fun z => by
    obtain ⟨ps, e, _⟩ := t.tg D z
    rw [e] at n
    cases n
  refine ⟨?_, h⟩
  cases e : H D with
  | none => rfl
  | some o =>
    rw [t.sm D o h e] at n
    cases n
theorem Tbs.updN {Ts : List Addr} {H H' : Hp} {D : Addr} {o : HO} (t : Tbs Ts H H') (n : H D = none) (h : D ∉ Ts) : Tbs Ts H (upd H' D o) := by
  refine ⟨fun b o' hb e => ?_, fun T hT => ?_⟩
  · rw [upd_ne (ne_of_none e n)]
    exact t.sm b o' hb e
  · obtain ⟨ps, e, z⟩ := t.tg T hT
    exact ⟨ps, by rw [upd_ne (fun y : T = D => h (y ▸ hT))]; exact e, z⟩
section
variable {P : Program} {w : World} {K : PySem.W.Frag} {mg : Str → Option Value} {base : Heap}
def spRL (Ts : List Addr) : Sp := fun vs H Q _ => ∃ (x : Str), vs = [.str x] ∧ x.length ≤ 100000 ∧ TG Ts H ∧ ∀ H' v, Tbs Ts H H' → OptR LabAt H' v (readLab (tl x)) → Q v H'
theorem ok_RL {T1 f fN fIL : Addr} {Ts : List Addr} {fd fdN fdIL : FuncData} (hT1 : T1 ∈ Ts) (F : Fun K "read_label" "read_label" sRL f fd)
    (GN : FnOk P w K mg base CX0 2 fN fdN ["text", "most"] (spNum T1)) (bN : Binds K fdN ["text", "most"] []) (gN : mg "read_number" = some (.ref fN)) (kN : PySem.W.keepIn K (.ref fN) = true)
    (GIL : FnOk P w K mg base CX0 3 fIL fdIL ["label"] (spIL Ts)) (bIL : Binds K fdIL ["label"] []) (gIL : mg "is_label" = some (.ref fIL)) (kIL : PySem.W.keepIn K (.ref fIL) = true)
    (m_tuple : mg "tuple" = none) : FnOk P w K mg base CX0 4 f fd ["text"] (spRL Ts) := by
  refine F.ok scRL (fun vs H Q E h => ?_) (fun cdv A outer s H vs Q E hr h => ?_)
  · obtain ⟨x, rfl, _⟩ := h
    rfl
  · obtain ⟨x, rfl, hx, g, q⟩ := h
    have hu := hr.units
    have hu1 := hu_of hr
    have hr1 : Room 1 _ := hr.mono (by decide)
    have hr2 : Room 2 _ := hr.mono (by decide)
    have hr3 : Room 3 _ := hr.mono (by decide)
    have zl := zl
    refine ⟨_, (pss_cons (ps_asg (pe_partition (pv 0) (pe_str)) (pg_tup (by rfl) (pgs_cons (pg_name (i := 1) scRL.nd rfl (.inl rfl)) (pgs_cons (pg_name (i := 2) scRL.nd rfl (.inl rfl)) (pgs_cons (pg_name (i := 3) scRL.nd rfl (.inl rfl)) pgs_nil)))))
      (pss_cons (ps_set (i := 4) scRL.nd rfl (.inl rfl) (pe_tup (pa_cons (pe_str) (pa_cons (pe_call GN hr2 (by rfl) gN kN bN .nil pass0 (pa_cons (pv 1) (pa_cons (pe_int) pa_nil))) (pa_cons (pe_callTy call_tuple_of (by rfl) m_tuple (by decide +kernel) (pa_cons (pe_lc (own := [("sign", 5)]) (g := gName 5) (tt := tYes) (te := tCall (spNum T1) [] E0 (tCons (tVar 5) (tCons (tC (.int 5)) tNil))) rfl scRL.nd (pi_str (pv 3)) (blkOk_by (N := nRL) (sc := defScope sRL) (by decide +kernel)) (fun _ _ _ _ _ => by exact pg_name (i := 5) scRL.nd rfl (.inl rfl)) (fun _ _ _ _ _ => pts_nil) (fun _ _ _ _ _ => by exact pe_call GN hr2 (by rfl) gN kN bN .nil pass0 (pa_cons (pv 5) (pa_cons (pe_int) pa_nil)))) pa_nil)) pa_nil)))))
      (pss_cons (ps_if (PW.pt (pw_and (pt_truth (pv 2) (by intro _; rfl)) (pw_and1 (pt_not (pt_truth (pv 3) (by intro _; rfl))))))
      (pss_one (ps_ret (pe_non))) pss_nil)
      (pss_one (ps_ret (pe_ifExp (pt_val (pe_call GIL hr3 (by rfl) gIL kIL bIL .nil pass0 (pa_cons (pv 4) pa_nil))) (pv 4) (pe_non))))))), ?_⟩
    have zl := zl
    -- the three parts
    obtain ⟨lv, co, mk, ep, fit, el⟩ : ∃ (lv co mk : Str), Txt.partition x (Str.ofString ":") = (lv, co, mk) ∧ (lv.length ≤ 100000 ∧ co.length ≤ 1 ∧ mk.length ≤ 100000) ∧
        (readLab (tl x) = if co.length ≠ 0 ∧ mk.length = 0 then none else labOf (readNum (tl lv) 7) (rd5 (tl mk))) := by
      rcases brk_cases (tl x) with ⟨h1, e⟩ | ⟨a, b, e1, h1, e⟩
      · refine ⟨x, Str.empty, Str.empty, part_free h1, ⟨hx, by decide, by decide⟩, ?_⟩
        unfold readLab
        rw [e, if_neg (fun z => z.1 rfl)]
        rfl
      · refine ⟨Sg a, Str.ofString ":", Sg b, part_at e1 h1, ?_, ?_⟩
        · have l1 := len_tl x
          rw [e1, List.length_append, List.length_cons] at l1
          refine ⟨?_, by decide +kernel, ?_⟩
          · show a.length ≤ _
            omega
          · show b.length ≤ _
            omega
        · unfold readLab
          rw [e]
          show (if b = [] then none else labOf (readNum a 7) (rd5 b)) = _
          have hc : (Str.ofString ":").length ≠ 0 := by decide +kernel
          by_cases hb : b = []
          · rw [if_pos hb]
            exact (if_pos ⟨hc, show b.length = 0 by rw [hb]; rfl⟩).symm
          · rw [if_neg hb]
            exact (if_neg fun z => hb (List.eq_nil_of_length_eq_zero z.2)).symm
    refine ⟨_, rfl, ⟨x, rfl⟩, x, _, rfl, rfl, by decide +kernel, by omega, fun p np => ?_⟩
    rw [ep]
    have s1 : Same H (upd H p (.tup [.str lv, .str co, .str mk])) := same_new np
    refine ⟨p, _, rfl, SqT.of upd_same, rfl, ?_⟩
    generalize upd H p (.tup [.str lv, .str co, .str mk]) = H1 at s1
    have t1 := (Tbs.refl g).same s1
    dsimp only [tNext, tSeq, tIfS, tAsg, gName, tC]
    refine ⟨_, _, rfl, _, _, rfl, _, _, rfl, rfl, ?_⟩
    dsimp only [tNext, tSeq, tIfS, tAsg, gName, tC]
    refine ⟨_, rfl, lv, 7, rfl, by omega, by decide, t1.tg T1 hT1, fun H2 t2 => ?_⟩
    have b2 := t1.tab t2 hT1
    refine ⟨_, rfl, mk, rfl, fun D nD => ?_⟩
    obtain ⟨nD0, dTs⟩ := b2.isNew nD
    have dT1 : D ≠ T1 := fun z => dTs (z ▸ hT1)
    have lmk := len_tl mk
    refine lc_it (walk_str (z := mk)) (fun i H' => Tbs Ts H H' ∧ H' D = some (.lst ((rd5 ((tl mk).take i)).map optV))) ⟨b2.updN nD0 dTs, upd_same⟩ (fun _ _ _ _ => trivial) ?_ ?_
    · rintro i v H3 H4 hi ⟨t3, eD⟩ ⟨rfl, c, hc, rfl⟩
      have hc' : (tl mk)[i]? = some c := by rw [Array.getElem?_toList]; exact hc
      have li := (List.getElem?_eq_some_iff.mp hc').1
      refine ⟨rfl, _, rfl, ⟨#[c]⟩, 5, rfl, by show 1 ≤ sizeLine; omega, by decide, t3.tg T1 hT1, fun H5 t5 => ⟨_, (t5.2 D dT1).trans eD, ?_, (t3.tab t5 hT1).updN nD0 dTs, ?_⟩⟩
      · rw [List.length_map]
        unfold rd5
        rw [List.length_map, List.length_take]
        omega
      · rw [upd_same, List.take_add_one, hc']
        unfold rd5
        rw [List.map_append, List.map_append]
        rfl
    · rintro H3 ⟨t3, eD⟩
      rw [List.take_of_length_le (by exact Nat.le_refl _)] at eD
      refine ⟨D, _, rfl, .inl ⟨SqL.of eD, fun u nu => ?_⟩⟩
      obtain ⟨nu0, uTs⟩ := t3.isNew nu
      have t4 : Tbs Ts H (upd H3 u (.tup ((rd5 (tl mk)).map optV))) := t3.updN nu0 uTs
      have eu : (upd H3 u (.tup ((rd5 (tl mk)).map optV))) u = some (.tup ((rd5 (tl mk)).map optV)) := upd_same
      generalize upd H3 u (.tup ((rd5 (tl mk)).map optV)) = H4 at t4 eu
      refine ⟨by show 3 ≤ sizeLine; omega, fun a na => ?_⟩
      obtain ⟨na0, aTs⟩ := t4.isNew na
      have hL : LabO (upd H4 a (.tup [.str (Str.ofString "label"), optV (readNum (tl lv) 7), .ref u])) a u (readNum (tl lv) 7) (rd5 (tl mk)) := ⟨upd_same, by rw [upd_ne (ne_of_none eu na)]; exact eu⟩
      have t5 : Tbs Ts H (upd H4 a (.tup [.str (Str.ofString "label"), optV (readNum (tl lv) 7), .ref u])) := t4.updN na0 aTs
      generalize upd H4 a (.tup [.str (Str.ofString "label"), optV (readNum (tl lv) 7), .ref u]) = H5 at t5 hL
      refine and_dec (p := co.length ≠ 0) (q := mk.length = 0) (fun R k => ⟨_, rfl, _, ⟨by omega, rfl⟩, to_dec (bne_nat _) (k _ same_refl)⟩) (fun _ H6 s6 R k => ⟨_, rfl, _, ⟨by omega, rfl⟩, to_dec (bne_not _) (k _ same_refl)⟩) fun H6 s6 => ite2 (fun h => ?_) (fun h => ?_)
      · have h := of_decide_eq_true h
        rw [if_pos h] at el
        exact q H6 _ (t5.same s6) (by rw [el]; rfl)
      · have h : ¬ (co.length ≠ 0 ∧ mk.length = 0) := fun z => h (decide_eq_true z)
        rw [if_neg h] at el
        have t6 := t5.same s6
        have hL6 : LabO H6 a u (readNum (tl lv) 7) (rd5 (tl mk)) := ⟨s6 _ _ hL.1, s6 _ _ hL.2⟩
        refine ⟨_, rfl, .ref a, rfl, t6.tg, .inr ⟨a, u, _, _, rfl, hL6, ?_, fun H7 t7 => ⟨_, rfl, ite2 (fun h7 => ?_) (fun h7 => ?_)⟩⟩⟩
        · unfold rd5
          rw [List.length_map]
          omega
        · have h7 : labB (readNum (tl lv) 7) (rd5 (tl mk)) = true := h7
          obtain ⟨l, a1, a2, a3, a4⟩ := labOf_some h7
          refine ⟨_, rfl, q H7 _ (t6.trans t7) ?_⟩
          rw [el, a4]
          have e1 := t7.tup t6.tg hL6.1
          have e2 := t7.tup t6.tg hL6.2
          rw [a1] at e1
          rw [a2, List.map_map] at e2
          exact ⟨a, u, rfl, e1, e2⟩
        · have h7 : ¬ labB (readNum (tl lv) 7) (rd5 (tl mk)) = true := h7
          refine q H7 _ (t6.trans t7) ?_
          rw [el]
          unfold labOf
          rw [if_neg h7]
          rfl
end
end K20
namespace K20
open PySem PySem.Spec PyProof.Rows L2 TL TR QR
open GxR (TabB TabG Tabbed)
abbrev sRP : Stmt := topS 29
abbrev nRP : List Str := ["text", "path"]
theorem scRP : FnScope nRP ["text"] (defScope sRP) := ⟨rfl, rfl, rfl, by decide +kernel, rfl, by decide +kernel, by decide +kernel⟩
abbrev sRI : Stmt := topS 30
abbrev nRI : List Str := ["text", "words", "name"]
theorem scRI : FnScope nRI ["text"] (defScope sRI) := ⟨rfl, rfl, rfl, by decide +kernel, rfl, by decide +kernel, by decide +kernel⟩
abbrev sRV : Stmt := topS 31
abbrev nRV : List Str := ["text", "words", "vertex"]
theorem scRV : FnScope nRV ["text"] (defScope sRV) := ⟨rfl, rfl, rfl, by decide +kernel, rfl, by decide +kernel, by decide +kernel⟩
theorem cut_len (c : Nat) : ∀ l : List Nat, (cutAt c l).length ≤ l.length + 1 ∧ ∀ p ∈ cutAt c l, p.length ≤ l.length
  | [] => ⟨Nat.le_refl _, fun p hp => by rw [List.mem_singleton.mp hp]; exact Nat.le_refl _⟩
  | x :: l => by
    obtain ⟨h1, h2⟩ := cut_len c l
    unfold cutAt
    split
    · refine ⟨by rw [List.length_cons, List.length_cons]; omega, fun p hp => ?_⟩
      rcases List.mem_cons.mp hp with e | hp
      · rw [e]
        exact Nat.zero_le _
      · have := h2 p hp
        rw [List.length_cons]
        omega
    · split
      · refine ⟨by simp, fun p hp => ?_⟩
        rw [List.mem_singleton.mp hp]
        simp
      · rename_i p r e
        rw [e] at h1 h2
        refine ⟨by rw [List.length_cons, List.length_cons] at *; omega, fun q hq => ?_⟩
        rcases List.mem_cons.mp hq with e2 | hq
        · have := h2 p List.mem_cons_self
          rw [e2, List.length_cons, List.length_cons]
          omega
        · have := h2 q (List.mem_cons_of_mem _ hq)
          rw [List.length_cons]
          omega
theorem split_words (x : Str) (c : Nat) : (Txt.split x ⟨#[c]⟩).map V.str = strV (cutAt c (tl x)) := by
  rw [split_cut, List.map_map]
  rfl
theorem ne3 {ws : Path} (h : (!decide (V.int ((strV ws).length : Int) = V.int 3)) = true) : ws.length ≠ 3 := fun z => by
  have l : (strV ws).length = 3 := (List.length_map _).trans z
  rw [l] at h
  exact absurd h (by decide)
theorem is3 {ws : Path} (h : ¬ (!decide (V.int ((strV ws).length : Int) = V.int 3)) = true) : ws.length = 3 := Decidable.byContradiction fun z => h (by
  have l : (strV ws).length = ws.length := List.length_map _
  rw [l, Bool.not_eq_true', decide_eq_false_iff_not]
  intro e
  have := V.int.inj e
  omega)
section
variable {P : Program} {w : World} {K : PySem.W.Frag} {mg : Str → Option Value} {base : Heap}
def spRP (Ts : List Addr) : Sp := fun vs H Q _ => ∃ (x : Str), vs = [.str x] ∧ x.length ≤ 90000 ∧ TG Ts H ∧ ∀ H' v, Tbs Ts H H' → OptR PathAt H' v (readPath (tl x)) → Q v H'
theorem ok_RP {f fIP : Addr} {Ts : List Addr} {fd fdIP : FuncData} (F : Fun K "read_path" "read_path" sRP f fd)
    (GIP : FnOk P w K mg base CX0 3 fIP fdIP ["path"] (spIP Ts)) (bIP : Binds K fdIP ["path"] []) (gIP : mg "is_path" = some (.ref fIP)) (kIP : PySem.W.keepIn K (.ref fIP) = true) (m_tuple : mg "tuple" = none) :
    FnOk P w K mg base CX0 4 f fd ["text"] (spRP Ts) := by
  refine F.ok scRP (fun vs H Q E h => ?_) (fun cdv A outer s H vs Q E hr h => ?_)
  · obtain ⟨x, rfl, _⟩ := h
    rfl
  · obtain ⟨x, rfl, hx, g, q⟩ := h
    have hu := hr.units
    have hu1 := hu_of hr
    have hr1 : Room 1 _ := hr.mono (by decide)
    have hr2 : Room 2 _ := hr.mono (by decide)
    have hr3 : Room 3 _ := hr.mono (by decide)
    have zl := zl
    refine ⟨_, (pss_cons (ps_set (i := 1) scRP.nd rfl (.inl rfl) (pe_callTy call_tuple_of (by rfl) m_tuple (by decide +kernel) (pa_cons (pe_split (pv 0) (pe_str)) pa_nil)))
      (pss_one (ps_ret (pe_ifExp (pt_val (pe_call GIP hr3 (by rfl) gIP kIP bIP .nil pass0 (pa_cons (pv 1) pa_nil))) (pv 1) (pe_non))))), ?_⟩
    have zl2 := zl
    obtain ⟨l1, l2⟩ := cut_len 47 (tl x)
    have lx := len_tl x
    refine ⟨_, rfl, ⟨_, rfl⟩, x, _, rfl, rfl, by decide +kernel, by omega, fun p np => ?_⟩
    rw [slash_str, split_words]
    refine ⟨p, _, rfl, .inl ⟨SqL.of upd_same, fun t nt => ?_⟩⟩
    have s1 : Same H (upd (upd H p (.lst (strV (cutAt 47 (tl x))))) t (.tup (strV (cutAt 47 (tl x))))) := same_trans (same_new np) (same_new nt)
    have et : (upd (upd H p (.lst (strV (cutAt 47 (tl x))))) t (.tup (strV (cutAt 47 (tl x))))) t = some (.tup (strV (cutAt 47 (tl x)))) := upd_same
    generalize upd (upd H p (.lst (strV (cutAt 47 (tl x))))) t (.tup (strV (cutAt 47 (tl x)))) = H1 at s1 et
    have t1 := (Tbs.refl g).same s1
    refine ⟨_, rfl, t, cutAt 47 (tl x), rfl, et, by omega, fun l hl => by have := l2 l hl; omega, t1.tg, fun H2 t2 => ⟨_, rfl, ?_⟩⟩
    have et2 := t2.tup t1.tg et
    refine ite2 (fun h => ?_) (fun h => ?_)
    · refine ⟨_, rfl, q H2 _ (t1.trans t2) ?_⟩
      unfold readPath
      rw [if_pos h]
      exact ⟨t, rfl, et2⟩
    · refine q H2 _ (t1.trans t2) ?_
      unfold readPath
      rw [if_neg h]
      rfl
def spRI (Ts : List Addr) : Sp := fun vs H Q _ => ∃ (x : Str), vs = [.str x] ∧ x.length ≤ 90000 ∧ TG Ts H ∧ ∀ H' v, Tbs Ts H H' → OptR NmAt H' v (readNm (tl x)) → Q v H'
theorem ok_RI {T1 f fRL fN fII : Addr} {Ts : List Addr} {fd fdRL fdN fdII : FuncData} (hT1 : T1 ∈ Ts) (F : Fun K "read_id" "read_id" sRI f fd)
    (GRL : FnOk P w K mg base CX0 4 fRL fdRL ["text"] (spRL Ts)) (bRL : Binds K fdRL ["text"] []) (gRL : mg "read_label" = some (.ref fRL)) (kRL : PySem.W.keepIn K (.ref fRL) = true)
    (GN : FnOk P w K mg base CX0 2 fN fdN ["text", "most"] (spNum T1)) (bN : Binds K fdN ["text", "most"] []) (gN : mg "read_number" = some (.ref fN)) (kN : PySem.W.keepIn K (.ref fN) = true)
    (GII : FnOk P w K mg base CX0 4 fII fdII ["name"] (spII Ts)) (bII : Binds K fdII ["name"] []) (gII : mg "is_id" = some (.ref fII)) (kII : PySem.W.keepIn K (.ref fII) = true)
    (m_len : mg "len" = none) : FnOk P w K mg base CX0 5 f fd ["text"] (spRI Ts) := by
  refine F.ok scRI (fun vs H Q E h => ?_) (fun cdv A outer s H vs Q E hr h => ?_)
  · obtain ⟨x, rfl, _⟩ := h
    rfl
  · obtain ⟨x, rfl, hx, g, q⟩ := h
    have hu := hr.units
    have hu1 := hu_of hr
    have hr1 : Room 1 _ := hr.mono (by decide)
    have hr2 : Room 2 _ := hr.mono (by decide)
    have hr3 : Room 3 _ := hr.mono (by decide)
    have hr4 : Room 4 _ := hr.mono (by decide)
    have zl := zl
    refine ⟨_, (pss_cons (ps_set (i := 1) scRI.nd rfl (.inl rfl) (pe_split (pv 0) (pe_str)))
      (pss_cons (ps_if (pt_cmpR op_ne (pe_callB call_len_seq (by rfl) m_len PySem.boot_len (pa_cons (pv 1) pa_nil)) (pe_int) (nomark _))
      (pss_one (ps_ret (pe_non))) pss_nil)
      (pss_cons (ps_set (i := 2) scRI.nd rfl (.inl rfl) (pe_tup (pa_cons (pe_call GRL hr4 (by rfl) gRL kRL bRL .nil pass0 (pa_cons (pe_ix ix_list (pv 1) (pe_int) (fun _ _ => rfl)) pa_nil)) (pa_cons (pe_ix ix_list (pv 1) (pe_int) (fun _ _ => rfl)) (pa_cons (pe_call GN hr2 (by rfl) gN kN bN .nil pass0 (pa_cons (pe_ix ix_list (pv 1) (pe_int) (fun _ _ => rfl)) (pa_cons (pe_int) pa_nil))) pa_nil)))))
      (pss_one (ps_ret (pe_ifExp (pt_val (pe_call GII hr4 (by rfl) gII kII bII .nil pass0 (pa_cons (pv 2) pa_nil))) (pv 2) (pe_non))))))), ?_⟩
    have zl2 := zl
    obtain ⟨l1, l2⟩ := cut_len 46 (tl x)
    have lx := len_tl x
    refine ⟨_, rfl, ⟨_, rfl⟩, x, _, rfl, rfl, by decide +kernel, by omega, fun p np => ?_⟩
    rw [show Str.ofString "." = ⟨#[46]⟩ by decide +kernel, split_words]
    have s1 : Same H (upd H p (.lst (strV (cutAt 46 (tl x))))) := same_new np
    have ep : (upd H p (.lst (strV (cutAt 46 (tl x))))) p = some (.lst (strV (cutAt 46 (tl x)))) := upd_same
    generalize upd H p (.lst (strV (cutAt 46 (tl x)))) = H1 at s1 ep
    have t1 := (Tbs.refl g).same s1
    unfold readNm at q
    generalize cutAt 46 (tl x) = ws at q l1 l2 ep
    dsimp only [tNext, tSeq, tIfS, tAsg, gName, tC]
    refine ⟨_, rfl, p, _, rfl, .inl (SqL.of ep), rfl, _, rfl, ite2 (fun h => ?_) (fun h => ?_)⟩
    · refine q H1 _ t1 ?_
      have h3 : ws.length ≠ 3 := ne3 h
      unfold readNmP
      split
      · exact absurd rfl h3
      · rfl
    · obtain ⟨wa, wb, wc, rfl⟩ : ∃ wa wb wc, ws = [wa, wb, wc] := by
        have h3 : ws.length = 3 := is3 h
        match ws, h3 with
        | [a, b, c], _ => exact ⟨a, b, c, rfl⟩
      have la := l2 wa (by simp)
      have lb := l2 wb (by simp)
      have lc := l2 wc (by simp)
      refine ⟨_, rfl, p, _, _, _, rfl, rfl, SqL.of ep, atI_nat (j := 0) rfl, Sg wa, rfl, by show wa.length ≤ _; omega, t1.tg, fun H2 lv t2 hlv => ?_⟩
      have ep2 := t2.lst t1.tg ep
      have b2 := t1.trans t2
      refine ⟨_, rfl, p, _, _, _, rfl, rfl, SqL.of ep2, atI_nat (j := 1) rfl, _, rfl, p, _, _, _, rfl, rfl, SqL.of ep2, atI_nat (j := 2) rfl, Sg wc, 99999, rfl, by show wc.length ≤ _; omega, by decide, b2.tg T1 hT1, fun H3 t3 => ?_⟩
      have b3 := b2.tab t3 hT1
      refine ⟨by show 3 ≤ sizeLine; omega, fun a na => ?_⟩
      obtain ⟨na0, aTs⟩ := b3.isNew na
      have t23 : TS H2 H3 := fun b xs e => ((Tbs.refl b2.tg).tab t3 hT1).tup b2.tg e
      have ea : (upd H3 a (.tup [lv, .str (Sg wb), optV (readNum wc 99999)])) a = some (.tup [lv, .str (Sg wb), optV (readNum wc 99999)]) := upd_same
      have b4 : Tbs Ts H (upd H3 a (.tup [lv, .str (Sg wb), optV (readNum wc 99999)])) := b3.updN na0 aTs
      have hlv4 : OptR LabAt (upd H3 a (.tup [lv, .str (Sg wb), optV (readNum wc 99999)])) lv (readLab wa) := hlv.ts (t23.trans (Same.ts (same_new na))) fun l hl => hl.ts (t23.trans (Same.ts (same_new na)))
      generalize upd H3 a (.tup [lv, .str (Sg wb), optV (readNum wc 99999)]) = H4 at ea b4 hlv4
      refine ⟨_, rfl, .ref a, rfl, b4.tg, .inr ⟨a, lv, wb, _, _, rfl, ea, by omega, hlv4, fun l e => ?_, fun H5 t5 => ⟨_, rfl, ite2 (fun h5 => ?_) (fun h5 => ?_)⟩⟩⟩
      · have := (readLab_back e).1.ln
        omega
      · have h5 : idB (readLab wa) wb (readNum wc 99999) = true := h5
        obtain ⟨n, a1, a2, a3, a4, a5⟩ := nmOf_some h5
        refine ⟨_, rfl, q H5 _ (b4.trans t5) ?_⟩
        have eq : readNmP [wa, wb, wc] = some n := a5
        rw [eq]
        have e1 := t5.tup b4.tg ea
        have e2 := hlv4.ts (t5.ts b4.tg) fun l hl => hl.ts (t5.ts b4.tg)
        rw [a1] at e2
        rw [a2, a3] at e1
        exact ⟨a, lv, rfl, e1, e2⟩
      · have h5 : ¬ idB (readLab wa) wb (readNum wc 99999) = true := h5
        refine q H5 _ (b4.trans t5) ?_
        have eq : readNmP [wa, wb, wc] = none := if_neg h5
        rw [eq]
        rfl
end
end K20
namespace K20
open PySem PySem.Spec PyProof.Rows L2 TL TR QR
open GxR (TabB TabG Tabbed)
section
variable {P : Program} {w : World} {K : PySem.W.Frag} {mg : Str → Option Value} {base : Heap}
def spRV (Ts : List Addr) : Sp := fun vs H Q _ => ∃ (x : Str), vs = [.str x] ∧ x.length ≤ 90000 ∧ TG Ts H ∧ ∀ H' v, Tbs Ts H H' → OptR VxAt H' v (readVx (tl x)) → Q v H'
theorem ok_RV {T1 f fRI fN fIV : Addr} {Ts : List Addr} {fd fdRI fdN fdIV : FuncData} (hT1 : T1 ∈ Ts) (F : Fun K "read_vertex" "read_vertex" sRV f fd)
    (GRI : FnOk P w K mg base CX0 5 fRI fdRI ["text"] (spRI Ts)) (bRI : Binds K fdRI ["text"] []) (gRI : mg "read_id" = some (.ref fRI)) (kRI : PySem.W.keepIn K (.ref fRI) = true)
    (GN : FnOk P w K mg base CX0 2 fN fdN ["text", "most"] (spNum T1)) (bN : Binds K fdN ["text", "most"] []) (gN : mg "read_number" = some (.ref fN)) (kN : PySem.W.keepIn K (.ref fN) = true)
    (GIV : FnOk P w K mg base CX0 5 fIV fdIV ["vertex"] (spIV Ts)) (bIV : Binds K fdIV ["vertex"] []) (gIV : mg "is_vertex" = some (.ref fIV)) (kIV : PySem.W.keepIn K (.ref fIV) = true)
    (m_len : mg "len" = none) : FnOk P w K mg base CX0 6 f fd ["text"] (spRV Ts) := by
  refine F.ok scRV (fun vs H Q E h => ?_) (fun cdv A outer s H vs Q E hr h => ?_)
  · obtain ⟨x, rfl, _⟩ := h
    rfl
  · obtain ⟨x, rfl, hx, g, q⟩ := h
    have hu := hr.units
    have hu1 := hu_of hr
    have hr1 : Room 1 _ := hr.mono (by decide)
    have hr2 : Room 2 _ := hr.mono (by decide)
    have hr3 : Room 3 _ := hr.mono (by decide)
    have hr4 : Room 4 _ := hr.mono (by decide)
    have hr5 : Room 5 _ := hr.mono (by decide)
    have zl := zl
    refine ⟨_, (pss_cons (ps_set (i := 1) scRV.nd rfl (.inl rfl) (GX.pe_rsplit (pv 0) (pe_str) (pe_int)))
      (pss_cons (ps_if (pt_cmpR op_ne (pe_callB call_len_seq (by rfl) m_len PySem.boot_len (pa_cons (pv 1) pa_nil)) (pe_int) (nomark _))
      (pss_one (ps_ret (pe_non))) pss_nil)
      (pss_cons (ps_set (i := 2) scRV.nd rfl (.inl rfl) (pe_tup (pa_cons (pe_call GRI hr5 (by rfl) gRI kRI bRI .nil pass0 (pa_cons (pe_ix ix_list (pv 1) (pe_int) (fun _ _ => rfl)) pa_nil)) (pa_cons (pe_call GN hr2 (by rfl) gN kN bN .nil pass0 (pa_cons (pe_ix ix_list (pv 1) (pe_int) (fun _ _ => rfl)) (pa_cons (pe_int) pa_nil))) (pa_cons (pe_call GN hr2 (by rfl) gN kN bN .nil pass0 (pa_cons (pe_ix ix_list (pv 1) (pe_int) (fun _ _ => rfl)) (pa_cons (pe_int) pa_nil))) pa_nil)))))
      (pss_one (ps_ret (pe_ifExp (pt_val (pe_call GIV hr5 (by rfl) gIV kIV bIV .nil pass0 (pa_cons (pv 2) pa_nil))) (pv 2) (pe_non))))))), ?_⟩
    have zl2 := zl
    have lx := len_tl x
    refine ⟨_, rfl, ⟨_, rfl⟩, x, _, 2, rfl, rfl, by decide +kernel, by decide, by decide, by omega, fun p np => ?_⟩
    rw [show Str.ofString "." = ⟨#[46]⟩ by decide +kernel]
    have s1 : Same H (upd H p (.lst ((Txt.rsplitMax x ⟨#[46]⟩ 2).map V.str))) := same_new np
    have ep : (upd H p (.lst ((Txt.rsplitMax x ⟨#[46]⟩ 2).map V.str))) p = some (.lst ((Txt.rsplitMax x ⟨#[46]⟩ 2).map V.str)) := upd_same
    generalize upd H p (.lst ((Txt.rsplitMax x ⟨#[46]⟩ 2).map V.str)) = H1 at s1 ep
    have t1 := (Tbs.refl g).same s1
    unfold readVx at q
    dsimp only [tNext, tSeq, tIfS, tAsg, gName, tC]
    rcases rsplit_two x 46 with ⟨h1, h2⟩ | ⟨wa, wb, wc, er, ec, ex⟩
    · generalize Txt.rsplitMax x ⟨#[46]⟩ 2 = R at ep h1
      refine ⟨_, rfl, p, _, rfl, .inl (SqL.of ep), rfl, _, rfl, ite2 (fun h => ?_) (fun h => ?_)⟩
      · refine q H1 _ t1 ?_
        generalize cutAt 46 (tl x) = ws at h2
        unfold readVxP
        split
        · exact absurd h2 (by simp)
        · rfl
      · refine absurd ?_ h
        rw [Bool.not_eq_true', decide_eq_false_iff_not]
        intro e
        have := V.int.inj e
        rw [List.length_map] at this
        omega
    · rw [er] at ep
      rw [ec] at q
      have ep : H1 p = some (.lst (strV [wa, wb, wc])) := ep
      have lxs := congrArg List.length ex
      rw [List.length_append, List.length_cons, List.length_append, List.length_cons] at lxs
      refine ⟨_, rfl, p, _, rfl, .inl (SqL.of ep), rfl, _, rfl, ite2 (fun h => absurd rfl (ne3 (ws := [wa, wb, wc]) h)) (fun _ => ?_)⟩
      obtain ⟨np0, pTs⟩ := (Tbs.refl g).isNew np
      refine ⟨_, rfl, p, _, _, _, rfl, rfl, SqL.of ep, atI_nat (j := 0) rfl, Sg wa, rfl, by show wa.length ≤ _; omega, t1.tg, fun H2 nv t2 hnv => ?_⟩
      have ep2 := t2.lst t1.tg ep
      have b2 := t1.trans t2
      refine ⟨_, rfl, p, _, _, _, rfl, rfl, SqL.of ep2, atI_nat (j := 1) rfl, Sg wb, 11, rfl, by show wb.length ≤ _; omega, by decide, b2.tg T1 hT1, fun H3 t3 => ?_⟩
      have b3 := b2.tab t3 hT1
      have t23 : Tbs Ts H2 H3 := (Tbs.refl b2.tg).tab t3 hT1
      have ep3 := t23.lst b2.tg ep2
      refine ⟨_, rfl, p, _, _, _, rfl, rfl, SqL.of ep3, atI_nat (j := 2) rfl, Sg wc, 199, rfl, by show wc.length ≤ _; omega, by decide, b3.tg T1 hT1, fun H4 t4 => ?_⟩
      have b4 := b3.tab t4 hT1
      have t34 : Tbs Ts H3 H4 := (Tbs.refl b3.tg).tab t4 hT1
      have ts : TS H2 H4 := (t23.ts b2.tg).trans (t34.ts b3.tg)
      refine ⟨by show 3 ≤ sizeLine; omega, fun a na => ?_⟩
      obtain ⟨na0, aTs⟩ := b4.isNew na
      have ea : (upd H4 a (.tup [nv, optV (readNum wb 11), optV (readNum wc 199)])) a = some (.tup [nv, optV (readNum wb 11), optV (readNum wc 199)]) := upd_same
      have b5 : Tbs Ts H (upd H4 a (.tup [nv, optV (readNum wb 11), optV (readNum wc 199)])) := b4.updN na0 aTs
      have hn5 : OptR NmAt (upd H4 a (.tup [nv, optV (readNum wb 11), optV (readNum wc 199)])) nv (readNm wa) := hnv.ts (ts.trans (Same.ts (same_new na))) fun l hl => hl.ts (ts.trans (Same.ts (same_new na)))
      generalize upd H4 a (.tup [nv, optV (readNum wb 11), optV (readNum wc 199)]) = H5 at ea b5 hn5
      have key : readVxP (cutAt 46 wa ++ [wb, wc]) = vxOf (readNm wa) (readNum wb 11) (readNum wc 199) := by
        unfold readNm
        generalize cutAt 46 wa = ws
        match ws with
        | [] => rfl
        | [_] => rfl
        | [_, _] => rfl
        | [_, _, _] => rfl
        | _ :: _ :: _ :: _ :: r =>
          show readVxP (_ :: _ :: _ :: _ :: (r ++ [wb, wc])) = _
          cases r with
          | nil => rfl
          | cons y r => cases r <;> rfl
      rw [key] at q
      refine ⟨_, rfl, a, nv, _, _, readNm wa, rfl, b5.tg, ea, hn5, fun n e => ?_, fun H6 t6 => ⟨_, rfl, ite2 (fun h6 => ?_) (fun h6 => ?_)⟩⟩
      · have sm := (readNm_back e).1.sm
        exact ⟨sm.1.2.1, sm.2.1⟩
      · have h6 : vxB (readNm wa) (readNum wb 11) (readNum wc 199) = true := h6
        obtain ⟨x', a1, a2, a3, _, _, _, a7⟩ := vxOf_some h6
        refine ⟨_, rfl, q H6 _ (b5.trans t6) ?_⟩
        rw [a7]
        have e1 := t6.tup b5.tg ea
        have e2 := hn5.ts (t6.ts b5.tg) fun l hl => hl.ts (t6.ts b5.tg)
        rw [a1] at e2
        rw [a2, a3] at e1
        exact ⟨a, nv, rfl, e1, e2⟩
      · have h6 : ¬ vxB (readNm wa) (readNum wb 11) (readNum wc 199) = true := h6
        refine q H6 _ (b5.trans t6) ?_
        rw [show vxOf (readNm wa) (readNum wb 11) (readNum wc 199) = none from if_neg h6]
        rfl
end
end K20
namespace GX
open PySem PySem.Spec PyProof.Rows L2
def rListS : List V → Hp → VK → Prop := fun xs H Q => ∃ x : Str, xs = [.str x] ∧ x.length ≤ sizeLine ∧ ∀ p, H p = none → Q (.ref p) (upd H p (.lst ((TL.tl x).map fun c => V.str ⟨#[c]⟩)))
theorem call_list_txt {X : Cx} (hc : X.calm = true) : CallR X (.type "list") rListS := by
  intro pins s σ H xs us Q I r h
  obtain ⟨x, e, hz, q⟩ := h
  subst e
  obtain ⟨u, eu, rx⟩ := vals1 r
  subst eu
  obtain ⟨t, rfl⟩ := rx
  have lx : (TL.tl x).length = x.cps.size := Array.length_toList
  refine PySem.call_list_str (I.ok.hd hc) x t (hn := hz) fun h' tk acc' c' hkeep hS hacc => ?_
  refine ⟨.ref s.heap.objs.size, upd H s.heap.objs.size (.lst ((TL.tl x).map fun c => V.str ⟨#[c]⟩)), I.laid hkeep (Nat.le_refl _) (show ObjOk X.prog X.w _ _ _ (.lst ((TL.tl x).map fun c => V.str ⟨#[c]⟩)) from ⟨?_, acc'.toList, c', ?_, ?_⟩), rfl, q _ (I.hok.fresh (Nat.le_refl _))⟩
  · rw [List.length_map, lx]
    exact hz
  · have el : acc'.toList.length = acc'.size := Array.length_toList
    refine vals_of_at (by rw [List.length_map, el, hacc.1, lx]) fun j y w h1 h2 => ?_
    obtain ⟨c, k, hc, hi⟩ := hacc.2 j w (by rw [← Array.getElem?_toList]; exact h2)
    rw [List.getElem?_map] at h1
    rw [show (TL.tl x)[j]? = some c by
      show x.cps.toList[j]? = some c
      rw [Array.getElem?_toList]
      exact hc] at h1
    cases h1
    exact ⟨_, hi⟩
  · simpa using hS
end GX
namespace K20
open PySem PySem.Spec PyProof.Rows L2 TL TR QR
open GxR (TabB TabG Tabbed)
abbrev sLL : Stmt := topS 47
abbrev nLL : List Str := ["state", "mark"]
theorem scLL : FnScope nLL ["state"] (defScope sLL) := ⟨rfl, rfl, rfl, by decide +kernel, rfl, by decide +kernel, by decide +kernel⟩
abbrev sLW : Stmt := topS 48
abbrev nLW : List Str := ["state", "letters", "most", "k"]
theorem scLW : FnScope nLW ["state", "letters", "most"] (defScope sLW) := ⟨rfl, rfl, rfl, by decide +kernel, rfl, by decide +kernel, by decide +kernel⟩
theorem asc_pair : ∀ {ms : List Nat}, ms.Pairwise (· < ·) → ascB (ms.map some) = true := fun {ms} h => by
  unfold ascB
  rw [List.all_eq_true]
  intro k hk
  have hk := List.mem_range.mp hk
  rw [List.length_map] at hk
  have e : ∀ j (hj : j < ms.length), ((ms.map some).getD j none).getD 0 = ms[j] := fun j hj => by
    rw [List.getD_eq_getElem?_getD, List.getElem?_map, List.getElem?_eq_getElem hj]
    rfl
  rw [e k (by omega), e (k + 1) (by omega)]
  exact decide_eq_true (List.pairwise_iff_getElem.mp h k (k + 1) (by omega) (by omega) (by omega))
section
variable {P : Program} {w : World} {K : PySem.W.Frag} {mg : Str → Option Value} {base : Heap}
def spLL : Sp := fun vs H Q _ => ∃ (p c : Addr), vs = [.ref p] ∧ StateAt H p c ∧ ∀ H' v l, Dr p c H H' → LabAt H' v l → LabOk l → Q v H'
theorem ok_LL {f fD : Addr} {fd fdD : FuncData} (F : Fun K "_law_label" "_law_label" sLL f fd)
    (GD : FnOk P w K mg base CX0 1 fD fdD ["state", "many"] spDraw) (bD : Binds K fdD ["state", "many"] []) (gD : mg "_law_draw" = some (.ref fD)) (kD : PySem.W.keepIn K (.ref fD) = true)
    (m_range : mg "range" = none) (m_tuple : mg "tuple" = none) : FnOk P w K mg base CX0 2 f fd ["state"] spLL := by
  refine F.ok scLL (fun vs H Q E h => ?_) (fun cdv A outer s H vs Q E hr h => ?_)
  · obtain ⟨p, c, rfl, _⟩ := h
    rfl
  · obtain ⟨p, c, rfl, st, q⟩ := h
    have hu := hr.units
    have hu1 := hu_of hr
    have hr1 : Room 1 _ := hr.mono (by decide)
    have zl := zl
    refine ⟨_, (pss_one (ps_ret (pe_tup (pa_cons (pe_str) (pa_cons (pe_call GD hr1 (by rfl) gD kD bD .nil pass0 (pa_cons (pv 0) (pa_cons (pe_int) pa_nil))) (pa_cons (pe_callTy call_tuple_of (by rfl) m_tuple (by decide +kernel) (pa_cons (pe_lc (own := [("mark", 1)]) (g := gName 1) (tt := tTest (tOp rEq (tCall spDraw [] E0 (tCons (tVar 0) (tCons (tC (.int 3)) tNil))) (tC (.int 0)))) (te := tVar 1) rfl scLL.nd (pi_range1 (by rfl) m_range (pa_cons (pe_int) pa_nil)) (blkOk_by (N := nLL) (sc := defScope sLL) (by decide +kernel)) (fun _ _ _ _ _ => by exact pg_name (i := 1) scLL.nd rfl (.inl rfl)) (fun _ _ _ _ _ => by exact pts_one (pt_cmpR op_eq (pe_call GD hr1 (by rfl) gD kD bD .nil pass0 (pa_cons (pv 0) (pa_cons (pe_int) pa_nil))) (pe_int) (nomark _))) (fun _ _ _ _ _ => by exact pv 1)) pa_nil)) pa_nil)))))), ?_⟩
    have zl := zl
    refine ⟨_, rfl, p, c, 8, rfl, by decide, st, fun H1 lv _ hlv st1 d1 => ?_⟩
    have hlv := hlv (by decide)
    have r1 := (Dr.refl st).drawn st1 d1
    refine ⟨_, rfl, by decide, by decide, fun D nD => ?_⟩
    have nD0 := r1.none nD
    have nDp := st.new nD0
    refine lc_range (lo := 0) (n := 6) (fun k H3 => Dr p c H H3 ∧ ∃ ms : List Nat, ms.Pairwise (· < ·) ∧ (∀ m ∈ ms, m < k) ∧ ms.length ≤ k ∧ H3 D = some (.lst (ms.map fun m : Nat => V.int (m : Int))))
      ⟨r1.same (same_new nD), [], .nil, (fun m hm => nomatch hm), Nat.le_refl _, upd_same⟩ ?_ ?_
    · rintro k H3 hk ⟨r3, ms, pw, lt, ln, eD⟩
      refine ⟨rfl, _, rfl, p, c, 3, rfl, by decide, r3.st, fun H4 r _ _ st4 d4 => ⟨rfl, _, rfl, ?_⟩⟩
      have r4 := r3.drawn st4 d4
      have eD4 := (d4 D nDp.1 nDp.2).trans eD
      refine ite2 (fun _ => ⟨_, rfl, _, eD4, by rw [List.length_map]; omega, ⟨r4.st.upd nDp, fun b o n1 n2 e => ?_⟩, ms ++ [k], ?_, ?_, ?_, ?_⟩) (fun _ => ⟨r4, ms, pw, fun m hm => by have := lt m hm; omega, by omega, eD4⟩)
      · rw [upd_ne (ne_of_none e nD0)]
        exact r4.ou b o n1 n2 e
      · rw [List.pairwise_append]
        exact ⟨pw, List.pairwise_singleton _ _, fun a ha b hb => by rw [List.mem_singleton.mp hb]; exact lt a ha⟩
      · intro m hm
        rcases List.mem_append.mp hm with h | h
        · have := lt m h
          omega
        · rw [List.mem_singleton.mp h]
          omega
      · rw [List.length_append]
        show ms.length + 1 ≤ _
        omega
      · rw [upd_same, List.map_append, show (0 : Int) + (k : Int) = ((k : Nat) : Int) from Int.zero_add _]
        rfl
    · rintro H3 ⟨r3, ms, pw, lt, ln, eD⟩
      refine ⟨D, _, rfl, .inl ⟨SqL.of eD, fun u nu => ?_⟩⟩
      have r4 : Dr p c H (upd H3 u (.tup (ms.map fun m : Nat => V.int (m : Int)))) := r3.same (same_new nu)
      have eu : (upd H3 u (.tup (ms.map fun m : Nat => V.int (m : Int)))) u = some (.tup (ms.map fun m : Nat => V.int (m : Int))) := upd_same
      generalize upd H3 u (.tup (ms.map fun m : Nat => V.int (m : Int))) = H4 at r4 eu
      refine ⟨by show 3 ≤ sizeLine; omega, fun a na => q _ _ (lv, ms) (r4.same (same_new na)) ⟨a, u, rfl, upd_same, same_new na _ _ eu⟩ ?_⟩
      refine lab_ok.mp ?_
      unfold okLab labB
      rw [Bool.and_eq_true, Bool.and_eq_true]
      refine ⟨decide_eq_true ⟨Nat.zero_le _, by show lv ≤ 7; omega⟩, ?_, asc_pair pw⟩
      rw [List.all_eq_true]
      intro o ho
      obtain ⟨m, hm, rfl⟩ := List.mem_map.mp ho
      exact decide_eq_true ⟨Nat.zero_le _, by have := lt m hm; omega⟩
def spLW : Sp := fun vs H Q _ => ∃ (p c : Addr) (x : Str) (m : Nat), vs = [.ref p, .str x, .int (m : Int)] ∧ 0 < x.length ∧ x.length < 1000 ∧ 0 < m ∧ m ≤ 100 ∧ StateAt H p c ∧
  ∀ H' (wd : List Nat), Dr p c H H' → 1 ≤ wd.length → wd.length ≤ m → (∀ s ∈ wd, s ∈ tl x) → Q (.str (Sg wd)) H'
theorem ok_LW {f fD fP : Addr} {fd fdD fdP : FuncData} (F : Fun K "_law_word" "_law_word" sLW f fd)
    (GD : FnOk P w K mg base CX0 1 fD fdD ["state", "many"] spDraw) (bD : Binds K fdD ["state", "many"] []) (gD : mg "_law_draw" = some (.ref fD)) (kD : PySem.W.keepIn K (.ref fD) = true)
    (GP : FnOk P w K mg base CX0 2 fP fdP ["state", "row"] spPick) (bP : Binds K fdP ["state", "row"] []) (gP : mg "_law_pick" = some (.ref fP)) (kP : PySem.W.keepIn K (.ref fP) = true)
    (m_range : mg "range" = none) (m_list : mg "list" = none) : FnOk P w K mg base CX0 3 f fd ["state", "letters", "most"] spLW := by
  refine F.ok scLW (fun vs H Q E h => ?_) (fun cdv A outer s H vs Q E hr h => ?_)
  · obtain ⟨p, c, x, m, rfl, _⟩ := h
    rfl
  · obtain ⟨p, c, x, m, rfl, x0, x1, m0, m1, st, q⟩ := h
    have hu := hr.units
    have hu1 := hu_of hr
    have hr1 : Room 1 _ := hr.mono (by decide)
    have hr2 : Room 2 _ := hr.mono (by decide)
    have zl := zl
    refine ⟨_, (pss_one (ps_ret (pe_join (pe_str) (pe_lc (own := [("k", 3)]) (g := gName 3) (tt := tYes) (te := tCall spPick [] E0 (tCons (tVar 0) (tCons (tCB GX.rListS (tCons (tVar 1) tNil)) tNil))) rfl scLW.nd (pi_range1 (by rfl) m_range (pa_cons (pe_op op_add (pe_int) (pe_call GD hr1 (by rfl) gD kD bD .nil pass0 (pa_cons (pv 0) (pa_cons (pv 2) pa_nil)))) pa_nil)) (blkOk_by (N := nLW) (sc := defScope sLW) (by decide +kernel)) (fun _ _ _ _ _ => by exact pg_name (i := 3) scLW.nd rfl (.inl rfl)) (fun _ _ _ _ _ => pts_nil) (fun _ _ _ _ _ => by exact pe_call GP hr2 (by rfl) gP kP bP .nil pass0 (pa_cons (pv 0) (pa_cons (pe_callTy (GX.call_list_txt (by rfl)) (by rfl) m_list (by decide +kernel) (pa_cons (pv 1) pa_nil)) pa_nil))))))), ?_⟩
    have zl := zl
    have lx := len_tl x
    refine ⟨⟨_, rfl⟩, _, rfl, _, rfl, p, c, m, rfl, by omega, st, fun H1 n _ hn st1 d1 => ⟨_, _, rfl, rfl, ?_⟩⟩
    have hn := hn m0
    have r1 := (Dr.refl st).drawn st1 d1
    refine ⟨_, rfl, by omega, by omega, fun D nD => ?_⟩
    have nD0 := r1.none nD
    have nDp := st.new nD0
    refine lc_range (lo := 0) (n := ((1 : Int) + (n : Int)).toNat) (fun k H3 => Dr p c H H3 ∧ ∃ wd : List Nat, wd.length = k ∧ (∀ s ∈ wd, s ∈ tl x) ∧ H3 D = some (.lst (wd.map fun s => V.str ⟨#[s]⟩)))
      ⟨r1.same (same_new nD), [], rfl, (fun m hm => nomatch hm), upd_same⟩ ?_ ?_
    · rintro k H3 hk ⟨r3, wd, lw, mem, eD⟩
      refine ⟨rfl, _, rfl, _, rfl, x, rfl, by omega, fun a na => ?_⟩
      have s4 : Same H3 (upd H3 a (.lst ((tl x).map fun c => V.str ⟨#[c]⟩))) := same_new na
      have ea : (upd H3 a (.lst ((tl x).map fun c => V.str ⟨#[c]⟩))) a = some (.lst ((tl x).map fun c => V.str ⟨#[c]⟩)) := upd_same
      have eD4 := s4 _ _ eD
      have r4 := r3.same s4
      have nap := st.new (r3.none na)
      generalize upd H3 a (.lst ((tl x).map fun c => V.str ⟨#[c]⟩)) = H4 at ea eD4 r4
      refine ⟨p, c, a, _, rfl, ea, nap.1, nap.2, by rw [List.length_map]; omega, by rw [List.length_map]; omega, r4.st, fun H5 v hv st5 d5 => ?_⟩
      obtain ⟨sg, hs, rfl⟩ := List.mem_map.mp hv
      have r5 := r4.drawn st5 d5
      refine ⟨_, (d5 D nDp.1 nDp.2).trans eD4, by rw [List.length_map]; omega, ⟨r5.st.upd nDp, fun b o n1 n2 e => ?_⟩, wd ++ [sg], by rw [List.length_append, lw]; rfl, fun s hs' => ?_, ?_⟩
      · rw [upd_ne (ne_of_none e nD0)]
        exact r5.ou b o n1 n2 e
      · rcases List.mem_append.mp hs' with h | h
        · exact mem s h
        · rw [List.mem_singleton.mp h]
          exact hs
      · rw [upd_same, List.map_append]
        rfl
    · rintro H3 ⟨r3, wd, lw, mem, eD⟩
      have eD2 : H3 D = some (.lst ((wd.map fun s => (⟨#[s]⟩ : Str)).map V.str)) := by rw [eD, List.map_map]; rfl
      refine ⟨_, D, _, rfl, rfl, .inl (SqL.of eD2), ?_, ?_⟩
      · have : ∀ l : List Nat, ((l.map fun s => (⟨#[s]⟩ : Str)).map (·.length)).sum = l.length := fun l => by
          induction l with
          | nil => rfl
          | cons y l ih =>
            rw [List.map_cons, List.map_cons, List.sum_cons, ih, List.length_cons]
            show 1 + _ = _
            omega
        rw [this, List.length_map, show (Str.ofString "").length = 0 by decide +kernel]
        omega
      · have ej : Txt.join (Str.ofString "") (wd.map fun s => (⟨#[s]⟩ : Str)) = Sg wd := by
          rw [show Str.ofString "" = Str.empty from rfl, txt_join0, List.map_map]
          have : ∀ l : List Nat, (l.map (tl ∘ fun s => (⟨#[s]⟩ : Str))).flatten = l := fun l => by
            induction l with
            | nil => rfl
            | cons y l ih =>
              rw [List.map_cons, List.flatten_cons, ih]
              rfl
          rw [this]
        rw [ej]
        exact q _ wd r3 (by omega) (by omega) mem
end
end K20
namespace K20
open PySem PySem.Spec PyProof.Rows L2 TL TR QR
open GxR (TabB TabG Tabbed)
abbrev sLN : Stmt := topS 49
abbrev nLN : List Str := ["state", "label", "number"]
theorem scLN : FnScope nLN ["state", "label"] (defScope sLN) := ⟨rfl, rfl, rfl, by decide +kernel, rfl, by decide +kernel, by decide +kernel⟩
abbrev sLV : Stmt := topS 50
abbrev nLV : List Str := ["state", "label", "place"]
theorem scLV : FnScope nLV ["state", "label"] (defScope sLV) := ⟨rfl, rfl, rfl, by decide +kernel, rfl, by decide +kernel, by decide +kernel⟩
abbrev sLP : Stmt := topS 51
abbrev nLP : List Str := ["state", "k"]
theorem scLP : FnScope nLP ["state"] (defScope sLP) := ⟨rfl, rfl, rfl, by decide +kernel, rfl, by decide +kernel, by decide +kernel⟩
theorem wordB_of {wd : List Nat} {x z : Str} (h1 : 1 ≤ wd.length) (h8 : wd.length ≤ 8) (mem : ∀ s ∈ wd, s ∈ tl x) (sub : ∀ s ∈ tl x, s ∈ tl z) : wordB (Sg wd) z 8 = true := by
  unfold wordB
  rw [Bool.and_eq_true, Bool.and_eq_true]
  have e : (Sg wd).length = wd.length := rfl
  refine ⟨decide_eq_true (by rw [e]; omega), decide_eq_true (by rw [e]; omega), ?_⟩
  rw [List.all_eq_true]
  exact fun s hs => decide_eq_true (sub s (mem s hs))
theorem abz_sub : ∀ s ∈ tl (Str.ofString "abz"), s ∈ tl (Str.ofString "abcdefghijklmnopqrstuvwxyz") := by decide +kernel
theorem az09_sub : ∀ s ∈ tl (Str.ofString "az09"), s ∈ tl letS := by decide +kernel
section
variable {P : Program} {w : World} {K : PySem.W.Frag} {mg : Str → Option Value} {base : Heap}
def spLN : Sp := fun vs H Q _ => ∃ (p c : Addr) (lv : V) (l : Lab), vs = [.ref p, lv] ∧ LabAt H lv l ∧ LabOk l ∧ StateAt H p c ∧ ∀ H' v n, Dr p c H H' → NmAt H' v n → NmOk n → n.1 = l → Q v H'
theorem ok_LN {f fD fP fLW : Addr} {fd fdD fdP fdLW : FuncData} (F : Fun K "_law_name" "_law_name" sLN f fd)
    (GD : FnOk P w K mg base CX0 1 fD fdD ["state", "many"] spDraw) (bD : Binds K fdD ["state", "many"] []) (gD : mg "_law_draw" = some (.ref fD)) (kD : PySem.W.keepIn K (.ref fD) = true)
    (GP : FnOk P w K mg base CX0 2 fP fdP ["state", "row"] spPick) (bP : Binds K fdP ["state", "row"] []) (gP : mg "_law_pick" = some (.ref fP)) (kP : PySem.W.keepIn K (.ref fP) = true)
    (GLW : FnOk P w K mg base CX0 3 fLW fdLW ["state", "letters", "most"] spLW) (bLW : Binds K fdLW ["state", "letters", "most"] []) (gLW : mg "_law_word" = some (.ref fLW)) (kLW : PySem.W.keepIn K (.ref fLW) = true) :
    FnOk P w K mg base CX0 4 f fd ["state", "label"] spLN := by
  refine F.ok scLN (fun vs H Q E h => ?_) (fun cdv A outer s H vs Q E hr h => ?_)
  · obtain ⟨p, c, lv, l, rfl, _⟩ := h
    rfl
  · obtain ⟨p, c, lv, l, rfl, hl, lok, st, q⟩ := h
    have hu := hr.units
    have hu1 := hu_of hr
    have hr1 : Room 1 _ := hr.mono (by decide)
    have hr2 : Room 2 _ := hr.mono (by decide)
    have hr3 : Room 3 _ := hr.mono (by decide)
    have zl := zl
    refine ⟨_, (pss_cons (ps_set (i := 2) scLN.nd rfl (.inl rfl) (pe_call GP hr2 (by rfl) gP kP bP .nil pass0 (pa_cons (pv 0) (pa_cons (pe_lst (pa_cons (pe_int) (pa_cons (pe_int) (pa_cons (pe_int) (pa_cons (pe_int) (pa_cons (pe_int) (pa_cons (pe_op op_add (pe_int) (pe_call GD hr1 (by rfl) gD kD bD .nil pass0 (pa_cons (pv 0) (pa_cons (pe_int) pa_nil)))) pa_nil))))))) pa_nil))))
      (pss_one (ps_ret (pe_tup (pa_cons (pv 1) (pa_cons (pe_call GLW hr3 (by rfl) gLW kLW bLW .nil pass0 (pa_cons (pv 0) (pa_cons (pe_str) (pa_cons (pe_int) pa_nil)))) (pa_cons (pv 2) pa_nil))))))), ?_⟩
    have zl := zl
    refine ⟨_, rfl, _, rfl, p, c, 99999, rfl, by decide, st, fun H1 n _ hn st1 d1 => ⟨_, _, rfl, rfl, by show 6 ≤ sizeLine; omega, fun a na => ?_⟩⟩
    have hn := hn (by decide)
    have r1 := (Dr.refl st).drawn st1 d1
    have r2 := r1.same (same_new (o := .lst [.int 1, .int 2, .int 9, .int 10, .int 99999, .int (1 + (n : Int))]) na)
    have ea : (upd H1 a (.lst [.int 1, .int 2, .int 9, .int 10, .int 99999, .int (1 + (n : Int))])) a = some (.lst [.int 1, .int 2, .int 9, .int 10, .int 99999, .int (1 + (n : Int))]) := upd_same
    have nap := st.new (r1.none na)
    generalize upd H1 a (.lst [.int 1, .int 2, .int 9, .int 10, .int 99999, .int (1 + (n : Int))]) = H2 at r2 ea
    refine ⟨p, c, a, _, rfl, ea, nap.1, nap.2, by simp, by simp, r2.st, fun H3 v hv st3 d3 => ?_⟩
    have r3 := r2.drawn st3 d3
    obtain ⟨k, rfl, k1, k2⟩ : ∃ k : Nat, v = .int (k : Int) ∧ 1 ≤ k ∧ k ≤ 99999 := by
      simp only [List.mem_cons, List.not_mem_nil, or_false] at hv
      rcases hv with rfl | rfl | rfl | rfl | rfl | rfl
      · exact ⟨1, rfl, by decide, by decide⟩
      · exact ⟨2, rfl, by decide, by decide⟩
      · exact ⟨9, rfl, by decide, by decide⟩
      · exact ⟨10, rfl, by decide, by decide⟩
      · exact ⟨99999, rfl, by decide, by decide⟩
      · exact ⟨1 + n, by rw [Int.natCast_add]; rfl, by omega, by omega⟩
    refine ⟨_, rfl, _, rfl, p, c, Str.ofString "abz", 8, rfl, by decide +kernel, by decide +kernel, by decide, by decide, r3.st, fun H4 wd r4 w1 w8 mem => ⟨_, rfl, by show 3 ≤ sizeLine; omega, fun b nb => ?_⟩⟩
    have r5 := r3.trans r4
    have hl5 := hl.ts (r5.ts st)
    have r6 := r5.same (same_new (o := .tup [lv, .str (Sg wd), .int (k : Int)]) nb)
    exact q _ _ (l, wd, k) r6 ⟨b, lv, rfl, upd_same, hl5.ts (Same.ts (same_new nb))⟩ ⟨lok, wordB_of w1 w8 mem abz_sub, k1, k2⟩ rfl
def spLV : Sp := fun vs H Q _ => ∃ (p c : Addr) (lv : V) (l : Lab), vs = [.ref p, lv] ∧ LabAt H lv l ∧ LabOk l ∧ StateAt H p c ∧ ∀ H' v n, Dr p c H H' → VxAt H' v n → VxOk n → n.1.1 = l → Q v H'
theorem ok_LV {f fD fP fLN : Addr} {fd fdD fdP fdLN : FuncData} (F : Fun K "_law_vertex" "_law_vertex" sLV f fd)
    (GD : FnOk P w K mg base CX0 1 fD fdD ["state", "many"] spDraw) (bD : Binds K fdD ["state", "many"] []) (gD : mg "_law_draw" = some (.ref fD)) (kD : PySem.W.keepIn K (.ref fD) = true)
    (GP : FnOk P w K mg base CX0 2 fP fdP ["state", "row"] spPick) (bP : Binds K fdP ["state", "row"] []) (gP : mg "_law_pick" = some (.ref fP)) (kP : PySem.W.keepIn K (.ref fP) = true)
    (GLN : FnOk P w K mg base CX0 4 fLN fdLN ["state", "label"] spLN) (bLN : Binds K fdLN ["state", "label"] []) (gLN : mg "_law_name" = some (.ref fLN)) (kLN : PySem.W.keepIn K (.ref fLN) = true) :
    FnOk P w K mg base CX0 5 f fd ["state", "label"] spLV := by
  refine F.ok scLV (fun vs H Q E h => ?_) (fun cdv A outer s H vs Q E hr h => ?_)
  · obtain ⟨p, c, lv, l, rfl, _⟩ := h
    rfl
  · obtain ⟨p, c, lv, l, rfl, hl, lok, st, q⟩ := h
    have hu := hr.units
    have hu1 := hu_of hr
    have hr1 : Room 1 _ := hr.mono (by decide)
    have hr2 : Room 2 _ := hr.mono (by decide)
    have hr3 : Room 3 _ := hr.mono (by decide)
    have hr4 : Room 4 _ := hr.mono (by decide)
    have zl := zl
    refine ⟨_, (pss_cons (ps_set (i := 2) scLV.nd rfl (.inl rfl) (pe_call GP hr2 (by rfl) gP kP bP .nil pass0 (pa_cons (pv 0) (pa_cons (pe_lst (pa_cons (pe_int) (pa_cons (pe_int) (pa_cons (pe_call GD hr1 (by rfl) gD kD bD .nil pass0 (pa_cons (pv 0) (pa_cons (pe_int) pa_nil))) pa_nil)))) pa_nil))))
      (pss_one (ps_ret (pe_tup (pa_cons (pe_call GLN hr4 (by rfl) gLN kLN bLN .nil pass0 (pa_cons (pv 0) (pa_cons (pv 1) pa_nil))) (pa_cons (pv 2) (pa_cons (pe_call GP hr2 (by rfl) gP kP bP .nil pass0 (pa_cons (pv 0) (pa_cons (pe_lst (pa_cons (pe_int) (pa_cons (pe_int) (pa_cons (pe_int) (pa_cons (pe_call GD hr1 (by rfl) gD kD bD .nil pass0 (pa_cons (pv 0) (pa_cons (pe_int) pa_nil))) pa_nil))))) pa_nil))) pa_nil))))))), ?_⟩
    have zl := zl
    refine ⟨_, rfl, _, rfl, p, c, 12, rfl, by decide, st, fun H1 n _ hn st1 d1 => ⟨by show 3 ≤ sizeLine; omega, fun a na => ?_⟩⟩
    have hn := hn (by decide)
    have r1 := (Dr.refl st).drawn st1 d1
    have r2 := r1.same (same_new (o := .lst [.int 0, .int 11, .int (n : Int)]) na)
    have ea : (upd H1 a (.lst [.int 0, .int 11, .int (n : Int)])) a = some (.lst [.int 0, .int 11, .int (n : Int)]) := upd_same
    have nap := st.new (r1.none na)
    generalize upd H1 a (.lst [.int 0, .int 11, .int (n : Int)]) = H2 at r2 ea
    refine ⟨p, c, a, _, rfl, ea, nap.1, nap.2, by simp, by simp, r2.st, fun H3 v hv st3 d3 => ?_⟩
    have r3 := r2.drawn st3 d3
    obtain ⟨k, rfl, k2⟩ : ∃ k : Nat, v = .int (k : Int) ∧ k ≤ 11 := by
      simp only [List.mem_cons, List.not_mem_nil, or_false] at hv
      rcases hv with rfl | rfl | rfl
      · exact ⟨0, rfl, by decide⟩
      · exact ⟨11, rfl, by decide⟩
      · exact ⟨n, rfl, by omega⟩
    refine ⟨_, rfl, _, rfl, p, c, lv, l, rfl, hl.ts (r3.ts st), lok, r3.st, fun H4 nv nm r4 hnv nok nml => ⟨_, rfl, _, rfl, _, rfl, p, c, 200, rfl, by decide, r4.st, fun H5 n2 _ hn2 st5 d5 => ⟨by show 4 ≤ sizeLine; omega, fun b nb => ?_⟩⟩⟩
    have hn2 := hn2 (by decide)
    have r5 := (r3.trans r4).drawn st5 d5
    have r6 := r5.same (same_new (o := .lst [.int 0, .int 199, .int 10, .int (n2 : Int)]) nb)
    have t45 : TS H4 (upd H5 b (.lst [.int 0, .int 199, .int 10, .int (n2 : Int)])) := (((Dr.refl r4.st).drawn st5 d5).same (same_new nb)).ts r4.st
    have eb : (upd H5 b (.lst [.int 0, .int 199, .int 10, .int (n2 : Int)])) b = some (.lst [.int 0, .int 199, .int 10, .int (n2 : Int)]) := upd_same
    have nbp := st.new (r5.none nb)
    generalize upd H5 b (.lst [.int 0, .int 199, .int 10, .int (n2 : Int)]) = H6 at r6 eb t45
    refine ⟨p, c, b, _, rfl, eb, nbp.1, nbp.2, by simp, by simp, r6.st, fun H7 v hv st7 d7 => ⟨by show 3 ≤ sizeLine; omega, fun d nd => ?_⟩⟩
    have r7 := r6.drawn st7 d7
    obtain ⟨j, rfl, j2⟩ : ∃ k : Nat, v = .int (k : Int) ∧ k ≤ 199 := by
      simp only [List.mem_cons, List.not_mem_nil, or_false] at hv
      rcases hv with rfl | rfl | rfl | rfl
      · exact ⟨0, rfl, by decide⟩
      · exact ⟨199, rfl, by decide⟩
      · exact ⟨10, rfl, by decide⟩
      · exact ⟨n2, rfl, by omega⟩
    have t67 : TS H6 H7 := ((Dr.refl r6.st).drawn st7 d7).ts r6.st
    have hn7 := hnv.ts (t45.trans t67)
    exact q _ _ (nm, k, j) (r7.same (same_new nd)) ⟨d, nv, rfl, upd_same, hn7.ts (Same.ts (same_new nd))⟩ ⟨nok, k2, j2⟩ nml
def spLP : Sp := fun vs H Q _ => ∃ (p c : Addr), vs = [.ref p] ∧ StateAt H p c ∧ ∀ H' v ps, Dr p c H H' → PathAt H' v ps → okPath ps = true → Q v H'
theorem ok_LP {f fD fLW : Addr} {fd fdD fdLW : FuncData} (F : Fun K "_law_path" "_law_path" sLP f fd)
    (GD : FnOk P w K mg base CX0 1 fD fdD ["state", "many"] spDraw) (bD : Binds K fdD ["state", "many"] []) (gD : mg "_law_draw" = some (.ref fD)) (kD : PySem.W.keepIn K (.ref fD) = true)
    (GLW : FnOk P w K mg base CX0 3 fLW fdLW ["state", "letters", "most"] spLW) (bLW : Binds K fdLW ["state", "letters", "most"] []) (gLW : mg "_law_word" = some (.ref fLW)) (kLW : PySem.W.keepIn K (.ref fLW) = true)
    (m_range : mg "range" = none) (m_tuple : mg "tuple" = none) : FnOk P w K mg base CX0 4 f fd ["state"] spLP := by
  refine F.ok scLP (fun vs H Q E h => ?_) (fun cdv A outer s H vs Q E hr h => ?_)
  · obtain ⟨p, c, rfl, _⟩ := h
    rfl
  · obtain ⟨p, c, rfl, st, q⟩ := h
    have hu := hr.units
    have hu1 := hu_of hr
    have hr1 : Room 1 _ := hr.mono (by decide)
    have hr2 : Room 2 _ := hr.mono (by decide)
    have hr3 : Room 3 _ := hr.mono (by decide)
    have zl := zl
    refine ⟨_, (pss_one (ps_ret (pe_callTy call_tuple_of (by rfl) m_tuple (by decide +kernel) (pa_cons (pe_lc (own := [("k", 1)]) (g := gName 1) (tt := tYes) (te := tCall spLW [] E0 (tCons (tVar 0) (tCons (tC (.str "az09")) (tCons (tC (.int 8)) tNil)))) rfl scLP.nd (pi_range1 (by rfl) m_range (pa_cons (pe_op op_add (pe_int) (pe_call GD hr1 (by rfl) gD kD bD .nil pass0 (pa_cons (pv 0) (pa_cons (pe_int) pa_nil)))) pa_nil)) (blkOk_by (N := nLP) (sc := defScope sLP) (by decide +kernel)) (fun _ _ _ _ _ => by exact pg_name (i := 1) scLP.nd rfl (.inl rfl)) (fun _ _ _ _ _ => pts_nil) (fun _ _ _ _ _ => by exact pe_call GLW hr3 (by rfl) gLW kLW bLW .nil pass0 (pa_cons (pv 0) (pa_cons (pe_str) (pa_cons (pe_int) pa_nil))))) pa_nil)))), ?_⟩
    have zl := zl
    refine ⟨_, rfl, p, c, 4, rfl, by decide, st, fun H1 n _ hn st1 d1 => ⟨_, _, rfl, rfl, ?_⟩⟩
    have hn := hn (by decide)
    have r1 := (Dr.refl st).drawn st1 d1
    refine ⟨_, rfl, by omega, by omega, fun D nD => ?_⟩
    have nD0 := r1.none nD
    have nDp := st.new nD0
    refine lc_range (lo := 0) (n := ((1 : Int) + (n : Int)).toNat) (fun k H3 => Dr p c H H3 ∧ ∃ ps : Path, ps.length = k ∧ (∀ l ∈ ps, wordB (Sg l) letS 8 = true) ∧ H3 D = some (.lst (strV ps)))
      ⟨r1.same (same_new nD), [], rfl, (fun m hm => nomatch hm), upd_same⟩ ?_ ?_
    · rintro k H3 hk ⟨r3, ps, lp, ok, eD⟩
      refine ⟨rfl, _, rfl, p, c, Str.ofString "az09", 8, rfl, by decide +kernel, by decide +kernel, by decide, by decide, r3.st, fun H4 wd r4 w1 w8 mem => ?_⟩
      have r5 := r3.trans r4
      refine ⟨_, r4.ou D _ nDp.1 nDp.2 eD, by rw [List.length_map]; omega, ⟨r5.st.upd nDp, fun b o n1 n2 e => ?_⟩, ps ++ [wd], by rw [List.length_append, lp]; rfl, fun s hs' => ?_, ?_⟩
      · rw [upd_ne (ne_of_none e nD0)]
        exact r5.ou b o n1 n2 e
      · rcases List.mem_append.mp hs' with h | h
        · exact ok s h
        · rw [List.mem_singleton.mp h]
          exact wordB_of w1 w8 mem az09_sub
      · rw [upd_same]
        unfold strV
        rw [List.map_append]
        rfl
    · rintro H3 ⟨r3, ps, lp, ok, eD⟩
      refine ⟨D, _, rfl, .inl ⟨SqL.of eD, fun u nu => ?_⟩⟩
      refine q _ _ ps (r3.same (same_new nu)) ⟨u, rfl, upd_same⟩ ?_
      unfold okPath
      rw [Bool.and_eq_true]
      exact ⟨decide_eq_true (by omega), List.all_eq_true.mpr ok⟩
end
end K20
namespace K20
open PySem PySem.Spec PyProof.Rows L2 TL TR QR
open GxR (TabB TabG Tabbed)
section
open PySem.W (Datum)
def labD (l : Lab) : PyData := .tuple [.str "label", .int (l.1 : Int), .tuple (l.2.map fun m : Nat => PyData.int (m : Int))]
def pathD (ps : Path) : PyData := .tuple (ps.map fun l => PyData.str (Sg l))
def nmD (n : Nm) : PyData := .tuple [labD n.1, .str (Sg n.2.1), .int (n.2.2 : Int)]
def vxD (x : Vx) : PyData := .tuple [nmD x.1, .int (x.2.1 : Int), .int (x.2.2 : Int)]
variable {K : PySem.W.Frag} {H : Hp} {v : V}
theorem dp_ints : ∀ l : List Nat, DpAll K H (l.map fun m : Nat => V.int (m : Int)) (l.map fun m : Nat => PyData.int (m : Int))
  | [] => .nil
  | m :: r => .cons (.int _) (dp_ints r)
theorem dp_strs : ∀ l : Path, DpAll K H (strV l) (l.map fun l => PyData.str (Sg l))
  | [] => .nil
  | m :: r => .cons (.str _) (dp_strs r)
theorem dp_lab {l : Lab} : LabAt H v l → Dp K H v (labD l) := fun ⟨la, ma, e, a, b⟩ => by
  rw [e]
  exact .tup (SqT.of a) (.cons (.str _) (.cons (.int _) (.cons (.tup (SqT.of b) (dp_ints _)) .nil)))
theorem dp_path {ps : Path} : PathAt H v ps → Dp K H v (pathD ps) := fun ⟨a, e, h⟩ => by
  rw [e]
  exact .tup (SqT.of h) (dp_strs _)
theorem dp_nm {n : Nm} : NmAt H v n → Dp K H v (nmD n) := fun ⟨na, lv, e, a, b⟩ => by
  rw [e]
  exact .tup (SqT.of a) (.cons (dp_lab b) (.cons (.str _) (.cons (.int _) .nil)))
theorem dp_vx {n : Vx} : VxAt H v n → Dp K H v (vxD n) := fun ⟨na, lv, e, a, b⟩ => by
  rw [e]
  exact .tup (SqT.of a) (.cons (dp_nm b) (.cons (.int _) (.cons (.int _) .nil)))
theorem plain_ints : ∀ l : List Nat, PyData.plainAll (l.map fun m : Nat => PyData.int (m : Int)) = true ∧ PyData.depthAll (l.map fun m : Nat => PyData.int (m : Int)) = 0
  | [] => ⟨rfl, rfl⟩
  | m :: r => by
    obtain ⟨a, b⟩ := plain_ints r
    exact ⟨by simp [PyData.plainAll, PyData.plain, a], by simp [PyData.depthAll, PyData.depth, b]⟩
theorem plain_strs : ∀ l : Path, PyData.plainAll (l.map fun l => PyData.str (Sg l)) = true ∧ PyData.depthAll (l.map fun l => PyData.str (Sg l)) = 0
  | [] => ⟨rfl, rfl⟩
  | m :: r => by
    obtain ⟨a, b⟩ := plain_strs r
    exact ⟨by simp [PyData.plainAll, PyData.plain, a], by simp [PyData.depthAll, PyData.depth, b]⟩
theorem plain_four (l : Lab) (ps : Path) (n : Nm) (x : Vx) : (PyData.list [labD l, pathD ps, nmD n, vxD x]).plain = true ∧ (PyData.list [labD l, pathD ps, nmD n, vxD x]).depth ≤ 60 := by
  have a := plain_ints l.2
  have b := plain_strs ps
  have c := plain_ints n.1.2
  have d := plain_ints x.1.1.2
  unfold vxD nmD pathD labD
  constructor
  · simp [PyData.plain, PyData.plainAll, a.1, b.1, c.1, d.1]
  · simp [PyData.depth, PyData.depthAll, a.2, b.2, c.2, d.2]
theorem join_len {b : Nat} : ∀ {P : Path}, (∀ p ∈ P, p.length ≤ b) → (TR.joinL 47 P).length ≤ (b + 1) * P.length
  | [], _ => Nat.le_refl _
  | [p], h => by
    have := h p List.mem_cons_self
    show p.length ≤ (b + 1) * 1
    omega
  | p :: q :: r, h => by
    have := h p List.mem_cons_self
    have ih := join_len (P := q :: r) fun x hx => h x (List.mem_cons_of_mem _ hx)
    show (p ++ 47 :: TR.joinL 47 (q :: r)).length ≤ _
    rw [List.length_append, List.length_cons, List.length_cons (as := q :: r), Nat.mul_succ]
    omega
end
/-! ### the data: equality and order -/
mutual
def solid : PyData → Bool
  | .int _ => true
  | .str _ => true
  | .list xs => solidAll xs
  | .tuple xs => solidAll xs
  | _ => false
def solidAll : List PyData → Bool
  | [] => true
  | x :: xs => solid x && solidAll xs
end
theorem solidAll_cons {x : PyData} {xs : List PyData} (h : solidAll (x :: xs) = true) : solid x = true ∧ solidAll xs = true := by
  rw [solidAll, Bool.and_eq_true] at h
  exact h
mutual
theorem eqv_solid : ∀ d e : PyData, solid d = true → solid e = true → PyData.eqv d e = true → d = e
  | .none, _, h, _, _ => by simp [solid] at h
  | .bool _, _, h, _, _ => by simp [solid] at h
  | .dict _, _, h, _, _ => by simp [solid] at h
  | .int i, e, h, g, q => by
    cases e with
    | int j => simp [PyData.eqv] at q; rw [q]
    | bool b => simp [solid] at g
    | _ => simp [PyData.eqv] at q
  | .str i, e, h, g, q => by
    cases e with
    | str j => simp [PyData.eqv] at q; rw [q]
    | _ => simp [PyData.eqv] at q
  | .list xs, e, h, g, q => by
    cases e with
    | list ys =>
      rw [PyData.eqv] at q
      rw [eqvAll_solid xs ys (by rw [solid] at h; exact h) (by rw [solid] at g; exact g) q]
    | _ => simp [PyData.eqv] at q
  | .tuple xs, e, h, g, q => by
    cases e with
    | tuple ys =>
      rw [PyData.eqv] at q
      rw [eqvAll_solid xs ys (by rw [solid] at h; exact h) (by rw [solid] at g; exact g) q]
    | _ => simp [PyData.eqv] at q
theorem eqvAll_solid : ∀ xs ys : List PyData, solidAll xs = true → solidAll ys = true → PyData.eqvAll xs ys = true → xs = ys
  | [], [], _, _, _ => rfl
  | [], _ :: _, _, _, q => by simp [PyData.eqvAll] at q
  | _ :: _, [], _, _, q => by simp [PyData.eqvAll] at q
  | x :: xs, y :: ys, h, g, q => by
    obtain ⟨h1, h2⟩ := solidAll_cons h
    obtain ⟨g1, g2⟩ := solidAll_cons g
    rw [PyData.eqvAll, Bool.and_eq_true] at q
    rw [eqv_solid x y h1 g1 q.1, eqvAll_solid xs ys h2 g2 q.2]
end
mutual
theorem solid_plain : ∀ d : PyData, solid d = true → d.plain = true
  | .none, h => by simp [solid] at h
  | .bool _, h => by simp [solid] at h
  | .dict _, h => by simp [solid] at h
  | .int _, _ => rfl
  | .str _, _ => rfl
  | .list xs, h => by
    rw [PyData.plain]
    exact solidAll_plain xs (by rw [solid] at h; exact h)
  | .tuple xs, h => by
    rw [PyData.plain]
    exact solidAll_plain xs (by rw [solid] at h; exact h)
theorem solidAll_plain : ∀ xs : List PyData, solidAll xs = true → PyData.plainAll xs = true
  | [], _ => rfl
  | x :: xs, h => by
    obtain ⟨h1, h2⟩ := solidAll_cons h
    rw [PyData.plainAll, solid_plain x h1, solidAll_plain xs h2]
    rfl
end
theorem eqv_iff {d e : PyData} (h : solid d = true) (g : solid e = true) : PyData.eqv d e = true ↔ d = e :=
  ⟨eqv_solid d e h g, fun z => by rw [← z]; exact PySem.SeqAt.eqv_refl_plain d (solid_plain d h)⟩
theorem solid_ints : ∀ l : List Nat, solidAll (l.map fun m : Nat => PyData.int (m : Int)) = true
  | [] => rfl
  | m :: r => by rw [List.map_cons, solidAll, solid_ints r]; rfl
theorem solid_strs : ∀ l : Path, solidAll (l.map fun l => PyData.str (Sg l)) = true
  | [] => rfl
  | m :: r => by rw [List.map_cons, solidAll, solid_strs r]; rfl
theorem solid_lab (l : Lab) : solid (labD l) = true := by
  unfold labD
  simp [solid, solidAll, solid_ints]
theorem solid_path (l : Path) : solid (pathD l) = true := by
  unfold pathD
  rw [solid]
  exact solid_strs l
theorem solid_nm (n : Nm) : solid (nmD n) = true := by
  unfold nmD
  simp [solid, solidAll, solid_lab]
theorem solid_vx (n : Vx) : solid (vxD n) = true := by
  unfold vxD
  simp [solid, solidAll, solid_nm]
theorem ints_inj : ∀ {a b : List Nat}, (a.map fun m : Nat => PyData.int (m : Int)) = (b.map fun m : Nat => PyData.int (m : Int)) → a = b
  | [], [], _ => rfl
  | [], _ :: _, h => by cases h
  | _ :: _, [], h => by cases h
  | x :: a, y :: b, h => by
    have h1 := (List.cons.inj h).1
    have h2 := ints_inj (List.cons.inj h).2
    have h3 := PyData.int.inj h1
    rw [h2, show x = y by omega]
theorem sg_inj {a b : List Nat} (h : Sg a = Sg b) : a = b := congrArg tl h
theorem strs_inj : ∀ {a b : Path}, (a.map fun l => PyData.str (Sg l)) = (b.map fun l => PyData.str (Sg l)) → a = b
  | [], [], _ => rfl
  | [], _ :: _, h => by cases h
  | _ :: _, [], h => by cases h
  | x :: a, y :: b, h => by
    rw [strs_inj (List.cons.inj h).2, sg_inj (PyData.str.inj (List.cons.inj h).1)]
theorem lab_inj {a b : Lab} (h : labD a = labD b) : a = b := by
  unfold labD at h
  injection h with h
  injection h with _ h
  injection h with h1 h
  injection h with h2 _
  injection h1 with h1
  injection h2 with h2
  exact Prod.ext (by omega) (ints_inj h2)
theorem path_inj {a b : Path} (h : pathD a = pathD b) : a = b := by
  unfold pathD at h
  injection h with h
  exact strs_inj h
theorem nm_inj {a b : Nm} (h : nmD a = nmD b) : a = b := by
  unfold nmD at h
  injection h with h
  injection h with h0 h
  injection h with h1 h
  injection h with h2 _
  injection h1 with h1
  injection h2 with h2
  exact Prod.ext (lab_inj h0) (Prod.ext (sg_inj h1) (by show a.2.2 = b.2.2; omega))
theorem vx_inj {a b : Vx} (h : vxD a = vxD b) : a = b := by
  unfold vxD at h
  injection h with h
  injection h with h0 h
  injection h with h1 h
  injection h with h2 _
  injection h1 with h1
  injection h2 with h2
  exact Prod.ext (nm_inj h0) (Prod.ext (by show a.2.1 = b.2.1; omega) (by show a.2.2 = b.2.2; omega))
theorem vxs_inj : ∀ {a b : List Vx}, a.map vxD = b.map vxD → a = b
  | [], [], _ => rfl
  | [], _ :: _, h => by cases h
  | _ :: _, [], h => by cases h
  | x :: a, y :: b, h => by rw [vxs_inj (List.cons.inj h).2, vx_inj (List.cons.inj h).1]
theorem solid_vxs : ∀ l : List Vx, solidAll (l.map vxD) = true
  | [] => rfl
  | m :: r => by rw [List.map_cons, solidAll, solid_vx, solid_vxs r]; rfl
theorem alike_ints : ∀ a b : List Nat, PySem.W.alikeAll (a.map fun m : Nat => PyData.int (m : Int)) (b.map fun m : Nat => PyData.int (m : Int)) = true
  | [], _ => by rw [List.map_nil, PySem.W.alikeAll]
  | _ :: _, [] => by rw [List.map_nil, List.map_cons, PySem.W.alikeAll]
  | x :: a, y :: b => by
    rw [List.map_cons, List.map_cons, PySem.W.alikeAll, alike_ints a b]
    simp [PySem.W.alike]
theorem alike_vx (a b : Vx) : PySem.W.alike (vxD a) (vxD b) = true := by
  unfold vxD nmD labD
  simp [PySem.W.alike, PySem.W.alikeAll, alike_ints]
theorem vx_depth (x : Vx) : (vxD x).depth = 4 := by
  unfold vxD nmD labD
  simp [PyData.depth, PyData.depthAll, (plain_ints x.1.1.2).2]
/-- before, in the order of the vertices -/
def vlt (a b : Vx) : Bool := PySem.W.dataLt (vxD a) (vxD b)
theorem vlt_total {a b : Vx} (ne : a ≠ b) (h : vlt b a = false) : vlt a b = true := by
  cases h2 : vlt a b with
  | true => rfl
  | false =>
    exfalso
    have e : PySem.W.keyToks (vxD a) = PySem.W.keyToks (vxD b) := PyProof.Rows.lex_total _ _ h2 h
    have q : PyData.eqv (vxD a) (vxD b) = false := Bool.eq_false_iff.mpr fun z => ne (vx_inj ((eqv_iff (solid_vx a) (solid_vx b)).mp z))
    have t := (PySem.W.toks_eqv _ _ (alike_vx a b)).2 q [] [Sum.inl 0]
    rw [e, PySem.W.lex_pre] at t
    rw [PyProof.Rows.lex_irrefl] at t
    cases t
/-- ascending, each once -/
def Ris (xs : List Vx) : Prop := ∀ (k : Nat) (x y : Vx), xs[k]? = some x → xs[k + 1]? = some y → vlt x y = true
theorem ris_sort {bs : List Vx} (nd : bs.Nodup) : Ris (bs.mergeSort (PySem.W.dataLe false vxD)) := by
  have pw := PySem.W.sort_pairwise (le := PySem.W.dataLe false vxD) (PySem.W.sortLe_total _ _ _) bs
  have pm := List.mergeSort_perm bs (PySem.W.dataLe false vxD)
  have nd2 : (bs.mergeSort (PySem.W.dataLe false vxD)).Nodup := pm.nodup_iff.mpr nd
  generalize bs.mergeSort (PySem.W.dataLe false vxD) = ys at pw nd2
  intro k x y hx hy
  obtain ⟨lx, ex⟩ := List.getElem?_eq_some_iff.mp hx
  obtain ⟨ly, ey⟩ := List.getElem?_eq_some_iff.mp hy
  have a := List.pairwise_iff_getElem.mp pw k (k + 1) lx ly (by omega)
  have b := List.pairwise_iff_getElem.mp nd2 k (k + 1) lx ly (by omega)
  rw [ex, ey] at a b
  refine vlt_total b ?_
  have a : (!vlt y x) = true := a
  rwa [Bool.not_eq_true'] at a
end K20
/-! rules of my own: < of data, not in, sorted of data, d.get of a written dict, s.startswith -/
namespace GX
open PySem PySem.Spec PyProof.Rows L2 GxR
section
variable {X : Cx}
def rLtP (K : PySem.W.Frag) : R2 := fun x y H Q => ∃ d e, Dp K H x d ∧ Dp K H y e ∧ PySem.W.alike d e = true ∧ d ≠ .none ∧ d.depth ≤ 60 ∧ Q (.bl (PySem.W.dataLt d e)) H
theorem op_ltP (hu : X.A.units + 64 < cLine) : OpR X (compareOp .Lt) (rLtP X.K) := fun pins s σ H x y v u Q I rx ry ⟨d, e, hd, he, al, nn, dd, q⟩ => by
  obtain ⟨as, r1⟩ := Dp.reads I d x v hd rx
  obtain ⟨bs, r2⟩ := Dp.reads I e y u he ry
  exact PySem.W.lt_data r1 r2 al nn (by omega) ⟨.bl _, H, I, rfl, q⟩
/-- x not in xs, xs a list of plain data -/
def rNotInP (K : PySem.W.Frag) : R2 := fun x y H Q => ∃ (xs : List PyData) (d : PyData), Dp K H y (.list xs) ∧ Dp K H x d ∧ PyData.plainAll xs = true ∧ d.plain = true ∧ d.depth ≤ 60 ∧ Q (.bl (!xs.any fun y => PyData.eqv y d)) H
theorem op_notInP (hu : X.A.units + 64 < cLine) : OpR X (compareOp .NotIn) (rNotInP X.K) := fun pins s σ H x y v u Q I rx ry ⟨xs, d, hy, hx, px, pd, dd, q⟩ => by
  obtain ⟨as, r1⟩ := Dp.reads I _ y u hy ry
  obtain ⟨bs, r2⟩ := Dp.reads I d x v hx rx
  exact PySem.SeqAt.notIn_list_data r1 r2 px pd (by omega) ⟨.bl _, H, I, rfl, q⟩
theorem each_pull {β : Type} {R : V → β → Prop} : ∀ {us : List Value} {bs : List β}, PySem.W.EachIs (fun u b => ∃ v, RelV v u ∧ R v b) us bs → ∃ vs, Vals vs us ∧ PySem.W.EachIs R vs bs
  | _, _, .nil => ⟨[], .nil, .nil⟩
  | _, _, .cons ⟨v, r, h⟩ t => let ⟨vs, a, b⟩ := each_pull t; ⟨v :: vs, .cons r a, .cons h b⟩
theorem each_push {β : Type} {R : V → β → Prop} : ∀ {us : List Value} {vs : List V} {bs : List β}, Vals vs us → PySem.W.EachIs R vs bs → PySem.W.EachIs (fun u b => ∃ v, RelV v u ∧ R v b) us bs
  | _, _, _, .nil, .nil => .nil
  | _, _, _, .cons r a, .cons h b => .cons ⟨_, r, h⟩ (each_push a b)
/-- sorted(xs), xs a list of data that can be compared -/
def rSortedD (K : PySem.W.Frag) : List V → Hp → VK → Prop := fun vs H Q => ∃ (a : Addr) (xs : List V) (β : Type) (bs : List β) (enc : β → PyData) (R : V → β → Prop), vs = [V.ref a] ∧ SqL K H a xs ∧ PySem.W.EachIs R xs bs ∧ (∀ v b, R v b → Dp K H v (enc b)) ∧
  PySem.W.AllAlike (bs.map enc) ∧ PySem.W.Sortable (bs.map enc) ∧ (∀ b ∈ bs, (enc b).depth ≤ 60) ∧ ∀ ys p, PySem.W.EachIs R ys (bs.mergeSort (PySem.W.dataLe false enc)) → H p = none → Q (.ref p) (upd H p (.lst ys))
theorem cr_sortedD (hu : X.A.units + 64 < cLine) : CallR X (.builtin "sorted") (rSortedD X.K) := by
  intro pins s σ H vs us Q I r h
  obtain ⟨a, xs, β, bs, enc, R, rfl, hs, he, hR, al, so, dp, q⟩ := h
  obtain ⟨its, rv, hl, hz⟩ := I.list hs
  obtain ⟨u, rfl, ru⟩ := vals1 r
  obtain rfl : u = Value.ref a := ru
  have hz' : bs.length ≤ sizeLine := by rw [← he.length]; exact hz
  have e := each_push rv he
  refine PySem.W.sorted_data (R := fun u b => ∃ v, RelV v u ∧ R v b) hl.isList e (e.mono fun u b ⟨v, r1, r2⟩ => Dp.reads I _ v u (hR v b r2) r1) al so hz' (fun b hb => by have := dp b hb; omega) fun out lo eo => ?_
  obtain ⟨ys, vy, ey⟩ := each_pull eo
  obtain ⟨n, hn⟩ := sortedAll_at s.heap its (List.toArray out)
  have I2 := I.laid (t' := s.toks) (o := .lst ys) (h' := sortedAll s.heap its (List.toArray out)) (fun b o e => sortedAll_old e) (Nat.le_succ _) ⟨by rw [ey.length, List.length_mergeSort]; exact hz', out, n, vy, hn⟩
  exact ⟨.ref (s.heap.objs.size + 1), _, I2, rfl, q ys _ ey (I.hok.fresh (Nat.le_succ _))⟩
/-- d.get(k), d a dict of the module, k a text that is there -/
def tKGet (K : PySem.W.Frag) (w : World) (td ty : TE) : TE := fun σ H Q => td σ H fun x H1 => ∃ a, x = .ref a ∧ (∃ es n, K.lookup a = some ⟨.type "dict", none, .dict es n, #[]⟩ ∧ PySem.W.KeysLit w.params es.toList) ∧ (a == sysModules) = false ∧
  ty σ H1 fun y H2 => ∃ z v, y = .str z ∧ KDct K w a z v ∧ Q v H2
theorem pe_kget {o e : Expr} {apos cpos : Pos} {td ty : TE} (ho : PE X o td) (he : PE X e ty) (m : M1 X o "get" apos e cpos) : PE X (.Call (.Attribute o "get" apos) [e] [] cpos) (tKGet X.K X.w td ty) := by
  refine ⟨fun pins s σ H Q I h => ?_⟩
  refine wpAny_Call_method m.base m.few m.line PySem.F.plainAttrs_dict PySem.F.slot_dict_get PySem.F.type_dict_get (thn (ho.run pins s σ H _ I h) fun u s1 ⟨x, H1, I1, rx, a, ex, ⟨es, n, hl, hk⟩, hd, q1⟩ => ?_)
  subst ex
  obtain rfl : u = Value.ref a := rx
  have hm := PySem.W.mapOf_K (prog := X.prog) (w := X.w) I1.kIn hl hk
  refine ⟨hm.typeIs, fun b q => by cases q; exact ⟨_, I1.kIn _ _ hl, rfl⟩, ?_⟩
  rw [m.trees]
  refine Calls.callWith_builtin rfl (Calls.evalArgs_plain (Calls.spliced_cons (thn (he.run pins s1 σ H1 _ I1 q1) fun iv s2 ⟨y, H2, I2, ry, z, v, ey, ⟨es', n', u0, hl', hk', e0, ru⟩, q2⟩ => Calls.spliced_nil ?_)))
  subst ey
  obtain ⟨t, rfl⟩ := ry
  have hm2 := PySem.W.mapOf_K (prog := X.prog) (w := X.w) I2.kIn hl' hk'
  refine call_meetsIn PySem.F.slot_dict_get hm2.typeIs PySem.F.entry_dict_get (PySem.F.args_dict_get_2 _ _) (meets_dict_get (strKind X.prog X.w) a (strKind_is X.prog X.w z t) hd) ⟨_, hm2, ?_⟩
  rw [PySem.W.find_K hl' e0]
  exact ⟨v, H2, I2.tok _, ru, q2⟩
end
end GX
/-! changes and patches: their texts -/
namespace K20
open PySem PySem.Spec PyProof.Rows L2 TL TR QR
inductive Chg where
  | add (p : Path)
  | back (n : Nm)
  | drop (f : Vx) (xs : List Vx)
  | move (f : Vx) (p : Path) (xs : List Vx)
  | cut (f : Vx) (xs : List Vx)
  | order (f a b : Vx)
  | lines (f : Vx) (xs ys : List Vx) (ts : Path)
structure Pat where
  nm : Nm
  chs : List Chg
  note : List Nat
def wAdd : List Nat := [97, 100, 100]
def wBack : List Nat := [98, 97, 99, 107]
def wDrop : List Nat := [100, 114, 111, 112]
def wMove : List Nat := [109, 111, 118, 101]
def wCut : List Nat := [99, 117, 116]
def wOrder : List Nat := [111, 114, 100, 101, 114]
def wLines : List Nat := [108, 105, 110, 101, 115]
def wEnd : List Nat := [101, 110, 100]
def wPatch : List Nat := [112, 97, 116, 99, 104, 32]
def wNote : List Nat := [110, 111, 116, 101, 32]
def vsL : List Vx → List Nat
  | [] => [45]
  | x :: xs => TR.joinL 44 ((x :: xs).map vxL)
def wordsOf : Chg → Path
  | .add p => [wAdd, slashL p]
  | .back n => [wBack, idL n]
  | .drop f xs => [wDrop, vxL f, vsL xs]
  | .move f p xs => [wMove, vxL f, slashL p, vsL xs]
  | .cut f xs => [wCut, vxL f, vsL xs]
  | .order f a b => [wOrder, vxL f, vxL a, vxL b]
  | .lines f xs ys ts => [wLines, vxL f, vsL xs, vsL ys, numL ts.length]
def headL (c : Chg) : List Nat := TR.joinL 32 (wordsOf c)
def tailL : Chg → Path
  | .lines _ _ _ ts => ts.map fun t => 124 :: t
  | _ => []
def showC (c : Chg) : Path := headL c :: tailL c
def showCs : List Chg → Path
  | [] => [wEnd]
  | c :: cs => showC c ++ showCs cs
def showP (P : Pat) : Path := (wPatch ++ idL P.nm) :: (wNote ++ P.note) :: showCs P.chs
def okTx (t : List Nat) : Prop := t.length ≤ 40 ∧ ∀ c ∈ t, 32 ≤ c ∧ c ≤ 126
structure VsOk (xs : List Vx) (l : Nat) : Prop where
  ok : ∀ x ∈ xs, VxOk x
  ris : Ris xs
  lo : l ≤ xs.length
  hi : xs.length ≤ 200
def ChgOk : Chg → Prop
  | .add p => okPath p = true
  | .back n => NmOk n
  | .drop f xs => VxOk f ∧ VsOk xs 1
  | .move f p xs => VxOk f ∧ okPath p = true ∧ VsOk xs 1
  | .cut f xs => VxOk f ∧ VsOk xs 1
  | .order f a b => VxOk f ∧ VxOk a ∧ VxOk b ∧ a ≠ b
  | .lines f xs ys ts => VxOk f ∧ VsOk xs 0 ∧ VsOk ys 0 ∧ 1 ≤ ts.length ∧ ts.length ≤ 200 ∧ ∀ t ∈ ts, okTx t
structure PatOk (P : Pat) : Prop where
  nm : NmOk P.nm
  lo : 1 ≤ P.chs.length
  hi : P.chs.length ≤ 12
  cs : ∀ c ∈ P.chs, ChgOk c
  nt : okTx P.note
def raw : Chg → Chg
  | .lines f xs ys ts => .lines f xs ys (List.replicate ts.length [])
  | c => c
theorem raw_ok {c : Chg} (h : ChgOk c) : ChgOk (raw c) := by
  cases c with
  | lines f xs ys ts =>
    obtain ⟨a, b, c, d, e, _⟩ := h
    refine ⟨a, b, c, by rw [List.length_replicate]; exact d, by rw [List.length_replicate]; exact e, fun t ht => ?_⟩
    rw [List.eq_of_mem_replicate ht]
    exact ⟨Nat.zero_le _, fun c hc => nomatch hc⟩
  | _ => exact h
/-! ### signs -/
theorem join_sign {c : Nat} : ∀ {P : Path} {s : Nat}, s ∈ TR.joinL c P → s = c ∨ ∃ p ∈ P, s ∈ p
  | [], _, h => by cases h
  | [p], s, h => .inr ⟨p, List.mem_cons_self, h⟩
  | p :: q :: r, s, h => by
    have h : s ∈ p ++ c :: TR.joinL c (q :: r) := h
    rcases List.mem_append.mp h with h | h
    · exact .inr ⟨p, List.mem_cons_self, h⟩
    · rcases List.mem_cons.mp h with h | h
      · exact .inl h
      · exact (join_sign h).imp id fun ⟨x, a, b⟩ => ⟨x, List.mem_cons_of_mem _ a, b⟩
theorem low_let : ∀ s ∈ tl (Str.ofString "abcdefghijklmnopqrstuvwxyz"), 97 ≤ s ∧ s ≤ 122 := by decide +kernel
theorem low_pth : ∀ s ∈ tl letS, 48 ≤ s ∧ s ≤ 122 := by decide +kernel
theorem word_low {w : List Nat} (h : okWord w = true) : ∀ s ∈ w, 97 ≤ s ∧ s ≤ 122 := fun s hs => by
  unfold okWord wordB at h
  rw [Bool.and_eq_true, Bool.and_eq_true] at h
  exact low_let s (of_decide_eq_true (List.all_eq_true.mp h.2.2 s hs))
theorem num_sign {n s : Nat} (h : s ∈ numL n) : 48 ≤ s ∧ s ≤ 57 := by
  refine Decidable.byContradiction fun z => numL_free (n := n) (s := s) (by omega) h
theorem lab_sign {l : Lab} {s : Nat} (h : s ∈ labL l) : 48 ≤ s ∧ s ≤ 58 := by
  unfold labL at h
  rcases List.mem_append.mp h with h | h
  · have := num_sign h
    omega
  · split at h
    · cases h
    · rcases List.mem_cons.mp h with h | h
      · omega
      · obtain ⟨p, hp, hz⟩ := List.mem_flatten.mp h
        obtain ⟨m, _, rfl⟩ := List.mem_map.mp hp
        have := num_sign hz
        omega
theorem id_sign {n : Nm} (ok : NmOk n) {s : Nat} (h : s ∈ idL n) : 46 ≤ s ∧ s ≤ 122 := by
  unfold idL at h
  rcases List.mem_append.mp h with h | h
  · have := lab_sign h
    omega
  rcases List.mem_cons.mp h with h | h
  · omega
  rcases List.mem_append.mp h with h | h
  · have := word_low ok.wd s h
    omega
  rcases List.mem_cons.mp h with h | h
  · omega
  have := num_sign h
  omega
theorem vx_sign {x : Vx} (ok : VxOk x) {s : Nat} (h : s ∈ vxL x) : 46 ≤ s ∧ s ≤ 122 := by
  unfold vxL at h
  rcases List.mem_append.mp h with h | h
  · exact id_sign ok.nm h
  rcases List.mem_cons.mp h with h | h
  · omega
  rcases List.mem_append.mp h with h | h
  · have := num_sign h
    omega
  rcases List.mem_cons.mp h with h | h
  · omega
  have := num_sign h
  omega
theorem path_sign {ps : Path} (ok : okPath ps = true) {s : Nat} (h : s ∈ slashL ps) : 46 ≤ s ∧ s ≤ 122 := by
  rcases join_sign h with h | ⟨p, hp, h⟩
  · omega
  · unfold okPath at ok
    rw [Bool.and_eq_true] at ok
    have h2 := List.all_eq_true.mp ok.2 p hp
    unfold wordB at h2
    rw [Bool.and_eq_true, Bool.and_eq_true] at h2
    have := low_pth s (of_decide_eq_true (List.all_eq_true.mp h2.2.2 s h))
    omega
theorem vs_sign {xs : List Vx} (ok : ∀ x ∈ xs, VxOk x) {s : Nat} (h : s ∈ vsL xs) : 44 ≤ s ∧ s ≤ 122 := by
  cases xs with
  | nil =>
    have h : s ∈ [45] := h
    rw [List.mem_singleton] at h
    omega
  | cons x xs =>
    rcases join_sign (show s ∈ TR.joinL 44 ((x :: xs).map vxL) from h) with h | ⟨p, hp, h⟩
    · omega
    · obtain ⟨y, hy, rfl⟩ := List.mem_map.mp hp
      have := vx_sign (ok y hy) h
      omega
theorem kw_free : 32 ∉ wAdd ∧ 32 ∉ wBack ∧ 32 ∉ wDrop ∧ 32 ∉ wMove ∧ 32 ∉ wCut ∧ 32 ∉ wOrder ∧ 32 ∉ wLines := by decide
theorem words_free {c : Chg} (h : ChgOk c) : ∀ w ∈ wordsOf c, 32 ∉ w := by
  obtain ⟨k1, k2, k3, k4, k5, k6, k7⟩ := kw_free
  have fv : ∀ {x : Vx}, VxOk x → 32 ∉ vxL x := fun o z => by have := vx_sign o z; omega
  have fs : ∀ {xs : List Vx}, (∀ x ∈ xs, VxOk x) → 32 ∉ vsL xs := fun o z => by have := vs_sign o z; omega
  have fp : ∀ {p : Path}, okPath p = true → 32 ∉ slashL p := fun o z => by have := path_sign o z; omega
  have fn : ∀ {n : Nat}, 32 ∉ numL n := fun z => by have := num_sign z; omega
  intro w hw
  cases c with
  | add p =>
    simp only [wordsOf, List.mem_cons, List.not_mem_nil, or_false] at hw
    rcases hw with rfl | rfl
    · exact k1
    · exact fp h
  | back n =>
    simp only [wordsOf, List.mem_cons, List.not_mem_nil, or_false] at hw
    rcases hw with rfl | rfl
    · exact k2
    · exact fun z => by have := id_sign h z; omega
  | drop f xs =>
    simp only [wordsOf, List.mem_cons, List.not_mem_nil, or_false] at hw
    rcases hw with rfl | rfl | rfl
    · exact k3
    · exact fv h.1
    · exact fs h.2.ok
  | move f p xs =>
    simp only [wordsOf, List.mem_cons, List.not_mem_nil, or_false] at hw
    rcases hw with rfl | rfl | rfl | rfl
    · exact k4
    · exact fv h.1
    · exact fp h.2.1
    · exact fs h.2.2.ok
  | cut f xs =>
    simp only [wordsOf, List.mem_cons, List.not_mem_nil, or_false] at hw
    rcases hw with rfl | rfl | rfl
    · exact k5
    · exact fv h.1
    · exact fs h.2.ok
  | order f a b =>
    simp only [wordsOf, List.mem_cons, List.not_mem_nil, or_false] at hw
    rcases hw with rfl | rfl | rfl | rfl
    · exact k6
    · exact fv h.1
    · exact fv h.2.1
    · exact fv h.2.2.1
  | lines f xs ys ts =>
    simp only [wordsOf, List.mem_cons, List.not_mem_nil, or_false] at hw
    rcases hw with rfl | rfl | rfl | rfl | rfl
    · exact k7
    · exact fv h.1
    · exact fs h.2.1.ok
    · exact fs h.2.2.1.ok
    · exact fn
theorem words_ne (c : Chg) : wordsOf c ≠ [] := by
  cases c <;> simp [wordsOf]
theorem head_cut {c : Chg} (h : ChgOk c) : cutAt 32 (headL c) = wordsOf c := cut_join (words_ne c) (words_free h)
theorem vx_long (x : Vx) : 1 < (vxL x).length := by
  unfold vxL
  rw [List.length_append, List.length_cons, List.length_append, List.length_cons]
  omega
theorem vs_cut {xs : List Vx} (ok : ∀ x ∈ xs, VxOk x) (ne : xs ≠ []) : cutAt 44 (vsL xs) = xs.map vxL ∧ vsL xs ≠ [45] := by
  cases xs with
  | nil => exact absurd rfl ne
  | cons x xs =>
    have e : cutAt 44 (vsL (x :: xs)) = (x :: xs).map vxL := cut_join (by simp) fun p hp => by
      obtain ⟨y, hy, rfl⟩ := List.mem_map.mp hp
      exact fun z => by have := vx_sign (ok y hy) z; omega
    refine ⟨e, fun z => ?_⟩
    rw [z] at e
    have e2 : ([[45]] : Path) = (x :: xs).map vxL := e
    have := vx_long x
    rw [List.map_cons] at e2
    rw [← (List.cons.inj e2).1] at this
    exact absurd this (by decide)
theorem vs_inj {xs ys : List Vx} (h1 : ∀ x ∈ xs, VxOk x) (h2 : ∀ x ∈ ys, VxOk x) (e : vsL xs = vsL ys) : xs = ys := by
  have mi : ∀ {a b : List Vx}, (∀ x ∈ a, VxOk x) → (∀ x ∈ b, VxOk x) → a.map vxL = b.map vxL → a = b := by
    intro a
    induction a with
    | nil =>
      intro b _ _ e
      cases b with
      | nil => rfl
      | cons _ _ => cases e
    | cons x a ih =>
      intro b ha hb e
      cases b with
      | nil => cases e
      | cons y b =>
        have e1 := (List.cons.inj e).1
        have r1 := readVx_vxL (ha x List.mem_cons_self)
        have r2 := readVx_vxL (hb y List.mem_cons_self)
        rw [e1, r2] at r1
        rw [ih (fun z hz => ha z (List.mem_cons_of_mem _ hz)) (fun z hz => hb z (List.mem_cons_of_mem _ hz)) (List.cons.inj e).2, Option.some.inj r1]
  cases hx : xs with
  | nil =>
    cases hy : ys with
    | nil => rfl
    | cons y r =>
      rw [hx, hy] at e
      exact absurd e.symm (vs_cut (by rw [← hy]; exact h2) (by simp)).2
  | cons x r =>
    cases hy : ys with
    | nil =>
      rw [hx, hy] at e
      exact absurd e (vs_cut (by rw [← hx]; exact h1) (by simp)).2
    | cons y s =>
      rw [hx, hy] at e
      rw [hx] at h1
      rw [hy] at h2
      have a := (vs_cut h1 (by simp)).1
      rw [e, (vs_cut h2 (by simp)).1] at a
      exact mi h1 h2 a.symm
theorem vxL_inj {x y : Vx} (h1 : VxOk x) (h2 : VxOk y) (e : vxL x = vxL y) : x = y := by
  have a := readVx_vxL h1
  rw [e, readVx_vxL h2] at a
  exact (Option.some.inj a).symm
theorem idL_inj {x y : Nm} (h1 : NmOk x) (h2 : NmOk y) (e : idL x = idL y) : x = y := by
  have a := readNm_idL h1
  rw [e, readNm_idL h2] at a
  exact (Option.some.inj a).symm
theorem slash_inj {x y : Path} (h1 : okPath x = true) (h2 : okPath y = true) (e : slashL x = slashL y) : x = y := by
  have a := readPath_slash h1
  rw [e, readPath_slash h2] at a
  exact (Option.some.inj a).symm
theorem words_inj {c d : Chg} (h1 : ChgOk c) (h2 : ChgOk d) (e : wordsOf c = wordsOf d) : raw c = raw d := by
  cases c <;> cases d <;> simp [wordsOf, wAdd, wBack, wDrop, wMove, wCut, wOrder, wLines] at e
  · rw [slash_inj h1 h2 e]
  · rw [idL_inj h1 h2 e]
  · rw [vxL_inj h1.1 h2.1 e.1, vs_inj h1.2.ok h2.2.ok e.2]
  · rw [vxL_inj h1.1 h2.1 e.1, slash_inj h1.2.1 h2.2.1 e.2.1, vs_inj h1.2.2.ok h2.2.2.ok e.2.2]
  · rw [vxL_inj h1.1 h2.1 e.1, vs_inj h1.2.ok h2.2.ok e.2]
  · rw [vxL_inj h1.1 h2.1 e.1, vxL_inj h1.2.1 h2.2.1 e.2.1, vxL_inj h1.2.2.1 h2.2.2.1 e.2.2]
  · simp only [raw]
    rw [vxL_inj h1.1 h2.1 e.1, vs_inj h1.2.1.ok h2.2.1.ok e.2.1, vs_inj h1.2.2.1.ok h2.2.2.1.ok e.2.2.1, numL_inj e.2.2.2]
theorem head_inj {c d : Chg} (h1 : ChgOk c) (h2 : ChgOk d) (e : headL c = headL d) : raw c = raw d := by
  refine words_inj h1 h2 ?_
  rw [← head_cut h1, ← head_cut h2, e]
theorem head_end {c : Chg} (h : ChgOk c) : headL c ≠ wEnd := fun z => by
  have e := head_cut h
  rw [z] at e
  have e : ([wEnd] : Path) = wordsOf c := e
  cases c <;> simp [wordsOf] at e
theorem showC_inj {c d : Chg} (h1 : ChgOk c) (h2 : ChgOk d) {r s : Path} (e : showC c ++ r = showC d ++ s) : c = d ∧ r = s := by
  have e1 := (List.cons.inj e).1
  have e2 : tailL c ++ r = tailL d ++ s := (List.cons.inj e).2
  have hr := head_inj h1 h2 e1
  cases c with
  | lines f xs ys ts =>
    cases d with
    | lines f' xs' ys' ts' =>
      simp only [raw, Chg.lines.injEq] at hr
      obtain ⟨rfl, rfl, rfl, hl⟩ := hr
      have ll : ts.length = ts'.length := by
        have := congrArg List.length hl
        rwa [List.length_replicate, List.length_replicate] at this
      have a := List.append_inj e2 (by simp [tailL, ll])
      have mi : ts = ts' := by
        have b : ts.map (fun t => 124 :: t) = ts'.map (fun t => 124 :: t) := a.1
        exact List.map_inj_right (fun x y h => (List.cons.inj h).2) |>.mp b
      exact ⟨by rw [mi], a.2⟩
    | _ => simp [raw] at hr
  | _ =>
    cases d <;> simp [raw] at hr <;> (try exact ⟨by simp [hr], e2⟩)
theorem showCs_inj : ∀ {cs ds : List Chg}, (∀ c ∈ cs, ChgOk c) → (∀ c ∈ ds, ChgOk c) → showCs cs = showCs ds → cs = ds
  | [], [], _, _, _ => rfl
  | [], d :: ds, _, h, e => absurd (List.cons.inj e).1.symm (head_end (h d List.mem_cons_self))
  | c :: cs, [], h, _, e => absurd (List.cons.inj e).1 (head_end (h c List.mem_cons_self))
  | c :: cs, d :: ds, h1, h2, e => by
    obtain ⟨a, b⟩ := showC_inj (h1 c List.mem_cons_self) (h2 d List.mem_cons_self) (show showC c ++ showCs cs = showC d ++ showCs ds from e)
    rw [a, showCs_inj (fun x hx => h1 x (List.mem_cons_of_mem _ hx)) (fun x hx => h2 x (List.mem_cons_of_mem _ hx)) b]
theorem showP_inj {P R : Pat} (h1 : PatOk P) (h2 : PatOk R) (e : showP P = showP R) : P = R := by
  obtain ⟨n, cs, t⟩ := P
  obtain ⟨n', cs', t'⟩ := R
  have e1 := List.cons.inj e
  have e2 := List.cons.inj e1.2
  have a := idL_inj h1.nm h2.nm (List.append_cancel_left e1.1)
  have b : t = t' := List.append_cancel_left e2.1
  have c := showCs_inj h1.cs h2.cs e2.2
  have a : n = n' := a
  have c : cs = cs' := c
  rw [a, b, c]
/-! ### sizes -/
theorem mark_len1 : ∀ {ms : List Nat}, (∀ m ∈ ms, m ≤ 5) → (markL ms).length = ms.length
  | [], _ => rfl
  | m :: r, h => by
    have ih := mark_len1 (ms := r) fun x hx => h x (List.mem_cons_of_mem _ hx)
    have h5 := h m List.mem_cons_self
    unfold markL at ih ⊢
    rw [List.map_cons, List.flatten_cons, List.length_append, ih, numL_lt (by omega : m < 10)]
    simp
    omega
theorem vx_len1 {x : Vx} (ok : VxOk x) : (vxL x).length ≤ 60 := by
  have a1 := ok.nm.lb.ln
  have a2 := mark_len1 ok.nm.lb.mks
  have a3 := num_five (n := x.1.1.1) (by have := ok.nm.lb.lv; omega)
  have a4 := (word_free ok.nm.wd).2.1
  have a5 := num_five ok.nm.hi
  have a6 := num_five (n := x.2.1) (by have := ok.a; omega)
  have a7 := num_five (n := x.2.2) (by have := ok.b; omega)
  unfold vxL idL labL
  simp only [List.length_append, List.length_cons]
  split
  · simp only [List.length_nil]
    omega
  · simp only [List.length_cons]
    omega
theorem vs_len {xs : List Vx} (ok : ∀ x ∈ xs, VxOk x) (h : xs.length ≤ 200) : (vsL xs).length ≤ 25000 := by
  have jl : ∀ {b : Nat} {P : Path}, (∀ p ∈ P, p.length ≤ b) → (TR.joinL 44 P).length ≤ (b + 1) * P.length := by
    intro b P
    induction P with
    | nil => intro _; exact Nat.le_refl _
    | cons p P ih =>
      intro hp
      have h1 := hp p List.mem_cons_self
      have h2 := ih fun x hx => hp x (List.mem_cons_of_mem _ hx)
      cases P with
      | nil =>
        show p.length ≤ (b + 1) * 1
        omega
      | cons q r =>
        show (p ++ 44 :: TR.joinL 44 (q :: r)).length ≤ _
        rw [List.length_append, List.length_cons, List.length_cons (as := q :: r), Nat.mul_succ]
        omega
  cases xs with
  | nil => exact Nat.le_trans (Nat.le_refl 1) (by decide)
  | cons x xs =>
    have := jl (b := 60) (P := (x :: xs).map vxL) fun p hp => by
      obtain ⟨y, hy, rfl⟩ := List.mem_map.mp hp
      exact vx_len1 (ok y hy)
    show (TR.joinL 44 ((x :: xs).map vxL)).length ≤ _
    rw [List.length_map] at this
    omega
end K20
/-! changes and patches on the heap, and as data -/
namespace K20
open PySem PySem.Spec PyProof.Rows L2 TL TR QR
open GxR (TabB TabG Tabbed)
open PySem.W (EachIs)
/-- tuples stay, and the lists at N -/
structure LF (N : Addr → Prop) (H H' : Hp) : Prop where
  ts : TS H H'
  ls : ∀ a xs, N a → H a = some (.lst xs) → H' a = some (.lst xs)
theorem LF.refl {N : Addr → Prop} {H : Hp} : LF N H H := ⟨TS.refl, fun _ _ _ e => e⟩
theorem LF.trans {N : Addr → Prop} {H H1 H2 : Hp} (a : LF N H H1) (b : LF N H1 H2) : LF N H H2 := ⟨a.ts.trans b.ts, fun x o n e => b.ls x o n (a.ls x o n e)⟩
theorem Same.lf {N : Addr → Prop} {H H' : Hp} (s : Same H H') : LF N H H' := ⟨Same.ts s, fun a xs _ e => s _ _ e⟩
theorem Tbs.lf {N : Addr → Prop} {Ts : List Addr} {H H' : Hp} (t : Tbs Ts H H') (g : TG Ts H) : LF N H H' := ⟨t.ts g, fun a xs _ e => t.lst g e⟩
theorem Dr.lf {p c : Addr} {N : Addr → Prop} {H H' : Hp} (st : StateAt H p c) (d : Dr p c H H') (h : ∀ a, N a → a ≠ p ∧ a ≠ c) : LF N H H' := ⟨d.ts st, fun a xs n e => d.ou a _ (h a n).1 (h a n).2 e⟩
theorem lf_upd {N : Addr → Prop} {H : Hp} {D : Addr} {xs : List V} {o : HO} (e : H D = some (.lst xs)) (h : ¬ N D) : LF N H (upd H D o) := by
  refine ⟨fun b ys q => ?_, fun a ys n q => ?_⟩
  · rw [upd_ne fun z => (by rw [z, e] at q; cases q)]
    exact q
  · rw [upd_ne (fun z : a = D => h (by rw [← z]; exact n))]
    exact q
theorem each_vx {H H' : Hp} (s : TS H H') {ws : List V} {xs : List Vx} (e : EachIs (VxAt H) ws xs) : EachIs (VxAt H') ws xs := e.mono fun _ _ h => h.ts s
theorem each_at {α : Type} {R : V → α → Prop} : ∀ {ws : List V} {xs : List α} {i : Nat} {w : V}, EachIs R ws xs → ws[i]? = some w → ∃ x, xs[i]? = some x ∧ R w x
  | _, _, 0, _, .cons h _, e => ⟨_, rfl, by cases e; exact h⟩
  | _, _, i + 1, _, .cons _ t, e => each_at (i := i) t e
theorem each_get {α : Type} {R : V → α → Prop} : ∀ {ws : List V} {xs : List α} {i : Nat} {x : α}, EachIs R ws xs → xs[i]? = some x → ∃ w, ws[i]? = some w ∧ R w x
  | _, _, 0, _, .cons h _, e => ⟨_, rfl, by cases e; exact h⟩
  | _, _, i + 1, _, .cons _ t, e => each_get (i := i) t e
theorem each_app {α : Type} {R : V → α → Prop} {ws us : List V} {xs ys : List α} : EachIs R ws xs → EachIs R us ys → EachIs R (ws ++ us) (xs ++ ys)
  | .nil, b => b
  | .cons h t, b => .cons h (each_app t b)
theorem each_snoc {α : Type} {R : V → α → Prop} {ws : List V} {xs : List α} {w : V} {x : α} (a : EachIs R ws xs) (b : R w x) : EachIs R (ws ++ [w]) (xs ++ [x]) := each_app a (.cons b .nil)
theorem each_rep {α : Type} {R : V → α → Prop} {w : V} {x : α} (h : R w x) : ∀ n : Nat, EachIs R (List.replicate n w) (List.replicate n x)
  | 0 => .nil
  | n + 1 => .cons h (each_rep h n)
def VsAt (N : Addr → Prop) (H : Hp) (v : V) (xs : List Vx) : Prop := ∃ a ws, v = .ref a ∧ N a ∧ H a = some (.lst ws) ∧ EachIs (VxAt H) ws xs
def TsAt (N : Addr → Prop) (H : Hp) (v : V) (ts : Path) : Prop := ∃ a, v = .ref a ∧ N a ∧ H a = some (.lst (strV ts))
def ChgAt (N : Addr → Prop) (H : Hp) (v : V) : Chg → Prop
  | .add p => ∃ a pv, v = .ref a ∧ H a = some (.tup [.str "add", pv]) ∧ PathAt H pv p
  | .back n => ∃ a nv, v = .ref a ∧ H a = some (.tup [.str "back", nv]) ∧ NmAt H nv n
  | .drop f xs => ∃ a fv xv, v = .ref a ∧ H a = some (.tup [.str "drop", fv, xv]) ∧ VxAt H fv f ∧ VsAt N H xv xs
  | .move f p xs => ∃ a fv pv xv, v = .ref a ∧ H a = some (.tup [.str "move", fv, pv, xv]) ∧ VxAt H fv f ∧ PathAt H pv p ∧ VsAt N H xv xs
  | .cut f xs => ∃ a fv xv, v = .ref a ∧ H a = some (.tup [.str "cut", fv, xv]) ∧ VxAt H fv f ∧ VsAt N H xv xs
  | .order f x y => ∃ a fv xv yv, v = .ref a ∧ H a = some (.tup [.str "order", fv, xv, yv]) ∧ VxAt H fv f ∧ VxAt H xv x ∧ VxAt H yv y
  | .lines f xs ys ts => ∃ a fv xv yv tv, v = .ref a ∧ H a = some (.tup [.str "lines", fv, xv, yv, tv]) ∧ VxAt H fv f ∧ VsAt N H xv xs ∧ VsAt N H yv ys ∧ TsAt N H tv ts
def PatAt (N : Addr → Prop) (H : Hp) (v : V) (P : Pat) : Prop := ∃ a nv ca cs, v = .ref a ∧ H a = some (.tup [.str "patch", nv, .ref ca, .str (Sg P.note)]) ∧ NmAt H nv P.nm ∧ N ca ∧ H ca = some (.lst cs) ∧ EachIs (ChgAt N H) cs P.chs
section
variable {N N' : Addr → Prop} {H H' : Hp} {v : V}
theorem VsAt.lf (s : LF N H H') {xs : List Vx} : VsAt N H v xs → VsAt N H' v xs := fun ⟨a, ws, e, n, h, q⟩ => ⟨a, ws, e, n, s.ls _ _ n h, each_vx s.ts q⟩
theorem VsAt.imp (k : ∀ a, N a → N' a) {xs : List Vx} : VsAt N H v xs → VsAt N' H v xs := fun ⟨a, ws, e, n, h, q⟩ => ⟨a, ws, e, k a n, h, q⟩
theorem TsAt.lf (s : LF N H H') {xs : Path} : TsAt N H v xs → TsAt N H' v xs := fun ⟨a, e, n, h⟩ => ⟨a, e, n, s.ls _ _ n h⟩
theorem TsAt.imp (k : ∀ a, N a → N' a) {xs : Path} : TsAt N H v xs → TsAt N' H v xs := fun ⟨a, e, n, h⟩ => ⟨a, e, k a n, h⟩
theorem ChgAt.lf (s : LF N H H') {c : Chg} (h : ChgAt N H v c) : ChgAt N H' v c := by
  cases c with
  | add p => exact let ⟨a, pv, e, h1, h2⟩ := h; ⟨a, pv, e, s.ts _ _ h1, h2.ts s.ts⟩
  | back p => exact let ⟨a, pv, e, h1, h2⟩ := h; ⟨a, pv, e, s.ts _ _ h1, h2.ts s.ts⟩
  | drop f xs => exact let ⟨a, fv, xv, e, h1, h2, h3⟩ := h; ⟨a, fv, xv, e, s.ts _ _ h1, h2.ts s.ts, h3.lf s⟩
  | move f p xs => exact let ⟨a, fv, pv, xv, e, h1, h2, h3, h4⟩ := h; ⟨a, fv, pv, xv, e, s.ts _ _ h1, h2.ts s.ts, h3.ts s.ts, h4.lf s⟩
  | cut f xs => exact let ⟨a, fv, xv, e, h1, h2, h3⟩ := h; ⟨a, fv, xv, e, s.ts _ _ h1, h2.ts s.ts, h3.lf s⟩
  | order f x y => exact let ⟨a, fv, pv, xv, e, h1, h2, h3, h4⟩ := h; ⟨a, fv, pv, xv, e, s.ts _ _ h1, h2.ts s.ts, h3.ts s.ts, h4.ts s.ts⟩
  | lines f xs ys ts => exact let ⟨a, fv, xv, yv, tv, e, h1, h2, h3, h4, h5⟩ := h; ⟨a, fv, xv, yv, tv, e, s.ts _ _ h1, h2.ts s.ts, h3.lf s, h4.lf s, h5.lf s⟩
theorem ChgAt.imp (k : ∀ a, N a → N' a) {c : Chg} (h : ChgAt N H v c) : ChgAt N' H v c := by
  cases c with
  | add p => exact h
  | back p => exact h
  | drop f xs => exact let ⟨a, fv, xv, e, h1, h2, h3⟩ := h; ⟨a, fv, xv, e, h1, h2, h3.imp k⟩
  | move f p xs => exact let ⟨a, fv, pv, xv, e, h1, h2, h3, h4⟩ := h; ⟨a, fv, pv, xv, e, h1, h2, h3, h4.imp k⟩
  | cut f xs => exact let ⟨a, fv, xv, e, h1, h2, h3⟩ := h; ⟨a, fv, xv, e, h1, h2, h3.imp k⟩
  | order f x y => exact h
  | lines f xs ys ts => exact let ⟨a, fv, xv, yv, tv, e, h1, h2, h3, h4, h5⟩ := h; ⟨a, fv, xv, yv, tv, e, h1, h2, h3.imp k, h4.imp k, h5.imp k⟩
theorem PatAt.lf (s : LF N H H') {P : Pat} : PatAt N H v P → PatAt N H' v P := fun ⟨a, nv, ca, cs, e, h1, h2, n, h3, h4⟩ => ⟨a, nv, ca, cs, e, s.ts _ _ h1, h2.ts s.ts, n, s.ls _ _ n h3, h4.mono fun _ _ h => h.lf s⟩
theorem PatAt.imp (k : ∀ a, N a → N' a) {P : Pat} : PatAt N H v P → PatAt N' H v P := fun ⟨a, nv, ca, cs, e, h1, h2, n, h3, h4⟩ => ⟨a, nv, ca, cs, e, h1, h2, k _ n, h3, h4.mono fun _ _ h => h.imp k⟩
end
/-! ### as data -/
def vsD (xs : List Vx) : PyData := .list (xs.map vxD)
def tsD (ts : Path) : PyData := .list (ts.map fun l => PyData.str (Sg l))
def chgD : Chg → PyData
  | .add p => .tuple [.str "add", pathD p]
  | .back n => .tuple [.str "back", nmD n]
  | .drop f xs => .tuple [.str "drop", vxD f, vsD xs]
  | .move f p xs => .tuple [.str "move", vxD f, pathD p, vsD xs]
  | .cut f xs => .tuple [.str "cut", vxD f, vsD xs]
  | .order f x y => .tuple [.str "order", vxD f, vxD x, vxD y]
  | .lines f xs ys ts => .tuple [.str "lines", vxD f, vsD xs, vsD ys, tsD ts]
def patD (P : Pat) : PyData := .tuple [.str "patch", nmD P.nm, .list (P.chs.map chgD), .str (Sg P.note)]
section
variable {N : Addr → Prop} {K : PySem.W.Frag} {H : Hp} {v : V}
theorem dp_each {α : Type} {R : V → α → Prop} {f : α → PyData} (h : ∀ v x, R v x → Dp K H v (f x)) : ∀ {ws : List V} {xs : List α}, EachIs R ws xs → DpAll K H ws (xs.map f)
  | _, _, .nil => .nil
  | _, _, .cons a t => .cons (h _ _ a) (dp_each h t)
theorem dp_vs {xs : List Vx} : VsAt N H v xs → Dp K H v (vsD xs) := fun ⟨a, ws, e, _, h, q⟩ => by
  rw [e]
  exact .lst (SqL.of h) (dp_each (fun _ _ h => dp_vx h) q)
theorem dp_ts {xs : Path} : TsAt N H v xs → Dp K H v (tsD xs) := fun ⟨a, e, _, h⟩ => by
  rw [e]
  exact .lst (SqL.of h) (dp_strs _)
theorem dp_chg {c : Chg} (h : ChgAt N H v c) : Dp K H v (chgD c) := by
  cases c with
  | add p => obtain ⟨a, pv, e, h1, h2⟩ := h; rw [e]; exact .tup (SqT.of h1) (.cons (.str _) (.cons (dp_path h2) .nil))
  | back p => obtain ⟨a, pv, e, h1, h2⟩ := h; rw [e]; exact .tup (SqT.of h1) (.cons (.str _) (.cons (dp_nm h2) .nil))
  | drop f xs => obtain ⟨a, fv, xv, e, h1, h2, h3⟩ := h; rw [e]; exact .tup (SqT.of h1) (.cons (.str _) (.cons (dp_vx h2) (.cons (dp_vs h3) .nil)))
  | move f p xs => obtain ⟨a, fv, pv, xv, e, h1, h2, h3, h4⟩ := h; rw [e]; exact .tup (SqT.of h1) (.cons (.str _) (.cons (dp_vx h2) (.cons (dp_path h3) (.cons (dp_vs h4) .nil))))
  | cut f xs => obtain ⟨a, fv, xv, e, h1, h2, h3⟩ := h; rw [e]; exact .tup (SqT.of h1) (.cons (.str _) (.cons (dp_vx h2) (.cons (dp_vs h3) .nil)))
  | order f x y => obtain ⟨a, fv, pv, xv, e, h1, h2, h3, h4⟩ := h; rw [e]; exact .tup (SqT.of h1) (.cons (.str _) (.cons (dp_vx h2) (.cons (dp_vx h3) (.cons (dp_vx h4) .nil))))
  | lines f xs ys ts => obtain ⟨a, fv, xv, yv, tv, e, h1, h2, h3, h4, h5⟩ := h; rw [e]; exact .tup (SqT.of h1) (.cons (.str _) (.cons (dp_vx h2) (.cons (dp_vs h3) (.cons (dp_vs h4) (.cons (dp_ts h5) .nil)))))
theorem dp_pat {P : Pat} : PatAt N H v P → Dp K H v (patD P) := fun ⟨a, nv, ca, cs, e, h1, h2, _, h3, h4⟩ => by
  rw [e]
  exact .tup (SqT.of h1) (.cons (.str _) (.cons (dp_nm h2) (.cons (.lst (SqL.of h3) (dp_each (fun _ _ h => dp_chg h) h4)) (.cons (.str _) .nil))))
end
theorem solid_vs (xs : List Vx) : solid (vsD xs) = true := by
  unfold vsD
  rw [solid]
  exact solid_vxs xs
theorem solid_ts (xs : Path) : solid (tsD xs) = true := by
  unfold tsD
  rw [solid]
  exact solid_strs xs
theorem solid_chg (c : Chg) : solid (chgD c) = true := by
  cases c <;> simp [chgD, solid, solidAll, solid_vs, solid_ts, solid_vx, solid_nm, solid_path]
theorem solid_map {α : Type} {f : α → PyData} (h : ∀ x, solid (f x) = true) : ∀ xs : List α, solidAll (xs.map f) = true
  | [] => rfl
  | x :: xs => by rw [List.map_cons, solidAll, h x, solid_map h xs]; rfl
theorem solid_pat (P : Pat) : solid (patD P) = true := by
  simp [patD, solid, solidAll, solid_nm, solid_map solid_chg]
theorem vs_injD {a b : List Vx} (h : vsD a = vsD b) : a = b := vxs_inj (PyData.list.inj h)
theorem ts_injD {a b : Path} (h : tsD a = tsD b) : a = b := strs_inj (PyData.list.inj h)
theorem chg_inj {a b : Chg} (h : chgD a = chgD b) : a = b := by
  have n1 : ∀ {x y : String}, x ≠ y → (Str.ofString x = Str.ofString y → False) → True := fun _ _ => trivial
  cases a <;> cases b <;> simp only [chgD, PyData.tuple.injEq, List.cons.injEq, PyData.str.injEq, and_true, reduceCtorEq, and_false, false_and] at h
  all_goals first
    | (exact absurd h.1 (by decide +kernel))
    | skip
  · rw [path_inj h.2]
  · rw [nm_inj h.2]
  · rw [vx_inj h.2.1, vs_injD h.2.2]
  · rw [vx_inj h.2.1, path_inj h.2.2.1, vs_injD h.2.2.2]
  · rw [vx_inj h.2.1, vs_injD h.2.2]
  · rw [vx_inj h.2.1, vx_inj h.2.2.1, vx_inj h.2.2.2]
  · rw [vx_inj h.2.1, vs_injD h.2.2.1, vs_injD h.2.2.2.1, ts_injD h.2.2.2.2]
theorem map_injD {α : Type} {f : α → PyData} (hf : ∀ a b, f a = f b → a = b) : ∀ {xs ys : List α}, xs.map f = ys.map f → xs = ys
  | [], [], _ => rfl
  | [], _ :: _, h => by cases h
  | _ :: _, [], h => by cases h
  | x :: a, y :: b, h => by rw [map_injD hf (List.cons.inj h).2, hf _ _ (List.cons.inj h).1]
theorem pat_inj {a b : Pat} (h : patD a = patD b) : a = b := by
  obtain ⟨n, cs, t⟩ := a
  obtain ⟨n', cs', t'⟩ := b
  simp only [patD, PyData.tuple.injEq, List.cons.injEq, PyData.str.injEq, PyData.list.injEq, and_true, true_and] at h
  rw [nm_inj h.1, map_injD (fun a b => chg_inj) h.2.1, sg_inj h.2.2]
theorem pat_eqv (a b : Pat) : PyData.eqv (patD a) (patD b) = true ↔ a = b := (eqv_iff (solid_pat a) (solid_pat b)).trans ⟨pat_inj, fun z => by rw [z]⟩
theorem strs_eqv (a b : Path) : PyData.eqv (tsD a) (tsD b) = true ↔ a = b := (eqv_iff (solid_ts a) (solid_ts b)).trans ⟨ts_injD, fun z => by rw [z]⟩
/-! ### their repr -/
structure Rp (b k : Nat) (d : PyData) : Prop where
  l : d.leavesShort 8 = true
  s : d.showable = true
  h : d.hasDict = false
  b : d.bulk ≤ b
  k : d.depth ≤ k
structure RpAll (b k : Nat) (ds : List PyData) : Prop where
  l : PyData.leavesShortAll 8 ds = true
  s : PyData.showableAll ds = true
  h : PyData.hasDictAll ds = false
  b : PyData.bulkAll ds ≤ b
  k : PyData.depthAll ds ≤ k
theorem RpAll.nil {b k : Nat} : RpAll b k [] := ⟨rfl, rfl, rfl, Nat.zero_le _, Nat.zero_le _⟩
theorem RpAll.cons {a b k : Nat} {d : PyData} {ds : List PyData} (x : Rp a k d) (y : RpAll b k ds) : RpAll (a + 1 + b) k (d :: ds) :=
  ⟨by rw [PyData.leavesShortAll, x.l, y.l]; rfl, by rw [PyData.showableAll, x.s, y.s]; rfl, by rw [PyData.hasDictAll, x.h, y.h]; rfl, by rw [PyData.bulkAll]; have := x.b; have := y.b; omega, by rw [PyData.depthAll]; have := x.k; have := y.k; omega⟩
theorem RpAll.lst {b k : Nat} {ds : List PyData} (y : RpAll b k ds) : Rp b (k + 1) (.list ds) :=
  ⟨by rw [PyData.leavesShort]; exact y.l, by rw [PyData.showable]; exact y.s, by rw [PyData.hasDict]; exact y.h, by rw [PyData.bulk]; exact y.b, by rw [PyData.depth]; have := y.k; omega⟩
theorem RpAll.tup {b k : Nat} {ds : List PyData} (y : RpAll b k ds) : Rp b (k + 1) (.tuple ds) :=
  ⟨by rw [PyData.leavesShort]; exact y.l, by rw [PyData.showable]; exact y.s, by rw [PyData.hasDict]; exact y.h, by rw [PyData.bulk]; exact y.b, by rw [PyData.depth]; have := y.k; omega⟩
theorem RpAll.map {α : Type} {b k : Nat} {f : α → PyData} : ∀ {xs : List α}, (∀ x ∈ xs, Rp b k (f x)) → RpAll ((b + 1) * xs.length) k (xs.map f)
  | [], _ => .nil
  | x :: xs, h => by
    have a := RpAll.cons (h x List.mem_cons_self) (RpAll.map fun y hy => h y (List.mem_cons_of_mem _ hy))
    rw [List.length_cons, Nat.mul_succ, Nat.add_comm]
    exact a
theorem Rp.mono {a b j k : Nat} {d : PyData} (x : Rp a j d) (h1 : a ≤ b) (h2 : j ≤ k) : Rp b k d := ⟨x.l, x.s, x.h, Nat.le_trans x.b h1, Nat.le_trans x.k h2⟩
theorem RpAll.mono {a b j k : Nat} {d : List PyData} (x : RpAll a j d) (h1 : a ≤ b) (h2 : j ≤ k) : RpAll b k d := ⟨x.l, x.s, x.h, Nat.le_trans x.b h1, Nat.le_trans x.k h2⟩
theorem rp_str {l : List Nat} {b k : Nat} (h : ∀ c ∈ l, c ≤ 122 ∨ c ≤ 126) (hl : l.length ≤ b) : Rp b k (.str (Sg l)) :=
  ⟨by
    rw [PyData.leavesShort, List.all_eq_true]
    exact fun c hc => decide_eq_true (by have := h c hc; omega), rfl, rfl, hl, Nat.zero_le _⟩
theorem rp_kw {s : String} {b k : Nat} (h1 : (PyData.str (Str.ofString s)).leavesShort 8 = true) (h2 : (Str.ofString s).cps.size ≤ b) : Rp b k (.str (Str.ofString s)) := ⟨h1, rfl, rfl, h2, Nat.zero_le _⟩
theorem rp_int {n b k : Nat} (h : n ≤ 99999) : Rp b k (.int (n : Int)) := by
  have e : PyData.shown (.int (n : Int)) = Str.ofString (toString (n : Int)) := rfl
  refine ⟨?_, ?_, rfl, Nat.zero_le _, Nat.zero_le _⟩
  · rw [PyData.leavesShort, e, sg_num]
    exact decide_eq_true (Nat.le_trans (num_five h) (by decide))
  · rw [PyData.showable]
    exact decide_eq_true (num_small h)
end K20
namespace K20
open PySem PySem.Spec PyProof.Rows L2 TL TR QR
open GxR (TabB TabG Tabbed)
open PySem.W (EachIs)
abbrev sTX : Stmt := topS 17
abbrev nTX : List Str := ["text", "sign"]
theorem scTX : FnScope nTX ["text"] (defScope sTX) := ⟨rfl, rfl, rfl, by decide +kernel, rfl, by decide +kernel, by decide +kernel⟩
abbrev sRS : Stmt := topS 19
abbrev nRS : List Str := ["vertices", "least", "most", "k", "vertex"]
theorem scRS : FnScope nRS ["vertices", "least", "most"] (defScope sRS) := ⟨rfl, rfl, rfl, by decide +kernel, rfl, by decide +kernel, by decide +kernel⟩
abbrev sAT : Stmt := topS 21
abbrev nAT : List Str := ["texts", "text"]
theorem scAT : FnScope nAT ["texts"] (defScope sAT) := ⟨rfl, rfl, rfl, by decide +kernel, rfl, by decide +kernel, by decide +kernel⟩
theorem sp_le {c : Nat} : (!decide ((⟨#[c]⟩ : Str).cps.toList < (Str.ofString " ").cps.toList)) = decide (32 ≤ c) := by
  rw [show Str.ofString " " = ⟨#[32]⟩ by decide +kernel]
  show (!decide ((#[c] : Array Nat).toList < (#[32] : Array Nat).toList)) = _
  rw [← decide_not]
  refine decide_eq_decide.mpr ?_
  show ¬ [c] < [32] ↔ _
  constructor
  · intro h
    exact Nat.not_lt.mp fun z => h (.rel z)
  · intro h z
    cases z with
    | rel z => omega
    | cons z => cases z
theorem le_ti {c : Nat} : (!decide ((Str.ofString "~").cps.toList < (⟨#[c]⟩ : Str).cps.toList)) = decide (c ≤ 126) := by
  rw [show Str.ofString "~" = ⟨#[126]⟩ by decide +kernel]
  show (!decide ((#[126] : Array Nat).toList < (#[c] : Array Nat).toList)) = _
  rw [← decide_not]
  refine decide_eq_decide.mpr ?_
  show ¬ [126] < [c] ↔ _
  constructor
  · intro h
    exact Nat.not_lt.mp fun z => h (.rel z)
  · intro h z
    cases z with
    | rel z => omega
    | cons z => cases z
theorem no_if {p A B : Prop} [Decidable p] (n : ¬ p) (b : B) : if p then A else B := by
  rw [if_neg n]
  exact b
theorem yes_if2 {p A B : Prop} [Decidable p] (n : p) (b : A) : if p then A else B := by
  rw [if_pos n]
  exact b
section
variable {P : Program} {w : World} {K : PySem.W.Frag} {mg : Str → Option Value} {base : Heap}
theorem FnOk.both {P : Program} {w : World} {K : PySem.W.Frag} {mg : Str → Option Value} {base : Heap} {CX : CXT} {k : Nat} {f : Addr} {fd : FuncData} {ps : List Str} {sp sp' : Sp} (F : FnOk P w K mg base CX k f fd ps sp) (F' : FnOk P w K mg base CX k f fd ps sp') :
    FnOk P w K mg base CX k f fd ps (fun vs H Q E => sp vs H Q E ∨ sp' vs H Q E) :=
  ⟨fun vs H Q E q => q.elim (F.len vs H Q E) (F'.len vs H Q E), fun A outer s H args us vs Q E hr he hb hv hs => hs.elim (F.run A outer s H args us vs Q E hr he hb hv) (F'.run A outer s H args us vs Q E hr he hb hv)⟩
def spNo (Ts : List Addr) : Sp := fun vs H Q _ => vs = [.non] ∧ TG Ts H ∧ ∀ H', Tbs Ts H H' → Q (.bl false) H'
def spIVo (Ts : List Addr) : Sp := fun vs H Q E => spIV Ts vs H Q E ∨ spNo Ts vs H Q E
def spIPo (Ts : List Addr) : Sp := fun vs H Q E => spIP Ts vs H Q E ∨ spNo Ts vs H Q E
theorem ok_IVn {f fTO fII fWI : Addr} {Ts : List Addr} {fd fdTO fdII fdWI : FuncData} {kMC : Tok} (F : Fun K "is_vertex" "is_vertex" sIV f fd)
    (GTO : FnOk P w K mg base CX0 1 fTO fdTO ["value", "size"] spTO) (bTO : Binds K fdTO ["value", "size"] []) (gTO : mg "is_tuple_of" = some (.ref fTO)) (kTO : PySem.W.keepIn K (.ref fTO) = true)
    (GII : FnOk P w K mg base CX0 4 fII fdII ["name"] (spII Ts)) (bII : Binds K fdII ["name"] []) (gII : mg "is_id" = some (.ref fII)) (kII : PySem.W.keepIn K (.ref fII) = true)
    (GWI : FnOk P w K mg base CX0 1 fWI fdWI ["number", "least", "most"] spWI) (bWI : Binds K fdWI ["number", "least", "most"] []) (gWI : mg "is_within" = some (.ref fWI)) (kWI : PySem.W.keepIn K (.ref fWI) = true) (gMC : mg "MOST_CHANGES" = some (.int 12 kMC)) :
    FnOk P w K mg base CX0 5 f fd ["vertex"] (spNo Ts) := by
  refine F.ok scIV (fun vs H Q E h => ?_) (fun cdv A outer s H vs Q E hr h => ?_)
  · obtain ⟨rfl, _⟩ := h
    rfl
  · obtain ⟨rfl, g, q⟩ := h
    have hu := hr.units
    have hu1 := hu_of hr
    have hr1 : Room 1 _ := hr.mono (by decide)
    have hr2 : Room 2 _ := hr.mono (by decide)
    have hr3 : Room 3 _ := hr.mono (by decide)
    have hr4 : Room 4 _ := hr.mono (by decide)
    have zl := zl
    refine ⟨_, (pss_one (ps_ret (pe_and (pe_call GTO hr1 (by rfl) gTO kTO bTO .nil pass0 (pa_cons (pv 0) (pa_cons (pe_int) pa_nil))) (pe_and (pe_call GII hr4 (by rfl) gII kII bII .nil pass0 (pa_cons (pe_ix ix_tup (pv 0) (pe_int) (fun _ _ => rfl)) pa_nil)) (pe_and (pe_call GWI hr1 (by rfl) gWI kWI bWI .nil pass0 (pa_cons (pe_ix ix_tup (pv 0) (pe_int) (fun _ _ => rfl)) (pa_cons (pe_int) (pa_cons (pe_op op_sub (pe_glob (v := V.int 12) (by rfl) gMC ⟨_, rfl⟩) (pe_int)) pa_nil)))) (pe_one (pe_call GWI hr1 (by rfl) gWI kWI bWI .nil pass0 (pa_cons (pe_ix ix_tup (pv 0) (pe_int) (fun _ _ => rfl)) (pa_cons (pe_int) (pa_cons (pe_int) pa_nil)))))))))), ?_⟩
    exact ⟨_, rfl, _, 3, rfl, .inl ⟨rfl, _, rfl, ite2 (fun z => absurd z (by decide)) (fun _ => q _ (Tbs.refl g))⟩⟩
theorem ok_IPn {T1 T3 c f fIW : Addr} {Ts : List Addr} {oc kV doc pm ct : Value} {od an : Option Addr} {osl : Array (Option Value)} {fdIW : FuncData} {kLE kDI : Tok} (hT1 : T1 ∈ Ts) (hT3 : T3 ∈ Ts) (lk : K.lookup f = some ⟨oc, od, .func (PySem.W.fnOf "is_path" "is_path" (defArgs sIP) (defBody sIP) (defScope sIP) .none kV doc pm an (.ref c) ct), osl⟩)
    (hcd : PySem.W.codeIn K (.ref c) "is_path" = true) (TB : TabB base mg c T3)
    (GW : FnOk P w K mg base CX0 1 fIW fdIW ["text", "signs", "most"] (spWord T1)) (bW : Binds K fdIW ["text", "signs", "most"] []) (gW : mg "is_word" = some (.ref fIW)) (kW : PySem.W.keepIn K (.ref fIW) = true)
    (gLE : mg "LETTERS" = some (.str "abcdefghijklmnopqrstuvwxyz" kLE)) (gDI : mg "DIGITS" = some (.str digitsS kDI))
    (m_isinstance : mg "isinstance" = none) (m_tuple : mg "tuple" = none) (m_len : mg "len" = none) (m_all : mg "all" = none) (m_str : mg "str" = none) :
    FnOk P w K mg base CX0 3 f (PySem.W.fnOf "is_path" "is_path" (defArgs sIP) (defBody sIP) (defScope sIP) .none kV doc pm an (.ref c) ct) ["path"] (spNo Ts) := by
  refine fn_of lk hcd scIP (fun vs H Q E h => ?_) fun A outer s H vs Q E hr h => ?_
  · obtain ⟨rfl, _⟩ := h
    rfl
  · obtain ⟨rfl, g, q⟩ := h
    have hu := hr.units
    have hu1 := hu_of hr
    have hr1 : Room 1 _ := hr.mono (by decide)
    have zl := zl
    have hrX := hr
    refine ⟨_, (pss_cons (ps_if (PW.pt (pw_or (pt_not (pt_val (pe_callB call_isi (by rfl) m_isinstance (by decide +kernel) (pa_cons (pv 0) (pa_cons (pe_bltn (v := V.ty "tuple") (u := .type "tuple") (by rfl) m_tuple (by decide +kernel) rfl) pa_nil))))) (pw_or1 (pt_not (pt_chain op_le op_le (pe_int) (pe_callB call_len_seq (by rfl) m_len PySem.boot_len (pa_cons (pv 0) pa_nil)) (pe_int))))))
      (pss_one (ps_ret (pe_bl))) pss_nil)
      (pss_one (ps_ret (GX.pe_allG (k := 1) (own := [("part", 1)]) (g := gName 1) (tt := tYes) (te := tAndV (tCB (rIsi K) (tCons (tVar 1) (tCons (tC (.ty "str")) tNil))) (tCall (spWord T1) [] E0 (tCons (tVar 1) (tCons (tOp (fun x y H Q => ∃ i j, x = .str i ∧ y = .str j ∧ i.length + j.length ≤ sizeLine ∧ Q (.str (i ++ j)) H) (tC (.str "abcdefghijklmnopqrstuvwxyz")) (tC (.str digitsS))) (tCons (tC (.int 8)) tNil))))) hrX rfl scIP.nd (by rfl) m_all ⟨blkOk_by (N := nIP) (sc := defScope sIP) (by decide +kernel), by decide +kernel, rfl, rfl, TB, rfl⟩ (pi_tup (pv 0)) (fun _ _ _ _ _ _ hrG => by exact pg_name (i := 1) scIP.nd rfl (.inl rfl)) (fun _ _ _ _ _ _ hrG => pts_nil) (fun _ _ _ _ _ _ hrG => by exact pe_and (pe_callB (show CallR _ (.builtin "isinstance") (rIsi K) from call_isi) (by rfl) m_isinstance (by decide +kernel) (pa_cons (pv 1) (pa_cons (pe_bltn (v := V.ty "str") (u := .type "str") (by rfl) m_str (by decide +kernel) rfl) pa_nil))) (pe_one (pe_call GW (hrG.mono (by decide)) (by rfl) gW kW bW .nil pass0 (pa_cons (pv 1) (pa_cons (pe_op op_add_str (pe_glob (v := V.str "abcdefghijklmnopqrstuvwxyz") (by rfl) gLE ⟨_, rfl⟩) (pe_glob (v := V.str digitsS) (by rfl) gDI ⟨_, rfl⟩)) (pa_cons (pe_int) pa_nil)))))) (fun _ => rfl))))), ?_⟩
    dsimp only [tNext, tSeq, tIfS, tAsg, gName, tC]
    exact ⟨_, rfl, _, _, _, _, false, rfl, .ty _, .base .non, kit_ty (by decide +kernel), _, rfl, ite2 (fun _ => q _ (Tbs.refl g)) (fun z => absurd rfl z)⟩
instance txDec (t : List Nat) : Decidable (okTx t) := by unfold okTx; infer_instance
def spTX (Ts : List Addr) : Sp := fun vs H Q _ => ∃ (t : List Nat), vs = [.str (Sg t)] ∧ t.length ≤ 100000 ∧ TG Ts H ∧ ∀ H', Tbs Ts H H' → Q (.bl (decide (okTx t))) H'
theorem ok_TX {T4 c f : Addr} {Ts : List Addr} {oc kV doc pm ct : Value} {od an : Option Addr} {osl : Array (Option Value)} (hT4 : T4 ∈ Ts) (lk : K.lookup f = some ⟨oc, od, .func (PySem.W.fnOf "is_text" "is_text" (defArgs sTX) (defBody sTX) (defScope sTX) .none kV doc pm an (.ref c) ct), osl⟩)
    (hcd : PySem.W.codeIn K (.ref c) "is_text" = true) (TB : TabB base mg c T4) (m_isinstance : mg "isinstance" = none) (m_str : mg "str" = none) (m_len : mg "len" = none) (m_all : mg "all" = none) :
    FnOk P w K mg base CX0 2 f (PySem.W.fnOf "is_text" "is_text" (defArgs sTX) (defBody sTX) (defScope sTX) .none kV doc pm an (.ref c) ct) ["text"] (spTX Ts) := by
  refine fn_of lk hcd scTX (fun vs H Q E h => ?_) fun A outer s H vs Q E hr h => ?_
  · obtain ⟨x, rfl, _⟩ := h
    rfl
  · obtain ⟨t, rfl, lt, g, q⟩ := h
    have hu := hr.units
    have hu1 := hu_of hr
    have zl := zl
    have hrX := hr
    refine ⟨_, (pss_one (ps_ret (pe_and (pe_callB call_isi (by rfl) m_isinstance (by decide +kernel) (pa_cons (pv 0) (pa_cons (pe_bltn (v := V.ty "str") (u := .type "str") (by rfl) m_str (by decide +kernel) rfl) pa_nil))) (pe_and (pe_cmpR op_le (pe_callB call_len_str (by rfl) m_len PySem.boot_len (pa_cons (pv 0) pa_nil)) (pe_int) (nomark _)) (pe_one (GX.pe_allG (k := 0) (own := [("sign", 1)]) (g := gName 1) (tt := tYes) (te := tChain (fun x y H Q => ∃ i j, x = .str i ∧ y = .str j ∧ Q (.bl (!decide (j.cps.toList < i.cps.toList))) H) (fun x y H Q => ∃ i j, x = .str i ∧ y = .str j ∧ Q (.bl (!decide (j.cps.toList < i.cps.toList))) H) (tC (.str " ")) (tVar 1) (tC (.str "~"))) hrX rfl scTX.nd (by rfl) m_all ⟨blkOk_by (N := nTX) (sc := defScope sTX) (by decide +kernel), by decide +kernel, rfl, rfl, TB, rfl⟩ (pi_str (pv 0)) (fun _ _ _ _ _ _ hrG => by exact pg_name (i := 1) scTX.nd rfl (.inl rfl)) (fun _ _ _ _ _ _ hrG => pts_nil) (fun _ _ _ _ _ _ hrG => by exact pe_chain op_le_str op_le_str (pe_str) (pv 1) (pe_str)) (fun _ => rfl))))))), ?_⟩
    have lS : (Sg t).length = t.length := rfl
    refine ⟨_, rfl, _, _, _, _, true, rfl, .ty _, .base (.str _), kit_ty (by decide +kernel), _, rfl, ite2 (fun _ => ?_) (fun z => absurd rfl z)⟩
    refine ⟨_, rfl, Sg t, rfl, by omega, _, _, rfl, rfl, _, rfl, ite2 (fun h40 => ?_) (fun h40 => ?_)⟩
    · have h40 : t.length ≤ 40 := by have := of_decide_eq_true h40; omega
      refine ⟨_, rfl, Sg t, rfl, g T4 hT4, fun H2 t2 => ?_⟩
      have b2 : Tbs Ts H H2 := (Tbs.refl g).tab t2 hT4
      refine GX.wk_str (x := Sg t) (fun k H' => Tbs Ts H H' ∧ ∀ (m : Nat) (c : Nat), m < k → t[m]? = some c → 32 ≤ c ∧ c ≤ 126) ⟨b2, fun m c h => by omega⟩ ?_ ?_
      · rintro i c H3 hc ⟨b3, hm⟩
        have gc : t[i]? = some c := hc
        have bad : ¬ (32 ≤ c ∧ c ≤ 126) → Q (.bl false) H3 := fun z => by
          have := q H3 b3
          rwa [decide_eq_false fun ok => z (ok.2 c (List.mem_of_getElem? gc))] at this
        refine ⟨rfl, _, rfl, _, _, rfl, rfl, _, rfl, ?_⟩
        rw [sp_le]
        refine ite2 (fun h1 => ⟨_, _, rfl, rfl, _, rfl, ?_⟩) fun h1 => ?_
        · have h1 := of_decide_eq_true h1
          rw [le_ti]
          by_cases h2 : c ≤ 126
          · rw [decide_eq_true h2]
            refine no_if (by decide) ⟨b3, fun m d h e => ?_⟩
            by_cases hmk : m = i
            · subst hmk
              rw [gc] at e
              cases e
              exact ⟨h1, h2⟩
            · exact hm m d (by omega) e
          · rw [decide_eq_false h2, if_pos rfl]
            exact bad fun z => h2 z.2
        · have h1 : ¬ 32 ≤ c := fun z => h1 (decide_eq_true z)
          exact ⟨_, rfl, yes_if2 rfl (bad fun z => h1 z.1)⟩
      · rintro H3 ⟨b3, hm⟩
        have := q H3 b3
        rwa [decide_eq_true (show okTx t from ⟨h40, fun c hc => by
          obtain ⟨m, e⟩ := List.mem_iff_getElem?.mp hc
          exact hm m c (List.getElem?_eq_some_iff.mp e).1 e⟩)] at this
    · have := q H (Tbs.refl g)
      rwa [decide_eq_false fun ok => h40 (decide_eq_true (by have := ok.1; omega))] at this
def spAT (Ts : List Addr) : Sp := fun vs H Q _ => ∃ (a : Addr) (ts : Path), vs = [.ref a] ∧ H a = some (.lst (strV ts)) ∧ ts.length ≤ 100000 ∧ (∀ t ∈ ts, okTx t) ∧ TG Ts H ∧ ∀ H', Tbs Ts H H' → Q (.bl (decide (1 ≤ ts.length ∧ ts.length ≤ 200))) H'
theorem ok_AT {T6 c f fTX : Addr} {Ts : List Addr} {oc kV doc pm ct : Value} {od an : Option Addr} {osl : Array (Option Value)} {fdTX : FuncData} (hT6 : T6 ∈ Ts) (lk : K.lookup f = some ⟨oc, od, .func (PySem.W.fnOf "are_texts" "are_texts" (defArgs sAT) (defBody sAT) (defScope sAT) .none kV doc pm an (.ref c) ct), osl⟩)
    (hcd : PySem.W.codeIn K (.ref c) "are_texts" = true) (TB : TabB base mg c T6)
    (GTX : FnOk P w K mg base CX0 2 fTX fdTX ["text"] (spTX Ts)) (bTX : Binds K fdTX ["text"] []) (gTX : mg "is_text" = some (.ref fTX)) (kTX : PySem.W.keepIn K (.ref fTX) = true)
    (m_len : mg "len" = none) (m_all : mg "all" = none) :
    FnOk P w K mg base CX0 4 f (PySem.W.fnOf "are_texts" "are_texts" (defArgs sAT) (defBody sAT) (defScope sAT) .none kV doc pm an (.ref c) ct) ["texts"] (spAT Ts) := by
  refine fn_of lk hcd scAT (fun vs H Q E h => ?_) fun A outer s H vs Q E hr h => ?_
  · obtain ⟨a, ts, rfl, _⟩ := h
    rfl
  · obtain ⟨a, ts, rfl, ha, l1, ok, g, q⟩ := h
    have hu := hr.units
    have hu1 := hu_of hr
    have zl := zl
    have hrX := hr
    have hr2 : Room 2 _ := hr.mono (by decide)
    refine ⟨_, (pss_one (ps_ret (pe_and (pe_chain op_le op_le (pe_int) (pe_callB call_len_seq (by rfl) m_len PySem.boot_len (pa_cons (pv 0) pa_nil)) (pe_int)) (pe_one (GX.pe_allG (k := 2) (own := [("text", 1)]) (g := gName 1) (tt := tYes) (te := tCall (spTX Ts) [] E0 (tCons (tVar 1) tNil)) hrX rfl scAT.nd (by rfl) m_all ⟨blkOk_by (N := nAT) (sc := defScope sAT) (by decide +kernel), by decide +kernel, rfl, rfl, TB, rfl⟩ (pi_list (pv 0)) (fun _ _ _ _ _ _ hrG => by exact pg_name (i := 1) scAT.nd rfl (.inl rfl)) (fun _ _ _ _ _ _ hrG => pts_nil) (fun _ _ _ _ _ _ hrG => by exact pe_call GTX (hrG.mono (by decide)) (by rfl) gTX kTX bTX .nil pass0 (pa_cons (pv 1) pa_nil)) (fun _ => rfl)))))), ?_⟩
    have lts : (strV ts).length = ts.length := List.length_map _
    refine ⟨_, rfl, a, _, rfl, .inl (SqL.of ha), _, _, rfl, rfl, _, rfl, ite2 (fun h1 => ?_) (fun h1 => ?_)⟩
    · have h1 := of_decide_eq_true h1
      refine ⟨_, _, rfl, rfl, _, rfl, ite2 (fun h2 => ?_) (fun h2 => ?_)⟩
      · have h2 := of_decide_eq_true h2
        refine ⟨_, rfl, a, rfl, ⟨_, SqL.of ha⟩, g T6 hT6, fun H2 t2 => ?_⟩
        have b2 : Tbs Ts H H2 := (Tbs.refl g).tab t2 hT6
        refine GX.wk_list (xs := strV ts) (fun k H' => Tbs Ts H H') b2 ?_ ?_ ?_
        · exact fun i H' _ b => SqL.of (b.lst g ha)
        · rintro i y H3 hy b3
          obtain ⟨t, gt, rfl⟩ := map_get hy
          have okt := ok t (List.mem_of_getElem? gt)
          refine ⟨rfl, _, rfl, t, rfl, Nat.le_trans okt.1 (by decide), b3.tg, fun H4 t4 => ⟨_, rfl, ?_⟩⟩
          rw [decide_eq_true okt]
          exact no_if (by decide) (b3.trans t4)
        · intro H3 b3
          have := q H3 b3
          rwa [decide_eq_true (by omega)] at this
      · have h2 : ¬ ((strV ts).length : Int) ≤ 200 := fun z => h2 (decide_eq_true z)
        have := q H (Tbs.refl g)
        rwa [decide_eq_false (by omega)] at this
    · have h1 : ¬ (1 : Int) ≤ ((strV ts).length : Int) := fun z => h1 (decide_eq_true z)
      have := q H (Tbs.refl g)
      rw [decide_eq_false (by omega)] at this
      exact ⟨_, rfl, ite2 (fun z => absurd z (by decide)) (fun _ => this)⟩
def RisP (l m : Nat) (xs : List (Option Vx)) : Prop := l ≤ xs.length ∧ xs.length ≤ m ∧ ∃ ys : List Vx, xs = ys.map some ∧ Ris ys
def OVs (H : Hp) (ws : List V) (xs : List (Option Vx)) : Prop := EachIs (OptR VxAt H) ws xs
theorem OVs.ts {H H' : Hp} {ws : List V} {xs : List (Option Vx)} (s : TS H H') (h : OVs H ws xs) : OVs H' ws xs := EachIs.mono (fun _ _ z => z.ts s fun _ y => y.ts s) h
theorem vx_yes {x : Vx} (ok : VxOk x) : vxB (some x.1) (some x.2.1) (some x.2.2) = true := by
  unfold vxB
  rw [Bool.and_eq_true, Bool.and_eq_true]
  exact ⟨nm_ok.mpr ok.nm, decide_eq_true ⟨Nat.zero_le _, ok.a⟩, decide_eq_true ⟨Nat.zero_le _, ok.b⟩⟩
theorem ivo_of {Ts : List Addr} {H : Hp} {v : V} {Q : VK} {E : XK} {o : Option Vx} (h : OptR VxAt H v o) (ok : ∀ x, o = some x → VxOk x) (g : TG Ts H) (q : ∀ H', Tbs Ts H H' → Q (.bl o.isSome) H') : spIVo Ts [v] H Q E := by
  cases o with
  | none =>
    have h : v = .non := h
    subst h
    exact .inr ⟨rfl, g, q⟩
  | some x =>
    obtain ⟨va, nv, rfl, e1, e2⟩ := h
    have okx := ok x rfl
    refine .inl ⟨va, nv, some x.2.1, some x.2.2, some x.1, rfl, g, e1, e2, fun n e => by cases e; exact ⟨okx.nm.sm.1.2.1, okx.nm.sm.2.1⟩, fun H' t => ?_⟩
    rw [vx_yes okx]
    exact q H' t
def spRS (Ts : List Addr) : Sp := fun vs H Q _ => ∃ (a : Addr) (ws : List V) (xs : List (Option Vx)) (l m : Nat), vs = [.ref a, .int (l : Int), .int (m : Int)] ∧ H a = some (.lst ws) ∧ OVs H ws xs ∧ (∀ x, some x ∈ xs → VxOk x) ∧ xs.length ≤ 100000 ∧ TG Ts H ∧ ∀ (b : Bool) H', (b = true ↔ RisP l m xs) → Tbs Ts H H' → Q (.bl b) H'
theorem ok_RS {T5 c f fIV : Addr} {Ts : List Addr} {oc kV doc pm ct : Value} {od an : Option Addr} {osl : Array (Option Value)} {fdIV : FuncData} (hT5 : T5 ∈ Ts) (lk : K.lookup f = some ⟨oc, od, .func (PySem.W.fnOf "is_rising" "is_rising" (defArgs sRS) (defBody sRS) (defScope sRS) .none kV doc pm an (.ref c) ct), osl⟩)
    (hcd : PySem.W.codeIn K (.ref c) "is_rising" = true) (TB : TabB base mg c T5)
    (GIV : FnOk P w K mg base CX0 5 fIV fdIV ["vertex"] (spIVo Ts)) (bIV : Binds K fdIV ["vertex"] []) (gIV : mg "is_vertex" = some (.ref fIV)) (kIV : PySem.W.keepIn K (.ref fIV) = true)
    (m_len : mg "len" = none) (m_all : mg "all" = none) (m_range : mg "range" = none) :
    FnOk P w K mg base CX0 7 f (PySem.W.fnOf "is_rising" "is_rising" (defArgs sRS) (defBody sRS) (defScope sRS) .none kV doc pm an (.ref c) ct) ["vertices", "least", "most"] (spRS Ts) := by
  refine fn_of lk hcd scRS (fun vs H Q E h => ?_) fun A outer s H vs Q E hr h => ?_
  · obtain ⟨a, ws, xs, l, m, rfl, _⟩ := h
    rfl
  · obtain ⟨a, ws, xs, l, m, rfl, ha, he, ok, h3, g, q⟩ := h
    have hu := hr.units
    have hu1 := hu_of hr
    have zl := zl
    have hrX := hr
    have hr5 : Room 5 _ := hr.mono (by decide)
    refine ⟨_, (pss_cons (ps_if (PW.pt (pw_or (pt_not (pt_chain op_le op_le (pv 1) (pe_callB call_len_seq (by rfl) m_len PySem.boot_len (pa_cons (pv 0) pa_nil)) (pv 2))) (pw_or1 (pt_not (pt_truth (GX.pe_allG (k := 5) (own := [("vertex", 4)]) (g := gName 4) (tt := tYes) (te := tCall (spIVo Ts) [] E0 (tCons (tVar 4) tNil)) hrX rfl scRS.nd (by rfl) m_all ⟨blkOk_by (N := nRS) (sc := defScope sRS) (by decide +kernel), by decide +kernel, rfl, rfl, TB, rfl⟩ (pi_list (pv 0)) (fun _ _ _ _ _ _ hrG => by exact pg_name (i := 4) scRS.nd rfl (.inl rfl)) (fun _ _ _ _ _ _ hrG => pts_nil) (fun _ _ _ _ _ _ hrG => by exact pe_call GIV (hrG.mono (by decide)) (by rfl) gIV kIV bIV .nil pass0 (pa_cons (pv 4) pa_nil)) (fun _ => rfl)) (by intro _; rfl))))))
      (pss_one (ps_ret (pe_bl))) pss_nil)
      (pss_one (ps_ret (GX.pe_allG (k := 5) (own := [("k", 3)]) (g := gName 3) (tt := tYes) (te := tOp (GX.rLtP K) (tOp (rIxL K) (tVar 0) (tVar 3)) (tOp (rIxL K) (tVar 0) (tOp (rI0 fun i j => .int (i + j)) (tVar 3) (tC (.int 1))))) hrX rfl scRS.nd (by rfl) m_all ⟨blkOk_by (N := nRS) (sc := defScope sRS) (by decide +kernel), by decide +kernel, rfl, rfl, TB, rfl⟩ (pi_range1 (by rfl) m_range (pa_cons (pe_op op_sub (pe_callB call_len_seq (by rfl) m_len PySem.boot_len (pa_cons (pv 0) pa_nil)) (pe_int)) pa_nil)) (fun _ _ _ _ _ _ hrG => by exact pg_name (i := 3) scRS.nd rfl (.inl rfl)) (fun _ _ _ _ _ _ hrG => pts_nil) (fun _ _ _ _ _ _ hrG => by exact pe_cmpR (GX.op_ltP hrG.units) (pe_ix ix_list (pv 0) (pv 3) (fun _ _ => rfl)) (pe_ix ix_list (pv 0) (pe_op op_add (pv 3) (pe_int)) (fun _ _ => rfl)) (nomark _)) (fun _ => rfl))))), ?_⟩
    have lw : ws.length = xs.length := he.length
    have no : ∀ {H'}, Tbs Ts H H' → ¬ RisP l m xs → Q (.bl false) H' := fun t n => q false _ ⟨(fun z => nomatch z), fun z => absurd z n⟩ t
    dsimp only [tNext, tSeq, tIfS, tAsg, gName, tC]
    refine or_decG (Rel := Tbs Ts) (fun _ _ _ => Tbs.trans) (p := ¬ (l ≤ xs.length ∧ xs.length ≤ m)) (q := ¬ ∀ o ∈ xs, o.isSome = true) (fun R k => ⟨_, rfl, _, rfl, a, _, rfl, .inl (SqL.of ha), _, _, rfl, rfl, _, rfl, ite2 (fun h1 => ⟨_, rfl, _, _, rfl, rfl, _, rfl, ?_⟩) (fun h1 => ?_)⟩)
      (fun _ H1 t1 R k => ⟨_, rfl, a, rfl, ⟨_, SqL.of (t1.lst g ha)⟩, t1.tg T5 hT5, fun H2 t2 => ?_⟩) fun H1 t1 => ite2 (fun h => no t1 ?_) (fun h => ?_)
    · have h1 := of_decide_eq_true h1
      refine to_dec ?_ (k _ (Tbs.refl g))
      rw [← decide_not]
      exact decide_eq_decide.mpr (by omega)
    · have h1 : ¬ (l : Int) ≤ (ws.length : Int) := fun z => h1 (decide_eq_true z)
      exact ⟨_, rfl, to_dec (decide_eq_true (by omega)).symm (k _ (Tbs.refl g))⟩
    · have ha1 := t1.lst g ha
      have b2 : Tbs Ts H1 H2 := (Tbs.refl t1.tg).tab t2 hT5
      refine GX.wk_list (xs := ws) (fun k H' => Tbs Ts H1 H' ∧ ∀ (m : Nat) (o : Option Vx), m < k → xs[m]? = some o → o.isSome = true) ⟨b2, fun m o h => by omega⟩ ?_ ?_ ?_
      · exact fun i H' _ b => SqL.of (b.1.lst t1.tg ha1)
      · rintro i y H3 hy ⟨b3, hm⟩
        obtain ⟨o, gx, hx⟩ := each_at he hy
        refine ⟨rfl, _, rfl, ivo_of (OptR.ts ((t1.trans b3).ts g) (fun _ z => z.ts ((t1.trans b3).ts g)) hx) (fun x e => ok x (e ▸ List.mem_of_getElem? gx)) b3.tg fun H4 t4 => ⟨_, rfl, ?_⟩⟩
        cases ho : o.isSome with
        | true =>
          refine no_if (by decide) ⟨b3.trans t4, fun m d h e => ?_⟩
          by_cases hmk : m = i
          · subst hmk
            rw [gx] at e
            cases e
            exact ho
          · exact hm m d (by omega) e
        | false =>
          rw [if_pos rfl]
          refine ⟨_, rfl, to_dec ?_ (k _ (b3.trans t4))⟩
          exact (@decide_eq_true (¬ ∀ o ∈ xs, o.isSome = true) _ fun z => by rw [z o (List.mem_of_getElem? gx)] at ho; cases ho).symm
      · rintro H3 ⟨b3, hm⟩
        refine ⟨_, rfl, to_dec ?_ (k _ b3)⟩
        refine (@decide_eq_false (¬ ∀ o ∈ xs, o.isSome = true) _ fun z => z fun o ho => ?_).symm
        obtain ⟨j, e⟩ := List.mem_iff_getElem?.mp ho
        exact hm j o (by rw [lw]; exact (List.getElem?_eq_some_iff.mp e).1) e
    · rintro ⟨r1, r2, ys, rfl, _⟩
      rcases @of_decide_eq_true _ _ h with z | z
      · exact z ⟨r1, r2⟩
      · refine z fun o ho => ?_
        obtain ⟨y, _, rfl⟩ := List.mem_map.mp ho
        rfl
    · have hn : (l ≤ xs.length ∧ xs.length ≤ m) ∧ ∀ o ∈ xs, o.isSome = true := by
        have h' := @of_decide_eq_false _ _ (Bool.eq_false_iff.mpr h)
        exact ⟨Classical.byContradiction fun z => h' (.inl z), Classical.byContradiction fun z => h' (.inr z)⟩
      obtain ⟨ys, rfl⟩ : ∃ ys : List Vx, xs = ys.map some := by
        have hs := hn.2
        clear h hn no q he lw h3 ok
        induction xs with
        | nil => exact ⟨[], rfl⟩
        | cons o r ih =>
          obtain ⟨ys, e⟩ := ih fun o ho => hs o (List.mem_cons_of_mem _ ho)
          obtain ⟨y, hy⟩ := Option.isSome_iff_exists.mp (hs o List.mem_cons_self)
          exact ⟨y :: ys, by rw [e, hy]; rfl⟩
      rw [List.length_map] at lw hn h3
      have ha1 := t1.lst g ha
      have at_ : ∀ {i : Nat} {x : Vx} {H' : Hp}, ys[i]? = some x → Tbs Ts H H' → ∃ w, ws[i]? = some w ∧ VxAt H' w x := fun gx t => by
        obtain ⟨w, f, r⟩ := each_get he (show (ys.map some)[_]? = some (some _) by rw [List.getElem?_map, gx]; rfl)
        exact ⟨w, f, VxAt.ts (t.ts g) r⟩
      refine ⟨_, rfl, a, _, rfl, .inl (SqL.of ha1), _, _, rfl, rfl, _, rfl, by omega, by omega, t1.tg T5 hT5, fun H2 t2 => ?_⟩
      have b2 := t1.tab t2 hT5
      refine GX.wk_range (lo := 0) (n := ((ws.length : Int) - 1).toNat) (fun i H' => Tbs Ts H H' ∧ ∀ (m : Nat) (x y : Vx), m < i → ys[m]? = some x → ys[m + 1]? = some y → vlt x y = true) ⟨b2, fun m x y h => by omega⟩ ?_ (fun H3 b3 => q true H3 ⟨fun _ => ⟨by rw [List.length_map]; exact hn.1.1, by rw [List.length_map]; exact hn.1.2, ys, rfl, fun m x y e1 e2 => b3.2 m x y (by have := (List.getElem?_eq_some_iff.mp e2).1; omega) e1 e2⟩, fun _ => rfl⟩ b3.1)
      rintro i H3 hi ⟨b3, hm⟩
      obtain ⟨x1, g1⟩ : ∃ x, ys[i]? = some x := ⟨ys[i]'(by omega), List.getElem?_eq_getElem _⟩
      obtain ⟨x2, g2⟩ : ∃ x, ys[i + 1]? = some x := ⟨ys[i + 1]'(by omega), List.getElem?_eq_getElem _⟩
      obtain ⟨w1, f1, r1⟩ := at_ g1 b3
      obtain ⟨w2, f2, r2⟩ := at_ g2 b3
      have ha3 := b3.lst g ha
      rw [show (0 : Int) + (i : Int) = ((i : Nat) : Int) from Int.zero_add _]
      have d1 := dp_vx (K := K) r1
      have d2 := dp_vx (K := K) r2
      refine ⟨rfl, _, rfl, _, rfl, a, _, _, w1, rfl, rfl, SqL.of ha3, atI_nat f1, _, rfl, _, rfl, _, _, rfl, rfl, a, _, _, w2, rfl, rfl, SqL.of ha3, atI_s f2, _, _, d1, d2, alike_vx _ _, (fun z => by unfold vxD at z; cases z), by rw [vx_depth]; decide, _, rfl, ?_⟩
      show if vlt x1 x2 = false then _ else _
      cases hv : vlt x1 x2 with
      | true =>
        refine no_if (by decide) ⟨b3, fun m x y h e1 e2 => ?_⟩
        by_cases hmk : m = i
        · subst hmk
          rw [g1] at e1
          rw [g2] at e2
          cases e1
          cases e2
          exact hv
        · exact hm m x y (by omega) e1 e2
      | false =>
        rw [if_pos rfl]
        refine no b3 ?_
        rintro ⟨_, _, zs, e, rz⟩
        have : ys = zs := List.map_inj_right (fun _ _ z => Option.some.inj z) |>.mp e
        subst this
        have := rz i x1 x2 g1 g2
        rw [hv] at this
        cases this
end
end K20
namespace K20
open PySem PySem.Spec PyProof.Rows L2 TL TR QR
open GxR (TabB TabG Tabbed)
open PySem.W (EachIs)
abbrev sIC : Stmt := topS 20
abbrev nIC : List Str := ["change", "word"]
theorem scIC : FnScope nIC ["change"] (defScope sIC) := ⟨rfl, rfl, rfl, by decide +kernel, rfl, by decide +kernel, by decide +kernel⟩
theorem word_no {a b : String} (h : Str.ofString a ≠ Str.ofString b) {A B : Prop} (k : B) : if decide (V.str a = V.str b) = true then A else B := by
  rw [if_neg (by rw [decide_eq_true_eq]; intro z; exact h (V.str.inj z))]
  exact k
theorem word_yes {a : V} {A B : Prop} (k : A) : if decide (a = a) = true then A else B := by
  rw [if_pos (decide_eq_true rfl)]
  exact k
/-- the table of the sizes of changes -/
structure SzF (K : PySem.W.Frag) (w : World) (mg : Str → Option Value) (Z : Addr) : Prop where
  g : mg "SIZES" = some (.ref Z)
  d : ∃ es n, K.lookup Z = some ⟨.type "dict", none, .dict es n, #[]⟩ ∧ PySem.W.KeysLit w.params es.toList
  z : (Z == sysModules) = false
  add : KDct K w Z "add" (.int 2)
  move : KDct K w Z "move" (.int 4)
  drop : KDct K w Z "drop" (.int 3)
  lines : KDct K w Z "lines" (.int 5)
  cut : KDct K w Z "cut" (.int 3)
  order : KDct K w Z "order" (.int 4)
  back : KDct K w Z "back" (.int 2)
end K20
namespace K20
open PySem PySem.Spec PyProof.Rows L2 TL TR QR
open GxR (TabB TabG Tabbed)
open PySem.W (EachIs)
abbrev sSS : Stmt := topS 27
abbrev nSS : List Str := ["vertices", "vertex"]
theorem scSS : FnScope nSS ["vertices"] (defScope sSS) := ⟨rfl, rfl, rfl, by decide +kernel, rfl, by decide +kernel, by decide +kernel⟩
abbrev sSC : Stmt := topS 33
abbrev nSC : List Str := ["change", "word", "head", "first", "text"]
theorem scSC : FnScope nSC ["change"] (defScope sSC) := ⟨rfl, rfl, rfl, by decide +kernel, rfl, by decide +kernel, by decide +kernel⟩
theorem t_e : tl Str.empty = [] := rfl
theorem t_sg (l : List Nat) : tl (Sg l) = l := rfl
theorem t_add_ : tl (Str.ofString "add ") = [97, 100, 100, 32] := by decide +kernel
theorem t_back_ : tl (Str.ofString "back ") = [98, 97, 99, 107, 32] := by decide +kernel
theorem t_add : tl (Str.ofString "add") = [97, 100, 100] := by decide +kernel
theorem t_back : tl (Str.ofString "back") = [98, 97, 99, 107] := by decide +kernel
theorem t_drop : tl (Str.ofString "drop") = [100, 114, 111, 112] := by decide +kernel
theorem t_move : tl (Str.ofString "move") = [109, 111, 118, 101] := by decide +kernel
theorem t_cut : tl (Str.ofString "cut") = [99, 117, 116] := by decide +kernel
theorem t_order : tl (Str.ofString "order") = [111, 114, 100, 101, 114] := by decide +kernel
theorem t_lines : tl (Str.ofString "lines") = [108, 105, 110, 101, 115] := by decide +kernel
theorem t_end : tl (Str.ofString "end") = [101, 110, 100] := by decide +kernel
theorem t_pt : tl (Str.ofString "patch ") = [112, 97, 116, 99, 104, 32] := by decide +kernel
theorem t_nt : tl (Str.ofString "note ") = [110, 111, 116, 101, 32] := by decide +kernel
theorem t_sp : tl (Str.ofString " ") = [32] := by decide +kernel
theorem t_bar : tl (Str.ofString "|") = [124] := by decide +kernel
theorem t_com : tl (Str.ofString ",") = [44] := by decide +kernel
theorem t_dot : tl (Str.ofString ".") = [46] := by decide +kernel
theorem t_col : tl (Str.ofString ":") = [58] := by decide +kernel
theorem t_mi : tl (Str.ofString "-") = [45] := by decide +kernel
/-- a walk within a comprehension over a list -/
theorem walk2 {K : PySem.W.Frag} {a : Addr} {xs : List V} {BODY : V → Hp → (Hp → Prop) → Prop} {H1 : Hp} {Qd : Hp → Prop} (Pv : Nat → Hp → Prop) (h0 : Pv 0 H1) (hl : ∀ i H, i ≤ xs.length → Pv i H → SqL K H a xs)
    (hs : ∀ i x H, xs[i]? = some x → Pv i H → BODY x H (Pv (i + 1))) (hd : ∀ H, Pv xs.length H → Qd H) :
    ∃ W : Nat → Nat → Hp → Prop, (∃ m, W 0 m H1) ∧ ∀ i m H, W i m H →
      ((Itl K a).stop i H ∧ Qd H) ∨ ((Itl K a).go i H ∧ ∃ Nx : Hp → Prop, (∀ H', Nx H' → ∃ m', m' < m ∧ W (i + 1) m' H') ∧ ∀ x H', (Itl K a).yld i H x H' → BODY x H' Nx) := by
  refine ⟨fun i m H => m = xs.length - i ∧ i ≤ xs.length ∧ Pv i H, ⟨xs.length, by simp, Nat.zero_le _, h0⟩, ?_⟩
  rintro i m H ⟨rfl, hi, p⟩
  have q := hl i H hi p
  by_cases hlt : i < xs.length
  · refine .inr ⟨⟨xs, xs[i], q, by simp [hlt]⟩, Pv (i + 1), fun H' p' => ⟨xs.length - (i + 1), by omega, rfl, hlt, p'⟩, fun x H' y => ?_⟩
    obtain ⟨e, y⟩ := y
    subst e
    exact hs i x _ (y xs q) p
  · have e : i = xs.length := by omega
    subst e
    exact .inl ⟨⟨xs, q, Nat.le_refl _⟩, hd H p⟩
theorem take_snoc {α : Type} {xs : List α} {i : Nat} {x : α} (h : xs[i]? = some x) : xs.take (i + 1) = xs.take i ++ [x] := by
  rw [List.take_add_one, h]
  rfl
theorem join_com (ps : Path) : Txt.join (Str.ofString ",") (ps.map Sg) = Sg (TR.joinL 44 ps) := by
  rw [show Str.ofString "," = ⟨#[44]⟩ by decide +kernel]
  show Builtin.Str.glued _ _ = _
  rw [StrLaws.glued_eq_join]
  refine ext_tl ?_
  rw [TR.tl_join, List.map_map]
  have e : (tl ∘ Sg) = id := by funext l; rfl
  rw [e, List.map_id]
  first | done | rfl
theorem TR_join {c b : Nat} : ∀ {P : Path}, (∀ p ∈ P, p.length ≤ b) → (TR.joinL c P).length ≤ (b + 1) * P.length
  | [], _ => Nat.le_refl _
  | [p], h => by
    have := h p List.mem_cons_self
    show p.length ≤ (b + 1) * 1
    omega
  | p :: q :: r, h => by
    have := h p List.mem_cons_self
    have ih := TR_join (P := q :: r) (c := c) fun x hx => h x (List.mem_cons_of_mem _ hx)
    show (p ++ c :: TR.joinL c (q :: r)).length ≤ _
    rw [List.length_append, List.length_cons, List.length_cons (as := q :: r), Nat.mul_succ]
    omega
section
variable {P : Program} {w : World} {K : PySem.W.Frag} {mg : Str → Option Value} {base : Heap} {H : Hp} {v : V} {Q : VK} {E : XK}
theorem sv_of {x : Vx} (hx : VxAt H v x) (ok : VxOk x) (q : ∀ H', Same H H' → Q (.str (Sg (vxL x))) H') : spSV [v] H Q E := ⟨v, x, rfl, hx, ok.sm, q⟩
def spSS : Sp := fun vs H Q _ => ∃ (a : Addr) (ws : List V) (xs : List Vx), vs = [.ref a] ∧ H a = some (.lst ws) ∧ EachIs (VxAt H) ws xs ∧ (∀ x ∈ xs, VxOk x) ∧ xs.length ≤ 200 ∧ ∀ H', Same H H' → Q (.str (Sg (vsL xs))) H'
theorem ok_SS {f fSV : Addr} {fd fdSV : FuncData} (F : Fun K "show_vertices" "show_vertices" sSS f fd)
    (GSV : FnOk P w K mg base CX0 3 fSV fdSV ["vertex"] spSV) (bSV : Binds K fdSV ["vertex"] []) (gSV : mg "show_vertex" = some (.ref fSV)) (kSV : PySem.W.keepIn K (.ref fSV) = true) : FnOk P w K mg base CX0 4 f fd ["vertices"] spSS := by
  refine F.ok scSS (fun vs H Q E h => ?_) (fun cdv A outer s H vs Q E hr h => ?_)
  · obtain ⟨a, ws, xs, rfl, _⟩ := h
    rfl
  · obtain ⟨a, ws, xs, rfl, ha, he, ok, l12, q⟩ := h
    have hu := hr.units
    have hu1 := hu_of hr
    have hr1 : Room 1 _ := hr.mono (by decide)
    have hr2 : Room 2 _ := hr.mono (by decide)
    have hr3 : Room 3 _ := hr.mono (by decide)
    have zl := zl
    refine ⟨_, (pss_one (ps_ret (pe_ifExp (pt_truth (pv 0) (by intro _; rfl)) (pe_join (pe_str) (pe_lc (own := [("vertex", 1)]) (g := gName 1) (tt := tYes) (te := tCall spSV [] E0 (tCons (tVar 1) tNil)) rfl scSS.nd (pi_list (pv 0)) (blkOk_by (N := nSS) (sc := defScope sSS) (by decide +kernel)) (fun _ _ _ _ _ => by exact pg_name (i := 1) scSS.nd rfl (.inl rfl)) (fun _ _ _ _ _ => pts_nil) (fun _ _ _ _ _ => by exact pe_call GSV hr3 (by rfl) gSV kSV bSV .nil pass0 (pa_cons (pv 1) pa_nil)))) (pe_str)))), ?_⟩
    have lw := he.length
    refine ⟨_, rfl, !ws.isEmpty, .inl ⟨ws, SqL.of ha, rfl⟩, ?_⟩
    by_cases hn : ws = []
    · subst hn
      have ex : xs = [] := List.eq_nil_of_length_eq_zero (by rw [← lw]; rfl)
      rw [ex] at q
      have := q H same_refl
      have e : Sg (vsL []) = Str.ofString "-" := by decide +kernel
      rw [e] at this
      exact iteF this
    · have ee : (!ws.isEmpty) = true := by
        cases ws with
        | nil => exact absurd rfl hn
        | cons _ _ => rfl
      rw [ee]
      refine iteT ⟨⟨_, rfl⟩, _, rfl, a, rfl, ⟨_, SqL.of ha⟩, fun D nD => ?_⟩
      refine lc_list (xs := ws) (fun i H' => Same H H' ∧ H' D = some (.lst (strV ((xs.take i).map vxL)))) ⟨same_new nD, upd_same⟩ ?_ ?_ ?_
      · rintro i H' _ ⟨s1, _⟩
        exact SqL.of (s1 _ _ ha)
      · rintro i y H1 hy ⟨s1, eD⟩
        obtain ⟨x, gx, hx⟩ := each_at he hy
        refine ⟨rfl, _, rfl, ?_⟩
        dsimp only [tNil, tCons, tC, List.cons_append, List.nil_append]
        refine sv_of (hx.ts (Same.ts s1)) (ok x (List.mem_of_getElem? gx)) fun H2 s2 => ⟨_, s2 _ _ eD, ?_, same_upd nD (same_trans s1 s2), ?_⟩
        · rw [List.length_map, List.length_map, List.length_take]
          omega
        · rw [upd_same, take_snoc gx, List.map_append]
          unfold strV
          rw [List.map_append]
          rfl
      · rintro H1 ⟨s1, eD⟩
        rw [lw, List.take_length] at eD
        have eD2 : H1 D = some (.lst (((xs.map vxL).map Sg).map V.str)) := by rw [eD, List.map_map (l := xs.map vxL)]; rfl
        refine ⟨_, D, _, rfl, rfl, .inl (SqL.of eD2), ?_, ?_⟩
        · have := sum_sg 2025 (ps := xs.map vxL) fun p hp => by
            obtain ⟨y, hy, rfl⟩ := List.mem_map.mp hp
            exact vx_len (ok y hy).sm
          rw [List.length_map] at this
          rw [List.length_map, List.length_map, show (Str.ofString ",").length = 1 by decide +kernel]
          omega
        · have := q H1 s1
          cases xs with
          | nil => exact absurd (List.eq_nil_of_length_eq_zero lw) hn
          | cons x r =>
            rw [join_com]
            exact this
theorem ss_of {N : Addr → Prop} {xs : List Vx} {l : Nat} (hx : VsAt N H v xs) (ok : VsOk xs l) (q : ∀ H', Same H H' → Q (.str (Sg (vsL xs))) H') : spSS [v] H Q E := by
  obtain ⟨c, ws, rfl, _, e1, e2⟩ := hx
  exact ⟨c, ws, xs, rfl, e1, e2, ok.ok, ok.hi, q⟩
def spSC : Sp := fun vs H Q _ => ∃ (v : V) (c : Chg), vs = [v] ∧ ChgAt (fun _ => True) H v c ∧ ChgOk c ∧ ∀ H' p, Same H H' → H p = none → H' p = some (.lst (strV (showC c))) → Q (.ref p) H'
theorem ok_SC {f fSV fSS fSH fSI : Addr} {fd fdSV fdSS fdSH fdSI : FuncData} (F : Fun K "show_change" "show_change" sSC f fd)
    (GSV : FnOk P w K mg base CX0 3 fSV fdSV ["vertex"] spSV) (bSV : Binds K fdSV ["vertex"] []) (gSV : mg "show_vertex" = some (.ref fSV)) (kSV : PySem.W.keepIn K (.ref fSV) = true)
    (GSS : FnOk P w K mg base CX0 4 fSS fdSS ["vertices"] spSS) (bSS : Binds K fdSS ["vertices"] []) (gSS : mg "show_vertices" = some (.ref fSS)) (kSS : PySem.W.keepIn K (.ref fSS) = true)
    (GSH : FnOk P w K mg base CX0 1 fSH fdSH ["path"] spSH) (bSH : Binds K fdSH ["path"] []) (gSH : mg "show_path" = some (.ref fSH)) (kSH : PySem.W.keepIn K (.ref fSH) = true)
    (GSI : FnOk P w K mg base CX0 2 fSI fdSI ["name"] spSI) (bSI : Binds K fdSI ["name"] []) (gSI : mg "show_id" = some (.ref fSI)) (kSI : PySem.W.keepIn K (.ref fSI) = true)
    (m_len : mg "len" = none) : FnOk P w K mg base CX0 5 f fd ["change"] spSC := by
  refine F.ok scSC (fun vs H Q E h => ?_) (fun cdv A outer s H vs Q E hr h => ?_)
  · obtain ⟨v, c, rfl, _⟩ := h
    rfl
  · obtain ⟨v, c, rfl, hc, ok, q⟩ := h
    have hu := hr.units
    have hu1 := hu_of hr
    have hr1 : Room 1 _ := hr.mono (by decide)
    have hr2 : Room 2 _ := hr.mono (by decide)
    have hr3 : Room 3 _ := hr.mono (by decide)
    have hr4 : Room 4 _ := hr.mono (by decide)
    have zl := zl
    refine ⟨_, (pss_cons (ps_set (i := 1) scSC.nd rfl (.inl rfl) (pe_ix ix_tup (pv 0) (pe_int) (fun _ _ => rfl)))
      (pss_cons (ps_if (pt_cmpR op_eq (pv 1) (pe_str) (nomark _))
      (pss_one (ps_ret (pe_lst (pa_cons (pe_joined (.cons (pe_str) (.cons (pe_fmt (pe_call GSH hr1 (by rfl) gSH kSH bSH .nil pass0 (pa_cons (pe_ix ix_tup (pv 0) (pe_int) (fun _ _ => rfl)) pa_nil))) (.nil)))) pa_nil)))) pss_nil)
      (pss_cons (ps_if (pt_cmpR op_eq (pv 1) (pe_str) (nomark _))
      (pss_one (ps_ret (pe_lst (pa_cons (pe_joined (.cons (pe_str) (.cons (pe_fmt (pe_call GSI hr2 (by rfl) gSI kSI bSI .nil pass0 (pa_cons (pe_ix ix_tup (pv 0) (pe_int) (fun _ _ => rfl)) pa_nil))) (.nil)))) pa_nil)))) pss_nil)
      (pss_cons (ps_set (i := 2) scSC.nd rfl (.inl rfl) (pe_joined (.cons (pe_fmt (pv 1)) (.cons (pe_str) (.cons (pe_fmt (pe_call GSV hr3 (by rfl) gSV kSV bSV .nil pass0 (pa_cons (pe_ix ix_tup (pv 0) (pe_int) (fun _ _ => rfl)) pa_nil))) (.nil))))))
      (pss_cons (ps_if (pt_cmpR op_eq (pv 1) (pe_str) (nomark _))
      (pss_one (ps_ret (pe_lst (pa_cons (pe_joined (.cons (pe_fmt (pv 2)) (.cons (pe_str) (.cons (pe_fmt (pe_call GSH hr1 (by rfl) gSH kSH bSH .nil pass0 (pa_cons (pe_ix ix_tup (pv 0) (pe_int) (fun _ _ => rfl)) pa_nil))) (.cons (pe_str) (.cons (pe_fmt (pe_call GSS hr4 (by rfl) gSS kSS bSS .nil pass0 (pa_cons (pe_ix ix_tup (pv 0) (pe_int) (fun _ _ => rfl)) pa_nil))) (.nil))))))) pa_nil)))) pss_nil)
      (pss_cons (ps_if (pt_cmpR op_eq (pv 1) (pe_str) (nomark _))
      (pss_one (ps_ret (pe_lst (pa_cons (pe_joined (.cons (pe_fmt (pv 2)) (.cons (pe_str) (.cons (pe_fmt (pe_call GSV hr3 (by rfl) gSV kSV bSV .nil pass0 (pa_cons (pe_ix ix_tup (pv 0) (pe_int) (fun _ _ => rfl)) pa_nil))) (.cons (pe_str) (.cons (pe_fmt (pe_call GSV hr3 (by rfl) gSV kSV bSV .nil pass0 (pa_cons (pe_ix ix_tup (pv 0) (pe_int) (fun _ _ => rfl)) pa_nil))) (.nil))))))) pa_nil)))) pss_nil)
      (pss_cons (ps_if (pt_cmpR op_eq (pv 1) (pe_str) (nomark _))
      (pss_cons (ps_set (i := 3) scSC.nd rfl (.inl rfl) (pe_joined (.cons (pe_fmt (pv 2)) (.cons (pe_str) (.cons (pe_fmt (pe_call GSS hr4 (by rfl) gSS kSS bSS .nil pass0 (pa_cons (pe_ix ix_tup (pv 0) (pe_int) (fun _ _ => rfl)) pa_nil))) (.cons (pe_str) (.cons (pe_fmt (pe_call GSS hr4 (by rfl) gSS kSS bSS .nil pass0 (pa_cons (pe_ix ix_tup (pv 0) (pe_int) (fun _ _ => rfl)) pa_nil))) (.cons (pe_str) (.cons (pe_fmt (pe_callB call_len_seq (by rfl) m_len PySem.boot_len (pa_cons (pe_ix ix_tup (pv 0) (pe_int) (fun _ _ => rfl)) pa_nil))) (.nil))))))))))
      (pss_one (ps_ret (pe_op op_cat (pe_lst (pa_cons (pv 3) pa_nil)) (pe_lc (own := [("text", 4)]) (g := gName 4) (tt := tYes) (te := _) rfl scSC.nd (pi_list (pe_ix ix_tup (pv 0) (pe_int) (fun _ _ => rfl))) (blkOk_by (N := nSC) (sc := defScope sSC) (by decide +kernel)) (fun _ _ _ _ _ => by exact pg_name (i := 4) scSC.nd rfl (.inl rfl)) (fun _ _ _ _ _ => pts_nil) (fun _ _ _ _ _ => by exact pe_joined (.cons (pe_str) (.cons (pe_fmt (pv 4)) (.nil))))))))) pss_nil)
      (pss_one (ps_ret (pe_lst (pa_cons (pe_joined (.cons (pe_fmt (pv 2)) (.cons (pe_str) (.cons (pe_fmt (pe_call GSS hr4 (by rfl) gSS kSS bSS .nil pass0 (pa_cons (pe_ix ix_tup (pv 0) (pe_int) (fun _ _ => rfl)) pa_nil))) (.nil))))) pa_nil))))))))))), ?_⟩
    have fin : ∀ {H' : Hp} {z : Str}, Same H H' → tailL c = [] → z = Sg (headL c) → ∀ p, H' p = none → Q (.ref p) (upd H' p (.lst [.str z])) := fun s1 e1 e2 p np => by
      refine q _ p (same_trans s1 (same_new np)) (same_none s1 np) ?_
      rw [upd_same, e2]
      unfold showC
      rw [e1]
      rfl
    have lf : ∀ {H'}, Same H H' → LF (fun _ => True) H H' := fun t => Same.lf t
    cases c with
    | add p =>
      obtain ⟨a, pv, rfl, h1, h2⟩ := hc
      have sl : (slashL p).length ≤ 40 := by
        obtain ⟨_, l4, lp⟩ := path_ok ok
        have := TR_join (c := 47) (b := 8) (P := p) fun x hx => (lp x hx).1
        unfold slashL
        omega
      refine ⟨_, rfl, a, _, _, _, rfl, rfl, SqT.of h1, atI_nat (j := 0) rfl, _, rfl, rfl, _, rfl, word_yes ⟨_, rfl, (by rw [len_tl]; simp only [tl_app, t_e, t_sg, t_add_, t_back_, t_drop, t_move, t_cut, t_order, t_lines, t_add, t_back, t_sp, t_bar, t_end, t_pt, t_nt, t_com, t_dot, t_col, t_mi, wAdd, wBack, wDrop, wMove, wCut, wOrder, wLines, wEnd, wPatch, wNote, List.length_append, List.length_cons, List.length_nil]; omega), _, rfl, a, _, _, _, rfl, rfl, SqT.of h1, atI_nat (j := 1) rfl, ?_⟩⟩
      dsimp only [tNil, tCons, tC, List.cons_append, List.nil_append]
      refine ⟨pv, p, rfl, h2, path_sm ok, .inl ⟨_, rfl, (by rw [len_tl]; simp only [tl_app, t_e, t_sg, t_add_, t_back_, t_drop, t_move, t_cut, t_order, t_lines, t_add, t_back, t_sp, t_bar, t_end, t_pt, t_nt, t_com, t_dot, t_col, t_mi, wAdd, wBack, wDrop, wMove, wCut, wOrder, wLines, wEnd, wPatch, wNote, List.length_append, List.length_cons, List.length_nil]; omega), _, rfl, (by rw [len_tl]; simp only [tl_app, t_e, t_sg, t_add_, t_back_, t_drop, t_move, t_cut, t_order, t_lines, t_add, t_back, t_sp, t_bar, t_end, t_pt, t_nt, t_com, t_dot, t_col, t_mi, wAdd, wBack, wDrop, wMove, wCut, wOrder, wLines, wEnd, wPatch, wNote, List.length_append, List.length_cons, List.length_nil]; omega), by show 1 ≤ sizeLine; omega, fin same_refl rfl ?_⟩⟩
      exact (ext_tl (by simp only [tl_app, t_e, t_sg, t_add_, t_back_, t_drop, t_move, t_cut, t_order, t_lines, t_add, t_back, t_sp, t_bar, t_end, t_pt, t_nt, t_com, t_dot, t_col, t_mi, sg_num]; simp [headL, wordsOf, TR.joinL, wAdd, wBack, wDrop, wMove, wCut, wOrder, wLines, t_sg]))
    | back n =>
      obtain ⟨a, pv, rfl, h1, h2⟩ := hc
      have sl := id_len (NmOk.sm ok)
      refine ⟨_, rfl, a, _, _, _, rfl, rfl, SqT.of h1, atI_nat (j := 0) rfl, _, rfl, rfl, _, rfl, word_no (by decide +kernel) ⟨_, rfl, rfl, _, rfl, word_yes ⟨_, rfl, (by rw [len_tl]; simp only [tl_app, t_e, t_sg, t_add_, t_back_, t_drop, t_move, t_cut, t_order, t_lines, t_add, t_back, t_sp, t_bar, t_end, t_pt, t_nt, t_com, t_dot, t_col, t_mi, wAdd, wBack, wDrop, wMove, wCut, wOrder, wLines, wEnd, wPatch, wNote, List.length_append, List.length_cons, List.length_nil]; omega), _, rfl, a, _, _, _, rfl, rfl, SqT.of h1, atI_nat (j := 1) rfl, ?_⟩⟩⟩
      dsimp only [tNil, tCons, tC, List.cons_append, List.nil_append]
      refine ⟨pv, n, rfl, h2, NmOk.sm ok, fun H1 s1 => .inl ⟨_, rfl, (by rw [len_tl]; simp only [tl_app, t_e, t_sg, t_add_, t_back_, t_drop, t_move, t_cut, t_order, t_lines, t_add, t_back, t_sp, t_bar, t_end, t_pt, t_nt, t_com, t_dot, t_col, t_mi, wAdd, wBack, wDrop, wMove, wCut, wOrder, wLines, wEnd, wPatch, wNote, List.length_append, List.length_cons, List.length_nil]; omega), _, rfl, (by rw [len_tl]; simp only [tl_app, t_e, t_sg, t_add_, t_back_, t_drop, t_move, t_cut, t_order, t_lines, t_add, t_back, t_sp, t_bar, t_end, t_pt, t_nt, t_com, t_dot, t_col, t_mi, wAdd, wBack, wDrop, wMove, wCut, wOrder, wLines, wEnd, wPatch, wNote, List.length_append, List.length_cons, List.length_nil]; omega), by show 1 ≤ sizeLine; omega, fin s1 rfl ?_⟩⟩
      exact (ext_tl (by simp only [tl_app, t_e, t_sg, t_add_, t_back_, t_drop, t_move, t_cut, t_order, t_lines, t_add, t_back, t_sp, t_bar, t_end, t_pt, t_nt, t_com, t_dot, t_col, t_mi, sg_num]; simp [headL, wordsOf, TR.joinL, wAdd, wBack, wDrop, wMove, wCut, wOrder, wLines, t_sg]))
    | drop f xs =>
      obtain ⟨a, fv, xv, rfl, h1, h2, h3⟩ := hc
      have sf := vx_len ok.1.sm
      have sx := vs_len ok.2.ok ok.2.hi
      refine ⟨_, rfl, a, _, _, _, rfl, rfl, SqT.of h1, atI_nat (j := 0) rfl, _, rfl, rfl, _, rfl, word_no (by decide +kernel) ⟨_, rfl, rfl, _, rfl, word_no (by decide +kernel) ⟨_, rfl, .inl ⟨_, rfl, (by rw [len_tl]; simp only [tl_app, t_e, t_sg, t_add_, t_back_, t_drop, t_move, t_cut, t_order, t_lines, t_add, t_back, t_sp, t_bar, t_end, t_pt, t_nt, t_com, t_dot, t_col, t_mi, wAdd, wBack, wDrop, wMove, wCut, wOrder, wLines, wEnd, wPatch, wNote, List.length_append, List.length_cons, List.length_nil]; omega), _, rfl, (by rw [len_tl]; simp only [tl_app, t_e, t_sg, t_add_, t_back_, t_drop, t_move, t_cut, t_order, t_lines, t_add, t_back, t_sp, t_bar, t_end, t_pt, t_nt, t_com, t_dot, t_col, t_mi, wAdd, wBack, wDrop, wMove, wCut, wOrder, wLines, wEnd, wPatch, wNote, List.length_append, List.length_cons, List.length_nil]; omega), _, rfl, (by rw [len_tl]; simp only [tl_app, t_e, t_sg, t_add_, t_back_, t_drop, t_move, t_cut, t_order, t_lines, t_add, t_back, t_sp, t_bar, t_end, t_pt, t_nt, t_com, t_dot, t_col, t_mi, wAdd, wBack, wDrop, wMove, wCut, wOrder, wLines, wEnd, wPatch, wNote, List.length_append, List.length_cons, List.length_nil]; omega), _, rfl, a, _, _, _, rfl, rfl, SqT.of h1, atI_nat (j := 1) rfl, ?_⟩⟩⟩⟩
      dsimp only [tNil, tCons, tC, List.cons_append, List.nil_append]
      refine sv_of h2 ok.1 fun H1 s1 => .inl ⟨_, rfl, (by rw [len_tl]; simp only [tl_app, t_e, t_sg, t_add_, t_back_, t_drop, t_move, t_cut, t_order, t_lines, t_add, t_back, t_sp, t_bar, t_end, t_pt, t_nt, t_com, t_dot, t_col, t_mi, wAdd, wBack, wDrop, wMove, wCut, wOrder, wLines, wEnd, wPatch, wNote, List.length_append, List.length_cons, List.length_nil]; omega), _, rfl, (by rw [len_tl]; simp only [tl_app, t_e, t_sg, t_add_, t_back_, t_drop, t_move, t_cut, t_order, t_lines, t_add, t_back, t_sp, t_bar, t_end, t_pt, t_nt, t_com, t_dot, t_col, t_mi, wAdd, wBack, wDrop, wMove, wCut, wOrder, wLines, wEnd, wPatch, wNote, List.length_append, List.length_cons, List.length_nil]; omega), _, rfl, rfl, _, rfl, word_no (by decide +kernel) ⟨_, rfl, rfl, _, rfl, word_no (by decide +kernel) ⟨_, rfl, rfl, _, rfl, word_no (by decide +kernel) ⟨_, rfl, .inl ⟨_, rfl, (by rw [len_tl]; simp only [tl_app, t_e, t_sg, t_add_, t_back_, t_drop, t_move, t_cut, t_order, t_lines, t_add, t_back, t_sp, t_bar, t_end, t_pt, t_nt, t_com, t_dot, t_col, t_mi, wAdd, wBack, wDrop, wMove, wCut, wOrder, wLines, wEnd, wPatch, wNote, List.length_append, List.length_cons, List.length_nil]; omega), _, rfl, (by rw [len_tl]; simp only [tl_app, t_e, t_sg, t_add_, t_back_, t_drop, t_move, t_cut, t_order, t_lines, t_add, t_back, t_sp, t_bar, t_end, t_pt, t_nt, t_com, t_dot, t_col, t_mi, wAdd, wBack, wDrop, wMove, wCut, wOrder, wLines, wEnd, wPatch, wNote, List.length_append, List.length_cons, List.length_nil]; omega), _, rfl, (by rw [len_tl]; simp only [tl_app, t_e, t_sg, t_add_, t_back_, t_drop, t_move, t_cut, t_order, t_lines, t_add, t_back, t_sp, t_bar, t_end, t_pt, t_nt, t_com, t_dot, t_col, t_mi, wAdd, wBack, wDrop, wMove, wCut, wOrder, wLines, wEnd, wPatch, wNote, List.length_append, List.length_cons, List.length_nil]; omega), _, rfl, a, _, _, _, rfl, rfl, SqT.of (s1 _ _ h1), atI_nat (j := 2) rfl, ?_⟩⟩⟩⟩⟩
      dsimp only [tNil, tCons, tC, List.cons_append, List.nil_append]
      refine ss_of (h3.lf (lf s1)) ok.2 fun H2 s2 => .inl ⟨_, rfl, (by rw [len_tl]; simp only [tl_app, t_e, t_sg, t_add_, t_back_, t_drop, t_move, t_cut, t_order, t_lines, t_add, t_back, t_sp, t_bar, t_end, t_pt, t_nt, t_com, t_dot, t_col, t_mi, wAdd, wBack, wDrop, wMove, wCut, wOrder, wLines, wEnd, wPatch, wNote, List.length_append, List.length_cons, List.length_nil]; omega), _, rfl, (by rw [len_tl]; simp only [tl_app, t_e, t_sg, t_add_, t_back_, t_drop, t_move, t_cut, t_order, t_lines, t_add, t_back, t_sp, t_bar, t_end, t_pt, t_nt, t_com, t_dot, t_col, t_mi, wAdd, wBack, wDrop, wMove, wCut, wOrder, wLines, wEnd, wPatch, wNote, List.length_append, List.length_cons, List.length_nil]; omega), by show 1 ≤ sizeLine; omega, fin (same_trans s1 s2) rfl ?_⟩
      exact (ext_tl (by simp only [tl_app, t_e, t_sg, t_add_, t_back_, t_drop, t_move, t_cut, t_order, t_lines, t_add, t_back, t_sp, t_bar, t_end, t_pt, t_nt, t_com, t_dot, t_col, t_mi, sg_num]; simp [headL, wordsOf, TR.joinL, wAdd, wBack, wDrop, wMove, wCut, wOrder, wLines, t_sg]))
    | cut f xs =>
      obtain ⟨a, fv, xv, rfl, h1, h2, h3⟩ := hc
      have sf := vx_len ok.1.sm
      have sx := vs_len ok.2.ok ok.2.hi
      refine ⟨_, rfl, a, _, _, _, rfl, rfl, SqT.of h1, atI_nat (j := 0) rfl, _, rfl, rfl, _, rfl, word_no (by decide +kernel) ⟨_, rfl, rfl, _, rfl, word_no (by decide +kernel) ⟨_, rfl, .inl ⟨_, rfl, (by rw [len_tl]; simp only [tl_app, t_e, t_sg, t_add_, t_back_, t_drop, t_move, t_cut, t_order, t_lines, t_add, t_back, t_sp, t_bar, t_end, t_pt, t_nt, t_com, t_dot, t_col, t_mi, wAdd, wBack, wDrop, wMove, wCut, wOrder, wLines, wEnd, wPatch, wNote, List.length_append, List.length_cons, List.length_nil]; omega), _, rfl, (by rw [len_tl]; simp only [tl_app, t_e, t_sg, t_add_, t_back_, t_drop, t_move, t_cut, t_order, t_lines, t_add, t_back, t_sp, t_bar, t_end, t_pt, t_nt, t_com, t_dot, t_col, t_mi, wAdd, wBack, wDrop, wMove, wCut, wOrder, wLines, wEnd, wPatch, wNote, List.length_append, List.length_cons, List.length_nil]; omega), _, rfl, (by rw [len_tl]; simp only [tl_app, t_e, t_sg, t_add_, t_back_, t_drop, t_move, t_cut, t_order, t_lines, t_add, t_back, t_sp, t_bar, t_end, t_pt, t_nt, t_com, t_dot, t_col, t_mi, wAdd, wBack, wDrop, wMove, wCut, wOrder, wLines, wEnd, wPatch, wNote, List.length_append, List.length_cons, List.length_nil]; omega), _, rfl, a, _, _, _, rfl, rfl, SqT.of h1, atI_nat (j := 1) rfl, ?_⟩⟩⟩⟩
      dsimp only [tNil, tCons, tC, List.cons_append, List.nil_append]
      refine sv_of h2 ok.1 fun H1 s1 => .inl ⟨_, rfl, (by rw [len_tl]; simp only [tl_app, t_e, t_sg, t_add_, t_back_, t_drop, t_move, t_cut, t_order, t_lines, t_add, t_back, t_sp, t_bar, t_end, t_pt, t_nt, t_com, t_dot, t_col, t_mi, wAdd, wBack, wDrop, wMove, wCut, wOrder, wLines, wEnd, wPatch, wNote, List.length_append, List.length_cons, List.length_nil]; omega), _, rfl, (by rw [len_tl]; simp only [tl_app, t_e, t_sg, t_add_, t_back_, t_drop, t_move, t_cut, t_order, t_lines, t_add, t_back, t_sp, t_bar, t_end, t_pt, t_nt, t_com, t_dot, t_col, t_mi, wAdd, wBack, wDrop, wMove, wCut, wOrder, wLines, wEnd, wPatch, wNote, List.length_append, List.length_cons, List.length_nil]; omega), _, rfl, rfl, _, rfl, word_no (by decide +kernel) ⟨_, rfl, rfl, _, rfl, word_no (by decide +kernel) ⟨_, rfl, rfl, _, rfl, word_no (by decide +kernel) ⟨_, rfl, .inl ⟨_, rfl, (by rw [len_tl]; simp only [tl_app, t_e, t_sg, t_add_, t_back_, t_drop, t_move, t_cut, t_order, t_lines, t_add, t_back, t_sp, t_bar, t_end, t_pt, t_nt, t_com, t_dot, t_col, t_mi, wAdd, wBack, wDrop, wMove, wCut, wOrder, wLines, wEnd, wPatch, wNote, List.length_append, List.length_cons, List.length_nil]; omega), _, rfl, (by rw [len_tl]; simp only [tl_app, t_e, t_sg, t_add_, t_back_, t_drop, t_move, t_cut, t_order, t_lines, t_add, t_back, t_sp, t_bar, t_end, t_pt, t_nt, t_com, t_dot, t_col, t_mi, wAdd, wBack, wDrop, wMove, wCut, wOrder, wLines, wEnd, wPatch, wNote, List.length_append, List.length_cons, List.length_nil]; omega), _, rfl, (by rw [len_tl]; simp only [tl_app, t_e, t_sg, t_add_, t_back_, t_drop, t_move, t_cut, t_order, t_lines, t_add, t_back, t_sp, t_bar, t_end, t_pt, t_nt, t_com, t_dot, t_col, t_mi, wAdd, wBack, wDrop, wMove, wCut, wOrder, wLines, wEnd, wPatch, wNote, List.length_append, List.length_cons, List.length_nil]; omega), _, rfl, a, _, _, _, rfl, rfl, SqT.of (s1 _ _ h1), atI_nat (j := 2) rfl, ?_⟩⟩⟩⟩⟩
      dsimp only [tNil, tCons, tC, List.cons_append, List.nil_append]
      refine ss_of (h3.lf (lf s1)) ok.2 fun H2 s2 => .inl ⟨_, rfl, (by rw [len_tl]; simp only [tl_app, t_e, t_sg, t_add_, t_back_, t_drop, t_move, t_cut, t_order, t_lines, t_add, t_back, t_sp, t_bar, t_end, t_pt, t_nt, t_com, t_dot, t_col, t_mi, wAdd, wBack, wDrop, wMove, wCut, wOrder, wLines, wEnd, wPatch, wNote, List.length_append, List.length_cons, List.length_nil]; omega), _, rfl, (by rw [len_tl]; simp only [tl_app, t_e, t_sg, t_add_, t_back_, t_drop, t_move, t_cut, t_order, t_lines, t_add, t_back, t_sp, t_bar, t_end, t_pt, t_nt, t_com, t_dot, t_col, t_mi, wAdd, wBack, wDrop, wMove, wCut, wOrder, wLines, wEnd, wPatch, wNote, List.length_append, List.length_cons, List.length_nil]; omega), by show 1 ≤ sizeLine; omega, fin (same_trans s1 s2) rfl ?_⟩
      exact (ext_tl (by simp only [tl_app, t_e, t_sg, t_add_, t_back_, t_drop, t_move, t_cut, t_order, t_lines, t_add, t_back, t_sp, t_bar, t_end, t_pt, t_nt, t_com, t_dot, t_col, t_mi, sg_num]; simp [headL, wordsOf, TR.joinL, wAdd, wBack, wDrop, wMove, wCut, wOrder, wLines, t_sg]))
    | move f p xs =>
      obtain ⟨a, fv, pv, xv, rfl, h1, h2, h3, h4⟩ := hc
      have sf := vx_len ok.1.sm
      have sx := vs_len ok.2.2.ok ok.2.2.hi
      have sl : (slashL p).length ≤ 40 := by
        obtain ⟨_, l4, lp⟩ := path_ok ok.2.1
        have := TR_join (c := 47) (b := 8) (P := p) fun x hx => (lp x hx).1
        unfold slashL
        omega
      refine ⟨_, rfl, a, _, _, _, rfl, rfl, SqT.of h1, atI_nat (j := 0) rfl, _, rfl, rfl, _, rfl, word_no (by decide +kernel) ⟨_, rfl, rfl, _, rfl, word_no (by decide +kernel) ⟨_, rfl, .inl ⟨_, rfl, (by rw [len_tl]; simp only [tl_app, t_e, t_sg, t_add_, t_back_, t_drop, t_move, t_cut, t_order, t_lines, t_add, t_back, t_sp, t_bar, t_end, t_pt, t_nt, t_com, t_dot, t_col, t_mi, wAdd, wBack, wDrop, wMove, wCut, wOrder, wLines, wEnd, wPatch, wNote, List.length_append, List.length_cons, List.length_nil]; omega), _, rfl, (by rw [len_tl]; simp only [tl_app, t_e, t_sg, t_add_, t_back_, t_drop, t_move, t_cut, t_order, t_lines, t_add, t_back, t_sp, t_bar, t_end, t_pt, t_nt, t_com, t_dot, t_col, t_mi, wAdd, wBack, wDrop, wMove, wCut, wOrder, wLines, wEnd, wPatch, wNote, List.length_append, List.length_cons, List.length_nil]; omega), _, rfl, (by rw [len_tl]; simp only [tl_app, t_e, t_sg, t_add_, t_back_, t_drop, t_move, t_cut, t_order, t_lines, t_add, t_back, t_sp, t_bar, t_end, t_pt, t_nt, t_com, t_dot, t_col, t_mi, wAdd, wBack, wDrop, wMove, wCut, wOrder, wLines, wEnd, wPatch, wNote, List.length_append, List.length_cons, List.length_nil]; omega), _, rfl, a, _, _, _, rfl, rfl, SqT.of h1, atI_nat (j := 1) rfl, ?_⟩⟩⟩⟩
      dsimp only [tNil, tCons, tC, List.cons_append, List.nil_append]
      refine sv_of h2 ok.1 fun H1 s1 => .inl ⟨_, rfl, (by rw [len_tl]; simp only [tl_app, t_e, t_sg, t_add_, t_back_, t_drop, t_move, t_cut, t_order, t_lines, t_add, t_back, t_sp, t_bar, t_end, t_pt, t_nt, t_com, t_dot, t_col, t_mi, wAdd, wBack, wDrop, wMove, wCut, wOrder, wLines, wEnd, wPatch, wNote, List.length_append, List.length_cons, List.length_nil]; omega), _, rfl, (by rw [len_tl]; simp only [tl_app, t_e, t_sg, t_add_, t_back_, t_drop, t_move, t_cut, t_order, t_lines, t_add, t_back, t_sp, t_bar, t_end, t_pt, t_nt, t_com, t_dot, t_col, t_mi, wAdd, wBack, wDrop, wMove, wCut, wOrder, wLines, wEnd, wPatch, wNote, List.length_append, List.length_cons, List.length_nil]; omega), _, rfl, rfl, _, rfl, word_yes ⟨_, rfl, .inl ⟨_, rfl, (by rw [len_tl]; simp only [tl_app, t_e, t_sg, t_add_, t_back_, t_drop, t_move, t_cut, t_order, t_lines, t_add, t_back, t_sp, t_bar, t_end, t_pt, t_nt, t_com, t_dot, t_col, t_mi, wAdd, wBack, wDrop, wMove, wCut, wOrder, wLines, wEnd, wPatch, wNote, List.length_append, List.length_cons, List.length_nil]; omega), _, rfl, (by rw [len_tl]; simp only [tl_app, t_e, t_sg, t_add_, t_back_, t_drop, t_move, t_cut, t_order, t_lines, t_add, t_back, t_sp, t_bar, t_end, t_pt, t_nt, t_com, t_dot, t_col, t_mi, wAdd, wBack, wDrop, wMove, wCut, wOrder, wLines, wEnd, wPatch, wNote, List.length_append, List.length_cons, List.length_nil]; omega), _, rfl, (by rw [len_tl]; simp only [tl_app, t_e, t_sg, t_add_, t_back_, t_drop, t_move, t_cut, t_order, t_lines, t_add, t_back, t_sp, t_bar, t_end, t_pt, t_nt, t_com, t_dot, t_col, t_mi, wAdd, wBack, wDrop, wMove, wCut, wOrder, wLines, wEnd, wPatch, wNote, List.length_append, List.length_cons, List.length_nil]; omega), _, rfl, a, _, _, _, rfl, rfl, SqT.of (s1 _ _ h1), atI_nat (j := 2) rfl, ?_⟩⟩⟩
      dsimp only [tNil, tCons, tC, List.cons_append, List.nil_append]
      refine ⟨pv, p, rfl, h3.ts (Same.ts s1), path_sm ok.2.1, .inl ⟨_, rfl, (by rw [len_tl]; simp only [tl_app, t_e, t_sg, t_add_, t_back_, t_drop, t_move, t_cut, t_order, t_lines, t_add, t_back, t_sp, t_bar, t_end, t_pt, t_nt, t_com, t_dot, t_col, t_mi, wAdd, wBack, wDrop, wMove, wCut, wOrder, wLines, wEnd, wPatch, wNote, List.length_append, List.length_cons, List.length_nil]; omega), _, rfl, (by rw [len_tl]; simp only [tl_app, t_e, t_sg, t_add_, t_back_, t_drop, t_move, t_cut, t_order, t_lines, t_add, t_back, t_sp, t_bar, t_end, t_pt, t_nt, t_com, t_dot, t_col, t_mi, wAdd, wBack, wDrop, wMove, wCut, wOrder, wLines, wEnd, wPatch, wNote, List.length_append, List.length_cons, List.length_nil]; omega), _, rfl, (by rw [len_tl]; simp only [tl_app, t_e, t_sg, t_add_, t_back_, t_drop, t_move, t_cut, t_order, t_lines, t_add, t_back, t_sp, t_bar, t_end, t_pt, t_nt, t_com, t_dot, t_col, t_mi, wAdd, wBack, wDrop, wMove, wCut, wOrder, wLines, wEnd, wPatch, wNote, List.length_append, List.length_cons, List.length_nil]; omega), _, rfl, a, _, _, _, rfl, rfl, SqT.of (s1 _ _ h1), atI_nat (j := 3) rfl, ?_⟩⟩
      dsimp only [tNil, tCons, tC, List.cons_append, List.nil_append]
      refine ss_of (h4.lf (lf s1)) ok.2.2 fun H2 s2 => .inl ⟨_, rfl, (by rw [len_tl]; simp only [tl_app, t_e, t_sg, t_add_, t_back_, t_drop, t_move, t_cut, t_order, t_lines, t_add, t_back, t_sp, t_bar, t_end, t_pt, t_nt, t_com, t_dot, t_col, t_mi, wAdd, wBack, wDrop, wMove, wCut, wOrder, wLines, wEnd, wPatch, wNote, List.length_append, List.length_cons, List.length_nil]; omega), _, rfl, (by rw [len_tl]; simp only [tl_app, t_e, t_sg, t_add_, t_back_, t_drop, t_move, t_cut, t_order, t_lines, t_add, t_back, t_sp, t_bar, t_end, t_pt, t_nt, t_com, t_dot, t_col, t_mi, wAdd, wBack, wDrop, wMove, wCut, wOrder, wLines, wEnd, wPatch, wNote, List.length_append, List.length_cons, List.length_nil]; omega), by show 1 ≤ sizeLine; omega, fin (same_trans s1 s2) rfl ?_⟩
      exact (ext_tl (by simp only [tl_app, t_e, t_sg, t_add_, t_back_, t_drop, t_move, t_cut, t_order, t_lines, t_add, t_back, t_sp, t_bar, t_end, t_pt, t_nt, t_com, t_dot, t_col, t_mi, sg_num]; simp [headL, wordsOf, TR.joinL, wAdd, wBack, wDrop, wMove, wCut, wOrder, wLines, t_sg]))
    | order f x y =>
      obtain ⟨a, fv, xv, yv, rfl, h1, h2, h3, h4⟩ := hc
      have sf := vx_len ok.1.sm
      have sx := vx_len ok.2.1.sm
      have sy := vx_len ok.2.2.1.sm
      refine ⟨_, rfl, a, _, _, _, rfl, rfl, SqT.of h1, atI_nat (j := 0) rfl, _, rfl, rfl, _, rfl, word_no (by decide +kernel) ⟨_, rfl, rfl, _, rfl, word_no (by decide +kernel) ⟨_, rfl, .inl ⟨_, rfl, (by rw [len_tl]; simp only [tl_app, t_e, t_sg, t_add_, t_back_, t_drop, t_move, t_cut, t_order, t_lines, t_add, t_back, t_sp, t_bar, t_end, t_pt, t_nt, t_com, t_dot, t_col, t_mi, wAdd, wBack, wDrop, wMove, wCut, wOrder, wLines, wEnd, wPatch, wNote, List.length_append, List.length_cons, List.length_nil]; omega), _, rfl, (by rw [len_tl]; simp only [tl_app, t_e, t_sg, t_add_, t_back_, t_drop, t_move, t_cut, t_order, t_lines, t_add, t_back, t_sp, t_bar, t_end, t_pt, t_nt, t_com, t_dot, t_col, t_mi, wAdd, wBack, wDrop, wMove, wCut, wOrder, wLines, wEnd, wPatch, wNote, List.length_append, List.length_cons, List.length_nil]; omega), _, rfl, (by rw [len_tl]; simp only [tl_app, t_e, t_sg, t_add_, t_back_, t_drop, t_move, t_cut, t_order, t_lines, t_add, t_back, t_sp, t_bar, t_end, t_pt, t_nt, t_com, t_dot, t_col, t_mi, wAdd, wBack, wDrop, wMove, wCut, wOrder, wLines, wEnd, wPatch, wNote, List.length_append, List.length_cons, List.length_nil]; omega), _, rfl, a, _, _, _, rfl, rfl, SqT.of h1, atI_nat (j := 1) rfl, ?_⟩⟩⟩⟩
      dsimp only [tNil, tCons, tC, List.cons_append, List.nil_append]
      refine sv_of h2 ok.1 fun H1 s1 => .inl ⟨_, rfl, (by rw [len_tl]; simp only [tl_app, t_e, t_sg, t_add_, t_back_, t_drop, t_move, t_cut, t_order, t_lines, t_add, t_back, t_sp, t_bar, t_end, t_pt, t_nt, t_com, t_dot, t_col, t_mi, wAdd, wBack, wDrop, wMove, wCut, wOrder, wLines, wEnd, wPatch, wNote, List.length_append, List.length_cons, List.length_nil]; omega), _, rfl, (by rw [len_tl]; simp only [tl_app, t_e, t_sg, t_add_, t_back_, t_drop, t_move, t_cut, t_order, t_lines, t_add, t_back, t_sp, t_bar, t_end, t_pt, t_nt, t_com, t_dot, t_col, t_mi, wAdd, wBack, wDrop, wMove, wCut, wOrder, wLines, wEnd, wPatch, wNote, List.length_append, List.length_cons, List.length_nil]; omega), _, rfl, rfl, _, rfl, word_no (by decide +kernel) ⟨_, rfl, rfl, _, rfl, word_yes ⟨_, rfl, .inl ⟨_, rfl, (by rw [len_tl]; simp only [tl_app, t_e, t_sg, t_add_, t_back_, t_drop, t_move, t_cut, t_order, t_lines, t_add, t_back, t_sp, t_bar, t_end, t_pt, t_nt, t_com, t_dot, t_col, t_mi, wAdd, wBack, wDrop, wMove, wCut, wOrder, wLines, wEnd, wPatch, wNote, List.length_append, List.length_cons, List.length_nil]; omega), _, rfl, (by rw [len_tl]; simp only [tl_app, t_e, t_sg, t_add_, t_back_, t_drop, t_move, t_cut, t_order, t_lines, t_add, t_back, t_sp, t_bar, t_end, t_pt, t_nt, t_com, t_dot, t_col, t_mi, wAdd, wBack, wDrop, wMove, wCut, wOrder, wLines, wEnd, wPatch, wNote, List.length_append, List.length_cons, List.length_nil]; omega), _, rfl, (by rw [len_tl]; simp only [tl_app, t_e, t_sg, t_add_, t_back_, t_drop, t_move, t_cut, t_order, t_lines, t_add, t_back, t_sp, t_bar, t_end, t_pt, t_nt, t_com, t_dot, t_col, t_mi, wAdd, wBack, wDrop, wMove, wCut, wOrder, wLines, wEnd, wPatch, wNote, List.length_append, List.length_cons, List.length_nil]; omega), _, rfl, a, _, _, _, rfl, rfl, SqT.of (s1 _ _ h1), atI_nat (j := 2) rfl, ?_⟩⟩⟩⟩
      dsimp only [tNil, tCons, tC, List.cons_append, List.nil_append]
      refine sv_of (h3.ts (Same.ts s1)) ok.2.1 fun H2 s2 => .inl ⟨_, rfl, (by rw [len_tl]; simp only [tl_app, t_e, t_sg, t_add_, t_back_, t_drop, t_move, t_cut, t_order, t_lines, t_add, t_back, t_sp, t_bar, t_end, t_pt, t_nt, t_com, t_dot, t_col, t_mi, wAdd, wBack, wDrop, wMove, wCut, wOrder, wLines, wEnd, wPatch, wNote, List.length_append, List.length_cons, List.length_nil]; omega), _, rfl, (by rw [len_tl]; simp only [tl_app, t_e, t_sg, t_add_, t_back_, t_drop, t_move, t_cut, t_order, t_lines, t_add, t_back, t_sp, t_bar, t_end, t_pt, t_nt, t_com, t_dot, t_col, t_mi, wAdd, wBack, wDrop, wMove, wCut, wOrder, wLines, wEnd, wPatch, wNote, List.length_append, List.length_cons, List.length_nil]; omega), _, rfl, (by rw [len_tl]; simp only [tl_app, t_e, t_sg, t_add_, t_back_, t_drop, t_move, t_cut, t_order, t_lines, t_add, t_back, t_sp, t_bar, t_end, t_pt, t_nt, t_com, t_dot, t_col, t_mi, wAdd, wBack, wDrop, wMove, wCut, wOrder, wLines, wEnd, wPatch, wNote, List.length_append, List.length_cons, List.length_nil]; omega), _, rfl, a, _, _, _, rfl, rfl, SqT.of (s2 _ _ (s1 _ _ h1)), atI_nat (j := 3) rfl, ?_⟩
      dsimp only [tNil, tCons, tC, List.cons_append, List.nil_append]
      refine sv_of (h4.ts (Same.ts (same_trans s1 s2))) ok.2.2.1 fun H3 s3 => .inl ⟨_, rfl, (by rw [len_tl]; simp only [tl_app, t_e, t_sg, t_add_, t_back_, t_drop, t_move, t_cut, t_order, t_lines, t_add, t_back, t_sp, t_bar, t_end, t_pt, t_nt, t_com, t_dot, t_col, t_mi, wAdd, wBack, wDrop, wMove, wCut, wOrder, wLines, wEnd, wPatch, wNote, List.length_append, List.length_cons, List.length_nil]; omega), _, rfl, (by rw [len_tl]; simp only [tl_app, t_e, t_sg, t_add_, t_back_, t_drop, t_move, t_cut, t_order, t_lines, t_add, t_back, t_sp, t_bar, t_end, t_pt, t_nt, t_com, t_dot, t_col, t_mi, wAdd, wBack, wDrop, wMove, wCut, wOrder, wLines, wEnd, wPatch, wNote, List.length_append, List.length_cons, List.length_nil]; omega), by show 1 ≤ sizeLine; omega, fin (same_trans (same_trans s1 s2) s3) rfl ?_⟩
      exact (ext_tl (by simp only [tl_app, t_e, t_sg, t_add_, t_back_, t_drop, t_move, t_cut, t_order, t_lines, t_add, t_back, t_sp, t_bar, t_end, t_pt, t_nt, t_com, t_dot, t_col, t_mi, sg_num]; simp [headL, wordsOf, TR.joinL, wAdd, wBack, wDrop, wMove, wCut, wOrder, wLines, t_sg]))
    | lines f xs ys ts =>
      obtain ⟨a, fv, xv, yv, tv, rfl, h1, h2, h3, h4, h5⟩ := hc
      have sf := vx_len ok.1.sm
      have sx := vs_len ok.2.1.ok ok.2.1.hi
      have sy := vs_len ok.2.2.1.ok ok.2.2.1.hi
      have s5 := num_five (n := ts.length) (by have := ok.2.2.2.2.1; omega)
      obtain ⟨b, rfl, _, e5⟩ := h5
      have lts : (strV ts).length = ts.length := List.length_map _
      refine ⟨_, rfl, a, _, _, _, rfl, rfl, SqT.of h1, atI_nat (j := 0) rfl, _, rfl, rfl, _, rfl, word_no (by decide +kernel) ⟨_, rfl, rfl, _, rfl, word_no (by decide +kernel) ⟨_, rfl, .inl ⟨_, rfl, (by rw [len_tl]; simp only [tl_app, t_e, t_sg, t_add_, t_back_, t_drop, t_move, t_cut, t_order, t_lines, t_add, t_back, t_sp, t_bar, t_end, t_pt, t_nt, t_com, t_dot, t_col, t_mi, wAdd, wBack, wDrop, wMove, wCut, wOrder, wLines, wEnd, wPatch, wNote, List.length_append, List.length_cons, List.length_nil]; omega), _, rfl, (by rw [len_tl]; simp only [tl_app, t_e, t_sg, t_add_, t_back_, t_drop, t_move, t_cut, t_order, t_lines, t_add, t_back, t_sp, t_bar, t_end, t_pt, t_nt, t_com, t_dot, t_col, t_mi, wAdd, wBack, wDrop, wMove, wCut, wOrder, wLines, wEnd, wPatch, wNote, List.length_append, List.length_cons, List.length_nil]; omega), _, rfl, (by rw [len_tl]; simp only [tl_app, t_e, t_sg, t_add_, t_back_, t_drop, t_move, t_cut, t_order, t_lines, t_add, t_back, t_sp, t_bar, t_end, t_pt, t_nt, t_com, t_dot, t_col, t_mi, wAdd, wBack, wDrop, wMove, wCut, wOrder, wLines, wEnd, wPatch, wNote, List.length_append, List.length_cons, List.length_nil]; omega), _, rfl, a, _, _, _, rfl, rfl, SqT.of h1, atI_nat (j := 1) rfl, ?_⟩⟩⟩⟩
      dsimp only [tNil, tCons, tC, List.cons_append, List.nil_append]
      refine sv_of h2 ok.1 fun H1 s1 => .inl ⟨_, rfl, (by rw [len_tl]; simp only [tl_app, t_e, t_sg, t_add_, t_back_, t_drop, t_move, t_cut, t_order, t_lines, t_add, t_back, t_sp, t_bar, t_end, t_pt, t_nt, t_com, t_dot, t_col, t_mi, wAdd, wBack, wDrop, wMove, wCut, wOrder, wLines, wEnd, wPatch, wNote, List.length_append, List.length_cons, List.length_nil]; omega), _, rfl, (by rw [len_tl]; simp only [tl_app, t_e, t_sg, t_add_, t_back_, t_drop, t_move, t_cut, t_order, t_lines, t_add, t_back, t_sp, t_bar, t_end, t_pt, t_nt, t_com, t_dot, t_col, t_mi, wAdd, wBack, wDrop, wMove, wCut, wOrder, wLines, wEnd, wPatch, wNote, List.length_append, List.length_cons, List.length_nil]; omega), _, rfl, rfl, _, rfl, word_no (by decide +kernel) ⟨_, rfl, rfl, _, rfl, word_no (by decide +kernel) ⟨_, rfl, rfl, _, rfl, word_yes ⟨_, rfl, .inl ⟨_, rfl, (by rw [len_tl]; simp only [tl_app, t_e, t_sg, t_add_, t_back_, t_drop, t_move, t_cut, t_order, t_lines, t_add, t_back, t_sp, t_bar, t_end, t_pt, t_nt, t_com, t_dot, t_col, t_mi, wAdd, wBack, wDrop, wMove, wCut, wOrder, wLines, wEnd, wPatch, wNote, List.length_append, List.length_cons, List.length_nil]; omega), _, rfl, (by rw [len_tl]; simp only [tl_app, t_e, t_sg, t_add_, t_back_, t_drop, t_move, t_cut, t_order, t_lines, t_add, t_back, t_sp, t_bar, t_end, t_pt, t_nt, t_com, t_dot, t_col, t_mi, wAdd, wBack, wDrop, wMove, wCut, wOrder, wLines, wEnd, wPatch, wNote, List.length_append, List.length_cons, List.length_nil]; omega), _, rfl, (by rw [len_tl]; simp only [tl_app, t_e, t_sg, t_add_, t_back_, t_drop, t_move, t_cut, t_order, t_lines, t_add, t_back, t_sp, t_bar, t_end, t_pt, t_nt, t_com, t_dot, t_col, t_mi, wAdd, wBack, wDrop, wMove, wCut, wOrder, wLines, wEnd, wPatch, wNote, List.length_append, List.length_cons, List.length_nil]; omega), _, rfl, a, _, _, _, rfl, rfl, SqT.of (s1 _ _ h1), atI_nat (j := 2) rfl, ?_⟩⟩⟩⟩⟩
      dsimp only [tNil, tCons, tC, List.cons_append, List.nil_append]
      refine ss_of (h3.lf (lf s1)) ok.2.1 fun H2 s2 => .inl ⟨_, rfl, (by rw [len_tl]; simp only [tl_app, t_e, t_sg, t_add_, t_back_, t_drop, t_move, t_cut, t_order, t_lines, t_add, t_back, t_sp, t_bar, t_end, t_pt, t_nt, t_com, t_dot, t_col, t_mi, wAdd, wBack, wDrop, wMove, wCut, wOrder, wLines, wEnd, wPatch, wNote, List.length_append, List.length_cons, List.length_nil]; omega), _, rfl, (by rw [len_tl]; simp only [tl_app, t_e, t_sg, t_add_, t_back_, t_drop, t_move, t_cut, t_order, t_lines, t_add, t_back, t_sp, t_bar, t_end, t_pt, t_nt, t_com, t_dot, t_col, t_mi, wAdd, wBack, wDrop, wMove, wCut, wOrder, wLines, wEnd, wPatch, wNote, List.length_append, List.length_cons, List.length_nil]; omega), _, rfl, (by rw [len_tl]; simp only [tl_app, t_e, t_sg, t_add_, t_back_, t_drop, t_move, t_cut, t_order, t_lines, t_add, t_back, t_sp, t_bar, t_end, t_pt, t_nt, t_com, t_dot, t_col, t_mi, wAdd, wBack, wDrop, wMove, wCut, wOrder, wLines, wEnd, wPatch, wNote, List.length_append, List.length_cons, List.length_nil]; omega), _, rfl, a, _, _, _, rfl, rfl, SqT.of (s2 _ _ (s1 _ _ h1)), atI_nat (j := 3) rfl, ?_⟩
      dsimp only [tNil, tCons, tC, List.cons_append, List.nil_append]
      refine ss_of (h4.lf (lf (same_trans s1 s2))) ok.2.2.1 fun H3 s3 => ?_
      have s13 := same_trans (same_trans s1 s2) s3
      have e53 := s13 _ _ e5
      refine .inl ⟨_, rfl, (by rw [len_tl]; simp only [tl_app, t_e, t_sg, t_add_, t_back_, t_drop, t_move, t_cut, t_order, t_lines, t_add, t_back, t_sp, t_bar, t_end, t_pt, t_nt, t_com, t_dot, t_col, t_mi, wAdd, wBack, wDrop, wMove, wCut, wOrder, wLines, wEnd, wPatch, wNote, List.length_append, List.length_cons, List.length_nil]; omega), _, rfl, (by rw [len_tl]; simp only [tl_app, t_e, t_sg, t_add_, t_back_, t_drop, t_move, t_cut, t_order, t_lines, t_add, t_back, t_sp, t_bar, t_end, t_pt, t_nt, t_com, t_dot, t_col, t_mi, wAdd, wBack, wDrop, wMove, wCut, wOrder, wLines, wEnd, wPatch, wNote, List.length_append, List.length_cons, List.length_nil]; omega), _, rfl, (by rw [len_tl]; simp only [tl_app, t_e, t_sg, t_add_, t_back_, t_drop, t_move, t_cut, t_order, t_lines, t_add, t_back, t_sp, t_bar, t_end, t_pt, t_nt, t_com, t_dot, t_col, t_mi, wAdd, wBack, wDrop, wMove, wCut, wOrder, wLines, wEnd, wPatch, wNote, List.length_append, List.length_cons, List.length_nil]; omega), _, rfl, a, _, _, _, rfl, rfl, SqT.of (s13 _ _ h1), atI_nat (j := 4) rfl, b, _, rfl, .inl (SqL.of e53), .inr ⟨_, rfl, by rw [lts]; exact num_small (by have := ok.2.2.2.2.1; omega), _, rfl, ?_, ?_⟩⟩
      · rw [lts, sg_num]
        exact (by rw [len_tl]; simp only [tl_app, t_e, t_sg, t_add_, t_back_, t_drop, t_move, t_cut, t_order, t_lines, t_add, t_back, t_sp, t_bar, t_end, t_pt, t_nt, t_com, t_dot, t_col, t_mi, wAdd, wBack, wDrop, wMove, wCut, wOrder, wLines, wEnd, wPatch, wNote, List.length_append, List.length_cons, List.length_nil]; omega)
      rw [lts]
      refine ⟨_, rfl, by show 1 ≤ sizeLine; omega, fun p np => ?_⟩
      generalize hz : (Str.empty ++ _ ++ _ ++ _ ++ _ ++ _ ++ _ ++ _ : Str) = z
      have ez : z = Sg (headL (.lines f xs ys ts)) := by
        rw [← hz]
        exact (ext_tl (by simp only [tl_app, t_e, t_sg, t_add_, t_back_, t_drop, t_move, t_cut, t_order, t_lines, t_add, t_back, t_sp, t_bar, t_end, t_pt, t_nt, t_com, t_dot, t_col, t_mi, sg_num]; simp [headL, wordsOf, TR.joinL, wAdd, wBack, wDrop, wMove, wCut, wOrder, wLines, t_sg]))
      clear hz
      rw [ez]
      have s4 := same_trans s13 (same_new (o := .lst [.str (Sg (headL (.lines f xs ys ts)))]) np)
      have ep : (upd H3 p (.lst [.str (Sg (headL (.lines f xs ys ts)))])) p = some (.lst [.str (Sg (headL (.lines f xs ys ts)))]) := upd_same
      generalize upd H3 p (.lst [.str (Sg (headL (.lines f xs ys ts)))]) = H4 at s4 ep
      have e54 := s4 _ _ e5
      refine ⟨_, rfl, a, _, _, _, rfl, rfl, SqT.of (s4 _ _ h1), atI_nat (j := 4) rfl, b, rfl, ⟨_, SqL.of e54⟩, fun D nD => ?_⟩
      refine lc_list (te := fun σ H Q => tJs [tC (V.str (Str.ofString "|")), tFmt (tVar 4)] Str.empty σ H fun out H1 => Q (V.str out) H1) (xs := strV ts) (fun i H' => Same H4 H' ∧ H' D = some (.lst (strV ((ts.take i).map fun t => 124 :: t)))) ⟨same_new nD, upd_same⟩ ?_ ?_ ?_
      · rintro i H' _ ⟨s5, _⟩
        exact SqL.of (s5 _ _ e54)
      · rintro i y H5 hy ⟨s5, eD⟩
        obtain ⟨t, gt, rfl⟩ := map_get hy
        have okt := ok.2.2.2.2.2 t (List.mem_of_getElem? gt)
        have lt := okt.1
        have l200 := ok.2.2.2.2.1
        refine ⟨rfl, _, rfl, (by rw [len_tl]; simp only [tl_app, t_e, t_sg, t_add_, t_back_, t_drop, t_move, t_cut, t_order, t_lines, t_add, t_back, t_sp, t_bar, t_end, t_pt, t_nt, t_com, t_dot, t_col, t_mi, wAdd, wBack, wDrop, wMove, wCut, wOrder, wLines, wEnd, wPatch, wNote, List.length_append, List.length_cons, List.length_nil]; omega), _, rfl, .inl ⟨_, rfl, (by rw [len_tl]; simp only [tl_app, t_e, t_sg, t_add_, t_back_, t_drop, t_move, t_cut, t_order, t_lines, t_add, t_back, t_sp, t_bar, t_end, t_pt, t_nt, t_com, t_dot, t_col, t_mi, wAdd, wBack, wDrop, wMove, wCut, wOrder, wLines, wEnd, wPatch, wNote, List.length_append, List.length_cons, List.length_nil]; omega), _, rfl, (by rw [len_tl]; simp only [tl_app, t_e, t_sg, t_add_, t_back_, t_drop, t_move, t_cut, t_order, t_lines, t_add, t_back, t_sp, t_bar, t_end, t_pt, t_nt, t_com, t_dot, t_col, t_mi, wAdd, wBack, wDrop, wMove, wCut, wOrder, wLines, wEnd, wPatch, wNote, List.length_append, List.length_cons, List.length_nil]; omega), _, eD, ?_, same_upd nD s5, ?_⟩⟩
        · rw [List.length_map, List.length_map, List.length_take]
          omega
        · rw [upd_same, take_snoc gt, List.map_append]
          unfold strV
          rw [List.map_append]
          exact congrArg (fun z => some (HO.lst (_ ++ [V.str z]))) (ext_tl (by simp only [tl_app, t_e, t_sg, t_add_, t_back_, t_drop, t_move, t_cut, t_order, t_lines, t_add, t_back, t_sp, t_bar, t_end, t_pt, t_nt, t_com, t_dot, t_col, t_mi, sg_num]; simp [headL, wordsOf, TR.joinL, wAdd, wBack, wDrop, wMove, wCut, wOrder, wLines, t_sg]))
      · rintro H5 ⟨s5, eD⟩
        rw [lts, List.take_length] at eD
        have l200 := ok.2.2.2.2.1
        refine ⟨p, D, _, _, rfl, rfl, s5 _ _ ep, eD, by rw [List.length_map, List.length_map]; show 1 + _ ≤ _; omega, fun r nr => q _ r (same_trans (same_trans s4 s5) (same_new nr)) (same_none (same_trans s4 s5) nr) ?_⟩
        rw [upd_same]
        rfl
end
end K20
namespace K20
open PySem PySem.Spec PyProof.Rows L2 TL TR QR
open GxR (TabB TabG Tabbed)
open PySem.W (EachIs)
abbrev sSP : Stmt := topS 34
abbrev nSP : List Str := ["patch", "lines", "change"]
theorem scSP : FnScope nSP ["patch"] (defScope sSP) := ⟨rfl, rfl, rfl, by decide +kernel, rfl, by decide +kernel, by decide +kernel⟩
abbrev sSQ : Stmt := topS 35
abbrev nSQ : List Str := ["patches", "patch", "line"]
theorem scSQ : FnScope nSQ ["patches"] (defScope sSQ) := ⟨rfl, rfl, rfl, by decide +kernel, rfl, by decide +kernel, by decide +kernel⟩
theorem showCs_flat : ∀ cs : List Chg, showCs cs = (cs.map showC).flatten ++ [wEnd]
  | [] => rfl
  | c :: cs => by
    show showC c ++ showCs cs = _
    rw [showCs_flat cs, List.map_cons, List.flatten_cons, List.append_assoc]
theorem chg_lines {c : Chg} (ok : ChgOk c) : (showC c).length ≤ 201 := by
  cases c with
  | lines f xs ys ts =>
    have := ok.2.2.2.2.1
    unfold showC tailL
    rw [List.length_cons, List.length_map]
    omega
  | _ => exact Nat.le_trans (Nat.le_refl 1) (by decide)
theorem flat_lines : ∀ {cs : List Chg}, (∀ c ∈ cs, ChgOk c) → ((cs.map showC).flatten).length ≤ 201 * cs.length
  | [], _ => Nat.zero_le _
  | c :: cs, h => by
    have a := chg_lines (h c List.mem_cons_self)
    have b := flat_lines fun x hx => h x (List.mem_cons_of_mem _ hx)
    rw [List.map_cons, List.flatten_cons, List.length_append, List.length_cons]
    omega
theorem pat_lines {P : Pat} (ok : PatOk P) : (showP P).length ≤ 3000 := by
  have := flat_lines ok.cs
  have := ok.hi
  unfold showP
  rw [showCs_flat, List.length_cons, List.length_cons, List.length_append]
  show _ + 1 + 1 + 1 ≤ _
  omega
theorem end_sg : Str.ofString "end" = Sg wEnd := by decide +kernel
section
variable {P : Program} {w : World} {K : PySem.W.Frag} {mg : Str → Option Value} {base : Heap} {H : Hp} {v : V} {Q : VK} {E : XK}
def spSP : Sp := fun vs H Q _ => ∃ (v : V) (P : Pat), vs = [v] ∧ PatAt (fun _ => True) H v P ∧ PatOk P ∧ ∀ H' p, Same H H' → H p = none → H' p = some (.lst (strV (showP P))) → Q (.ref p) H'
theorem ok_SP {f fSC fSI : Addr} {fd fdSC fdSI : FuncData} (F : Fun K "show_patch" "show_patch" sSP f fd)
    (GSC : FnOk P w K mg base CX0 5 fSC fdSC ["change"] spSC) (bSC : Binds K fdSC ["change"] []) (gSC : mg "show_change" = some (.ref fSC)) (kSC : PySem.W.keepIn K (.ref fSC) = true)
    (GSI : FnOk P w K mg base CX0 2 fSI fdSI ["name"] spSI) (bSI : Binds K fdSI ["name"] []) (gSI : mg "show_id" = some (.ref fSI)) (kSI : PySem.W.keepIn K (.ref fSI) = true) : FnOk P w K mg base CX0 6 f fd ["patch"] spSP := by
  refine F.ok scSP (fun vs H Q E h => ?_) (fun cdv A outer s H vs Q E hr h => ?_)
  · obtain ⟨v, P, rfl, _⟩ := h
    rfl
  · obtain ⟨v, P, rfl, hp, ok, q⟩ := h
    have hu := hr.units
    have hu1 := hu_of hr
    have hr1 : Room 1 _ := hr.mono (by decide)
    have hr2 : Room 2 _ := hr.mono (by decide)
    have hr3 : Room 3 _ := hr.mono (by decide)
    have hr4 : Room 4 _ := hr.mono (by decide)
    have hr5 : Room 5 _ := hr.mono (by decide)
    have zl := zl
    refine ⟨_, (pss_cons (ps_set (i := 1) scSP.nd rfl (.inl rfl) (pe_lst (pa_cons (pe_joined (.cons (pe_str) (.cons (pe_fmt (pe_call GSI hr2 (by rfl) gSI kSI bSI .nil pass0 (pa_cons (pe_ix ix_tup (pv 0) (pe_int) (fun _ _ => rfl)) pa_nil))) (.nil)))) (pa_cons (pe_joined (.cons (pe_str) (.cons (pe_fmt (pe_ix ix_tup (pv 0) (pe_int) (fun _ _ => rfl))) (.nil)))) pa_nil))))
      (pss_cons (ps_for PassesOwn.never rfl (pi_list (pe_ix ix_tup (pv 0) (pe_int) (fun _ _ => rfl))) (pg_name (i := 2) scSP.nd rfl (.inl rfl))
      (pss_one (ps_expr (pe_bm PySem.F.plainAttrs_list PySem.F.slot_list_extend PySem.F.type_list_extend mt_extend (pv 1) (pa_cons (pe_call GSC hr5 (by rfl) gSC kSC bSC .nil pass0 (pa_cons (pv 2) pa_nil)) pa_nil)))))
      (pss_one (ps_ret (pe_op op_cat (pv 1) (pe_lst (pa_cons (pe_str) pa_nil))))))), ?_⟩
    obtain ⟨a, nv, ca, cs, rfl, h1, h2, _, h3, h4⟩ := hp
    have sn := id_len ok.nm.sm
    have st := ok.nt.1
    have lc := h4.length
    have l12 := ok.hi
    refine ⟨_, rfl, (by simp only [len_tl, tl_app, t_e, t_sg, t_add_, t_back_, t_drop, t_move, t_cut, t_order, t_lines, t_add, t_back, t_sp, t_bar, t_end, t_pt, t_nt, t_com, t_dot, t_col, t_mi, wAdd, wBack, wDrop, wMove, wCut, wOrder, wLines, wEnd, wPatch, wNote, List.length_append, List.length_cons, List.length_nil]; omega), _, rfl, a, _, _, _, rfl, rfl, SqT.of h1, atI_nat (j := 1) rfl, ?_⟩
    dsimp only [tNil, tCons, tC, List.cons_append, List.nil_append]
    refine ⟨nv, P.nm, rfl, h2, ok.nm.sm, fun H1 s1 => .inl ⟨_, rfl, (by simp only [len_tl, tl_app, t_e, t_sg, t_add_, t_back_, t_drop, t_move, t_cut, t_order, t_lines, t_add, t_back, t_sp, t_bar, t_end, t_pt, t_nt, t_com, t_dot, t_col, t_mi, wAdd, wBack, wDrop, wMove, wCut, wOrder, wLines, wEnd, wPatch, wNote, List.length_append, List.length_cons, List.length_nil]; omega), _, rfl, (by simp only [len_tl, tl_app, t_e, t_sg, t_add_, t_back_, t_drop, t_move, t_cut, t_order, t_lines, t_add, t_back, t_sp, t_bar, t_end, t_pt, t_nt, t_com, t_dot, t_col, t_mi, wAdd, wBack, wDrop, wMove, wCut, wOrder, wLines, wEnd, wPatch, wNote, List.length_append, List.length_cons, List.length_nil]; omega), _, rfl, (by simp only [len_tl, tl_app, t_e, t_sg, t_add_, t_back_, t_drop, t_move, t_cut, t_order, t_lines, t_add, t_back, t_sp, t_bar, t_end, t_pt, t_nt, t_com, t_dot, t_col, t_mi, wAdd, wBack, wDrop, wMove, wCut, wOrder, wLines, wEnd, wPatch, wNote, List.length_append, List.length_cons, List.length_nil]; omega), _, rfl, a, _, _, _, rfl, rfl, SqT.of (s1 _ _ h1), atI_nat (j := 3) rfl, .inl ⟨_, rfl, (by simp only [len_tl, tl_app, t_e, t_sg, t_add_, t_back_, t_drop, t_move, t_cut, t_order, t_lines, t_add, t_back, t_sp, t_bar, t_end, t_pt, t_nt, t_com, t_dot, t_col, t_mi, wAdd, wBack, wDrop, wMove, wCut, wOrder, wLines, wEnd, wPatch, wNote, List.length_append, List.length_cons, List.length_nil]; omega), _, rfl, (by simp only [len_tl, tl_app, t_e, t_sg, t_add_, t_back_, t_drop, t_move, t_cut, t_order, t_lines, t_add, t_back, t_sp, t_bar, t_end, t_pt, t_nt, t_com, t_dot, t_col, t_mi, wAdd, wBack, wDrop, wMove, wCut, wOrder, wLines, wEnd, wPatch, wNote, List.length_append, List.length_cons, List.length_nil]; omega), by show 2 ≤ sizeLine; omega, fun L nL => ?_⟩⟩⟩
    rw [show (Str.empty ++ Str.ofString "patch " ++ Sg (idL P.nm) : Str) = Sg (wPatch ++ idL P.nm) from ext_tl (by simp only [tl_app, t_e, t_pt, t_sg]; rfl),
      show (Str.empty ++ Str.ofString "note " ++ Sg P.note : Str) = Sg (wNote ++ P.note) from ext_tl (by simp only [tl_app, t_e, t_nt, t_sg]; rfl)]
    have nL0 := same_none s1 nL
    have s2 := same_upd (o := .lst [.str (Sg (wPatch ++ idL P.nm)), .str (Sg (wNote ++ P.note))]) nL0 s1
    have eL : (upd H1 L (.lst [.str (Sg (wPatch ++ idL P.nm)), .str (Sg (wNote ++ P.note))])) L = some (.lst [.str (Sg (wPatch ++ idL P.nm)), .str (Sg (wNote ++ P.note))]) := upd_same
    generalize upd H1 L (.lst [.str (Sg (wPatch ++ idL P.nm)), .str (Sg (wNote ++ P.note))]) = H2 at s2 eL
    refine ⟨_, rfl, a, _, _, _, rfl, rfl, SqT.of (s2 _ _ h1), atI_nat (j := 2) rfl, ca, rfl, ⟨_, SqL.of (s2 _ _ h3)⟩, for_list (xs := cs) (fun i σ H' => ∃ y2 : Option V, σ = [some (.ref a), some (.ref L), y2] ∧ Same H H' ∧ H' L = some (.lst (strV ([wPatch ++ idL P.nm, wNote ++ P.note] ++ ((P.chs.take i).map showC).flatten)))) ⟨none, rfl, s2, eL⟩ ?_ ?_ ?_⟩
    · rintro i σ H' _ ⟨y2, rfl, s3, _⟩
      exact SqL.of (s3 _ _ h3)
    · rintro i y σ H' hy ⟨y2, rfl, s3, e3⟩
      obtain ⟨c, gc, hc⟩ := each_at h4 hy
      have okc := ok.cs c (List.mem_of_getElem? gc)
      refine ⟨_, rfl, .inl ⟨rfl, _, .inl (.inl e3)⟩, _, rfl, ?_⟩
      dsimp only [tNil, tCons, tC, List.cons_append, List.nil_append]
      refine ⟨y, c, rfl, hc.lf (Same.lf s3), okc, fun H4 p s4 np ep => ?_⟩
      have e4 := s4 _ _ e3
      have la := flat_lines (cs := P.chs.take i) fun x hx => ok.cs x (List.mem_of_mem_take hx)
      have lb := chg_lines okc
      rw [List.length_take] at la
      refine ⟨L, p, _, _, rfl, rfl, e4, ep, ?_, _, rfl, same_upd nL0 (same_trans s3 s4), ?_⟩
      · rw [List.length_map, List.length_map, List.length_append]
        show 2 + _ + _ ≤ _
        omega
      · rw [upd_same, take_snoc gc, List.map_append, List.flatten_append]
        unfold strV
        rw [← List.map_append, List.append_assoc]
        simp
    · rintro σ H' ⟨y2, rfl, s3, e3⟩
      rw [lc, List.take_length] at e3
      have la := flat_lines ok.cs
      refine ⟨_, rfl, by show 1 ≤ sizeLine; omega, fun e ne => ?_⟩
      have s4 := same_trans s3 (same_new (o := .lst [.str (Str.ofString "end")]) ne)
      refine ⟨L, e, _, _, rfl, rfl, same_new ne _ _ e3, upd_same, ?_, fun r nr => q _ r (same_trans s4 (same_new nr)) (same_none s4 nr) ?_⟩
      · rw [List.length_map, List.length_append]
        show 2 + _ + 1 ≤ _
        omega
      · rw [upd_same, end_sg]
        unfold showP
        rw [showCs_flat]
        unfold strV
        simp
def spSQ : Sp := fun vs H Q _ => ∃ (a : Addr) (ws : List V) (Ps : List Pat), vs = [.ref a] ∧ H a = some (.lst ws) ∧ EachIs (PatAt (fun _ => True) H) ws Ps ∧ (∀ P ∈ Ps, PatOk P) ∧ ((Ps.map showP).flatten).length ≤ 100000 ∧ ∀ H' p, Same H H' → H p = none → H' p = some (.lst (strV ((Ps.map showP).flatten))) → Q (.ref p) H'
theorem pats_lines : ∀ {Ps : List Pat}, (∀ P ∈ Ps, PatOk P) → ((Ps.map showP).flatten).length ≤ 3000 * Ps.length
  | [], _ => Nat.zero_le _
  | c :: cs, h => by
    have a := pat_lines (h c List.mem_cons_self)
    have b := pats_lines fun x hx => h x (List.mem_cons_of_mem _ hx)
    rw [List.map_cons, List.flatten_cons, List.length_append, List.length_cons]
    omega
theorem ok_SQ {f fSP : Addr} {fd fdSP : FuncData} (F : Fun K "show_patches" "show_patches" sSQ f fd)
    (GSP : FnOk P w K mg base CX0 6 fSP fdSP ["patch"] spSP) (bSP : Binds K fdSP ["patch"] []) (gSP : mg "show_patch" = some (.ref fSP)) (kSP : PySem.W.keepIn K (.ref fSP) = true) : FnOk P w K mg base CX0 7 f fd ["patches"] spSQ := by
  refine F.ok scSQ (fun vs H Q E h => ?_) (fun cdv A outer s H vs Q E hr h => ?_)
  · obtain ⟨a, ws, Ps, rfl, _⟩ := h
    rfl
  · obtain ⟨a, ws, Ps, rfl, ha, he, ok, l10, q⟩ := h
    have hu := hr.units
    have hu1 := hu_of hr
    have hr1 : Room 1 _ := hr.mono (by decide)
    have hr2 : Room 2 _ := hr.mono (by decide)
    have hr3 : Room 3 _ := hr.mono (by decide)
    have hr4 : Room 4 _ := hr.mono (by decide)
    have hr5 : Room 5 _ := hr.mono (by decide)
    have hr6 : Room 6 _ := hr.mono (by decide)
    have zl := zl
    refine ⟨_, (pss_one (ps_ret (pe_lc2 (own := [("patch", 1), ("line", 2)]) (vs1 := [2]) (g := gName 1) (g1 := gName 2) (tt := tYes) (tt1 := tYes) (wi1 := iList K (tCall spSP [] E0 (tCons (tVar 1) tNil))) (te := tVar 2) rfl scSQ.nd (pi_list (pv 0)) (blkOk_by (N := nSQ) (sc := defScope sSQ) (by decide +kernel)) (by decide) (fun _ _ _ _ _ => by exact pg_name (i := 1) scSQ.nd rfl (.inl rfl)) (fun _ _ _ _ _ => pts_nil) (fun _ _ _ _ _ => by exact pi_list (pe_call GSP hr6 (by rfl) gSP kSP bSP .nil pass0 (pa_cons (pv 1) pa_nil))) (fun _ _ _ _ _ => by exact pg_name (i := 2) scSQ.nd rfl (.inl rfl)) (fun _ _ _ _ _ => pts_nil) (fun _ _ _ _ _ => by exact pv 2)))), ?_⟩
    have lw := he.length
    refine ⟨_, rfl, a, rfl, ⟨_, SqL.of ha⟩, fun D nD => ?_⟩
    refine walk2 (xs := ws) (fun i H' => Same H H' ∧ H' D = some (.lst (strV (((Ps.take i).map showP).flatten)))) ⟨same_new nD, upd_same⟩ ?_ ?_ ?_
    · rintro i H' _ ⟨s1, _⟩
      exact SqL.of (s1 _ _ ha)
    · rintro i y H1 hy ⟨s1, eD⟩
      obtain ⟨R, gR, hR⟩ := each_at he hy
      have okR := ok R (List.mem_of_getElem? gR)
      refine ⟨rfl, _, rfl, ?_⟩
      dsimp only [tNil, tCons, tC, List.cons_append, List.nil_append]
      refine ⟨y, R, rfl, hR.lf (Same.lf s1), okR, fun H2 p s2 np ep => ?_⟩
      have s12 := same_trans s1 s2
      have lp : (strV (showP R)).length = (showP R).length := List.length_map _
      have la : ((Ps.take i).map showP).flatten.length + (showP R).length ≤ ((Ps.map showP).flatten).length := by
        obtain ⟨hi', ei⟩ := List.getElem?_eq_some_iff.mp gR
        have e : Ps = Ps.take i ++ R :: Ps.drop (i + 1) := by
          rw [← ei, ← List.drop_eq_getElem_cons hi', List.take_append_drop]
        have e2 := congrArg (fun L => ((L.map showP).flatten).length) e
        simp only [List.map_append, List.map_cons, List.flatten_append, List.flatten_cons, List.length_append] at e2
        omega
      have npD : p ≠ D := fun z => by rw [z, eD] at np; cases np
      refine ⟨p, rfl, ⟨_, SqL.of ep⟩, walk2 (xs := strV (showP R)) (fun j H' => Same H H' ∧ H' p = some (.lst (strV (showP R))) ∧ H' D = some (.lst (strV (((Ps.take i).map showP).flatten ++ (showP R).take j)))) ⟨s12, ep, by rw [List.take_zero, List.append_nil]; exact s2 _ _ eD⟩ ?_ ?_ ?_⟩
      · exact fun j H' _ z => SqL.of z.2.1
      · rintro j z H3 hz ⟨s3, ep3, eD3⟩
        obtain ⟨l, gl, rfl⟩ := map_get hz
        have lj := (List.getElem?_eq_some_iff.mp gl).1
        refine ⟨rfl, _, rfl, _, eD3, ?_, same_upd nD s3, ?_, ?_⟩
        · rw [List.length_map, List.length_append, List.length_take]
          omega
        · rw [upd_ne npD]
          exact ep3
        · rw [upd_same, take_snoc gl]
          unfold strV
          simp
      · rintro H3 ⟨s3, ep3, eD3⟩
        refine ⟨s3, ?_⟩
        rw [eD3, lp, List.take_length, take_snoc gR]
        simp
    · rintro H1 ⟨s1, eD⟩
      rw [lw, List.take_length] at eD
      exact q H1 D s1 nD eD
end
end K20
namespace K20
open PySem PySem.Spec PyProof.Rows L2 TL TR QR
open GxR (TabB TabG Tabbed)
open PySem.W (EachIs)
theorem cutS_from (z : Str) (k : Nat) : cutS z (some (k : Int)) none = Sg ((tl z).drop k) := by
  unfold cutS
  have lz := len_tl z
  have e1 : HT.sIx z.length 0 (some (k : Int)) = min k z.length := by
    unfold HT.sIx
    simp
    omega
  have e2 : HT.sIx z.length z.length none = z.length := by
    unfold HT.sIx
    simp
  rw [e1, e2]
  refine ext_tl ?_
  show ((tl z).drop (min k z.length)).take (z.length - min k z.length) = (tl z).drop k
  rw [List.take_of_length_le (by rw [List.length_drop]; omega)]
  by_cases h : k ≤ z.length
  · rw [Nat.min_eq_left h]
  · rw [Nat.min_eq_right (by omega), List.drop_of_length_le (by omega), List.drop_of_length_le (by omega)]
theorem starts_tl {z : Str} {r : List Nat} : Txt.startswith (Sg (tl z ++ r)) z = true := by
  have e : Sg (tl z ++ r) = z ++ Sg r := ext_tl (by rw [tl_app] <;> rfl)
  rw [e]
  exact PySem.W.KT.starts_app z (Sg r)
theorem vs_parts {xs : List Vx} (ok : ∀ x ∈ xs, VxOk x) (h : xs ≠ []) : (Txt.split (Sg (vsL xs)) (Str.ofString ",")).map V.str = strV (xs.map vxL) := by
  rw [show Str.ofString "," = ⟨#[44]⟩ by decide +kernel, split_words]
  exact congrArg strV (vs_cut ok h).1
theorem cutV_one (x : V) (xs : List V) : cutV (x :: xs) (some 1) none = xs := by
  unfold cutV
  have e1 : HT.sIx (x :: xs).length 0 (some 1) = 1 := by
    unfold HT.sIx
    simp
  have e2 : HT.sIx (x :: xs).length (x :: xs).length none = (x :: xs).length := by
    unfold HT.sIx
    simp
  rw [e1, e2, List.drop_one, List.tail_cons, List.length_cons, Nat.add_sub_cancel, List.take_length]
theorem rep_one {k : Nat} {v : V} : (List.replicate k [v]).flatten = List.replicate k v := by
  induction k with
  | zero => rfl
  | succ k ih =>
    rw [List.replicate_succ, List.flatten_cons, ih, List.replicate_succ]
    rfl
theorem yes_if {p A B : Prop} [Decidable p] (n : p) (b : A) : if p then A else B := by
  rw [if_pos n]
  exact b
/-- the word of a change -/
def kwS : Chg → Str
  | .add _ => "add"
  | .back _ => "back"
  | .drop _ _ => "drop"
  | .move _ _ _ => "move"
  | .cut _ _ => "cut"
  | .order _ _ _ => "order"
  | .lines _ _ _ _ => "lines"
theorem kw_add : V.str (Sg wAdd) = V.str "add" := congrArg V.str (by decide +kernel)
theorem kw_back : V.str (Sg wBack) = V.str "back" := congrArg V.str (by decide +kernel)
theorem kw_drop : V.str (Sg wDrop) = V.str "drop" := congrArg V.str (by decide +kernel)
theorem kw_move : V.str (Sg wMove) = V.str "move" := congrArg V.str (by decide +kernel)
theorem kw_cut : V.str (Sg wCut) = V.str "cut" := congrArg V.str (by decide +kernel)
theorem kw_order : V.str (Sg wOrder) = V.str "order" := congrArg V.str (by decide +kernel)
theorem kw_lines : V.str (Sg wLines) = V.str "lines" := congrArg V.str (by decide +kernel)
theorem in_no {a : String} (h : inV (V.str a) [V.str "drop", V.str "cut"] = false) {A B : Prop} (k : B) : if (if false = true then !inV (V.str a) [V.str "drop", V.str "cut"] else inV (V.str a) [V.str "drop", V.str "cut"]) = true then A else B := by
  rw [if_neg Bool.false_ne_true, h]
  exact iteF k
theorem in_yes {a : String} (h : inV (V.str a) [V.str "drop", V.str "cut"] = true) {A B : Prop} (k : A) : if (if false = true then !inV (V.str a) [V.str "drop", V.str "cut"] else inV (V.str a) [V.str "drop", V.str "cut"]) = true then A else B := by
  rw [if_neg Bool.false_ne_true, h]
  exact iteT k
theorem Tbs.none {Ts : List Addr} {H H' : Hp} (t : Tbs Ts H H') (b : Addr) (n : H' b = none) : H b = none := (t.isNew n).1
theorem vsAt_up {N : Addr → Prop} {Ts : List Addr} {H H1 H2 : Hp} {v : V} {xs : List Vx} (t : Tbs Ts H H1) (s : LF N H1 H2) (h : VsAt (fun b => H b = none) H1 v xs) (k : ∀ b, H b = none → N b) : VsAt N H2 v xs := (h.imp k).lf s
theorem slash_len {p : Path} (ok : okPath p = true) : (slashL p).length ≤ 40 := by
  obtain ⟨_, l4, lp⟩ := path_ok ok
  have := TR_join (c := 47) (b := 8) (P := p) fun x hx => (lp x hx).1
  unfold slashL
  omega
theorem head_len {c : Chg} (h : ChgOk c) : (headL c).length ≤ 60000 := by
  cases c with
  | add p => have a := slash_len h; simp [headL, wordsOf, TR.joinL, wAdd]; omega
  | back n => have a := id_len (NmOk.sm h); simp [headL, wordsOf, TR.joinL, wBack]; omega
  | drop f xs => have a := vx_len h.1.sm; have b := vs_len h.2.ok h.2.hi; simp [headL, wordsOf, TR.joinL, wDrop]; omega
  | move f p xs => have a := vx_len h.1.sm; have b := vs_len h.2.2.ok h.2.2.hi; have c := slash_len h.2.1; simp [headL, wordsOf, TR.joinL, wMove]; omega
  | cut f xs => have a := vx_len h.1.sm; have b := vs_len h.2.ok h.2.hi; simp [headL, wordsOf, TR.joinL, wCut]; omega
  | order f x y => have a := vx_len h.1.sm; have b := vx_len h.2.1.sm; have c := vx_len h.2.2.1.sm; simp [headL, wordsOf, TR.joinL, wOrder]; omega
  | lines f xs ys ts => have a := vx_len h.1.sm; have b := vs_len h.2.1.ok h.2.1.hi; have c := vs_len h.2.2.1.ok h.2.2.1.hi; have d := num_five (n := ts.length) (by have := h.2.2.2.2.1; omega); simp [headL, wordsOf, TR.joinL, wLines]; omega
theorem drop_at {α : Type} {ls x r : List α} {n i : Nat} (h : ls.drop n = x ++ r) (hi : i < x.length) : ls[n + i]? = x[i]? := by
  rw [← List.getElem?_drop, h, List.getElem?_append_left hi]
theorem chg_tup {N : Addr → Prop} {H : Hp} {v : V} {c : Chg} (h : ChgAt N H v c) : ∃ a ws, v = .ref a ∧ H a = some (.tup (.str (kwS c) :: ws)) := by
  cases c with
  | add p => exact let ⟨a, pv, e, h1, h2⟩ := h; ⟨a, _, e, h1⟩
  | back p => exact let ⟨a, pv, e, h1, h2⟩ := h; ⟨a, _, e, h1⟩
  | drop f xs => exact let ⟨a, fv, xv, e, h1, h2, h3⟩ := h; ⟨a, _, e, h1⟩
  | move f p xs => exact let ⟨a, fv, pv, xv, e, h1, h2, h3, h4⟩ := h; ⟨a, _, e, h1⟩
  | cut f xs => exact let ⟨a, fv, xv, e, h1, h2, h3⟩ := h; ⟨a, _, e, h1⟩
  | order f x y => exact let ⟨a, fv, pv, xv, e, h1, h2, h3, h4⟩ := h; ⟨a, _, e, h1⟩
  | lines f xs ys ts => exact let ⟨a, fv, xv, yv, tv, e, h1, h2, h3, h4, h5⟩ := h; ⟨a, _, e, h1⟩
theorem chg_kind (c : Chg) : (∃ f xs ys ts, c = .lines f xs ys ts) ∨ (kwS c ≠ Str.ofString "lines" ∧ raw c = c ∧ tailL c = []) := by
  cases c with
  | lines f xs ys ts => exact .inl ⟨f, xs, ys, ts, rfl⟩
  | _ => exact .inr ⟨by simp only [kwS]; decide +kernel, rfl, rfl⟩
theorem kw_raw (c : Chg) : kwS (raw c) = kwS c := by cases c <;> rfl
theorem cutV_four (a b c d e : V) : cutV [a, b, c, d, e] none (some 4) = [a, b, c, d] := by rfl
end K20
namespace K20
open PySem PySem.Spec PyProof.Rows L2 TL TR QR
open GxR (TabB TabG Tabbed)
open PySem.W (EachIs)
abbrev sVS : Stmt := topS 52
abbrev nVS : List Str := ["state", "label", "least", "most", "found", "k", "one"]
theorem scVS : FnScope nVS ["state", "label", "least", "most"] (defScope sVS) := ⟨rfl, rfl, rfl, by decide +kernel, rfl, by decide +kernel, by decide +kernel⟩
abbrev sLI : Stmt := topS 53
abbrev nLI : List Str := ["state", "text"]
theorem scLI : FnScope nLI ["state"] (defScope sLI) := ⟨rfl, rfl, rfl, by decide +kernel, rfl, by decide +kernel, by decide +kernel⟩
theorem any_vx (x : Vx) : ∀ xs : List Vx, ((xs.map vxD).any fun y => PyData.eqv y (vxD x)) = true ↔ x ∈ xs
  | [] => by simp
  | y :: xs => by
    rw [List.map_cons, List.any_cons, Bool.or_eq_true, any_vx x xs, eqv_iff (solid_vx y) (solid_vx x), List.mem_cons]
    exact ⟨fun h => h.imp (fun z => (vx_inj z).symm) id, fun h => h.imp (fun z => by rw [z]) id⟩
theorem cutS_to (z : Str) (k : Nat) : cutS z none (some (k : Int)) = Sg ((tl z).take k) := by
  unfold cutS
  have lz := len_tl z
  have e1 : HT.sIx z.length 0 none = 0 := by
    unfold HT.sIx
    simp
  have e2 : HT.sIx z.length z.length (some (k : Int)) = min k z.length := by
    unfold HT.sIx
    simp
    omega
  rw [e1, e2]
  refine ext_tl ?_
  show ((tl z).drop 0).take (min k z.length - 0) = (tl z).take k
  rw [List.drop_zero, Nat.sub_zero]
  by_cases h : k ≤ z.length
  · rw [Nat.min_eq_left h]
  · rw [Nat.min_eq_right (by omega), List.take_of_length_le (by omega), List.take_of_length_le (by omega)]
theorem okTx_app {a b : List Nat} {k : Nat} (ha : okTx a) (hb : okTx b) (hk : k = 40 - a.length) : okTx (a ++ b.take k) := by
  refine ⟨?_, fun c hc => ?_⟩
  · rw [List.length_append, List.length_take]
    have := ha.1
    omega
  · rcases List.mem_append.mp hc with h | h
    · exact ha.2 c h
    · exact hb.2 c (List.mem_of_mem_take h)
section
variable {P : Program} {w : World} {K : PySem.W.Frag} {mg : Str → Option Value} {base : Heap} {H : Hp} {v : V} {Q : VK} {E : XK} {Ts : List Addr}
def spVS : Sp := fun vs H Q _ => ∃ (p c : Addr) (lv : V) (l : Lab) (a b : Nat), vs = [.ref p, lv, .int (a : Int), .int (b : Int)] ∧ LabAt H lv l ∧ LabOk l ∧ a ≤ 1 ∧ a ≤ b ∧ b ≤ 4 ∧ StateAt H p c ∧
  ∀ H' v xs, Dr p c H H' → VsAt (fun x => H x = none) H' v xs → VsOk xs a → Q v H'
theorem ok_VS {f fLV fD : Addr} {fd fdLV fdD : FuncData} (F : Fun K "_law_vertices" "_law_vertices" sVS f fd)
    (GLV : FnOk P w K mg base CX0 5 fLV fdLV ["state", "label"] spLV) (bLV : Binds K fdLV ["state", "label"] []) (gLV : mg "_law_vertex" = some (.ref fLV)) (kLV : PySem.W.keepIn K (.ref fLV) = true)
    (GD : FnOk P w K mg base CX0 1 fD fdD ["state", "many"] spDraw) (bD : Binds K fdD ["state", "many"] []) (gD : mg "_law_draw" = some (.ref fD)) (kD : PySem.W.keepIn K (.ref fD) = true)
    (m_range : mg "range" = none) (m_sorted : mg "sorted" = none) : FnOk P w K mg base CX0 6 f fd ["state", "label", "least", "most"] spVS := by
  refine F.ok scVS (fun vs H Q E h => ?_) (fun cdv A outer s H vs Q E hr h => ?_)
  · obtain ⟨p, c, lv, l, a, b, rfl, _⟩ := h
    rfl
  · obtain ⟨p, c, lv, l, a, b, rfl, hl, lok, a1, ab, b4, st, q⟩ := h
    have hu := hr.units
    have hu1 := hu_of hr
    have hr1 : Room 1 _ := hr.mono (by decide)
    have hr2 : Room 2 _ := hr.mono (by decide)
    have hr3 : Room 3 _ := hr.mono (by decide)
    have hr4 : Room 4 _ := hr.mono (by decide)
    have hr5 : Room 5 _ := hr.mono (by decide)
    have zl := zl
    refine ⟨_, (pss_cons (ps_set (i := 4) scVS.nd rfl (.inl rfl) (pe_lst (pa_nil)))
      (pss_cons (ps_for PassesOwn.never rfl (pi_range1 (by rfl) m_range (pa_cons (pe_op op_add (pv 2) (pe_call GD hr1 (by rfl) gD kD bD .nil pass0 (pa_cons (pv 0) (pa_cons (pe_op op_add (pe_op op_sub (pv 3) (pv 2)) (pe_int)) pa_nil)))) pa_nil)) (pg_name (i := 5) scVS.nd rfl (.inl rfl))
      (pss_cons (ps_set (i := 6) scVS.nd rfl (.inl rfl) (pe_call GLV hr5 (by rfl) gLV kLV bLV .nil pass0 (pa_cons (pv 0) (pa_cons (pv 1) pa_nil))))
      (pss_one (ps_if (pt_cmpR (GX.op_notInP hu) (pv 6) (pv 4) (by rfl))
      (pss_one (ps_expr (pe_bm PySem.F.plainAttrs_list PySem.F.slot_list_append PySem.F.type_list_append mt_append (pv 4) (pa_cons (pv 6) pa_nil)))) pss_nil))))
      (pss_one (ps_ret (pe_callB (GX.cr_sortedD hu) (by rfl) m_sorted (by decide +kernel) (pa_cons (pv 4) pa_nil)))))), ?_⟩
    refine ⟨by show 0 ≤ sizeLine; omega, fun D nD => ?_⟩
    have nDp := st.new nD
    have st0 : StateAt (upd H D (.lst [])) p c := st.upd nDp
    refine ⟨_, rfl, _, rfl, _, rfl, _, rfl, _, _, rfl, rfl, _, _, rfl, rfl, p, c, b - a + 1, congrArg (fun z => [V.ref p, V.int z]) (by omega), by omega, st0, fun H1 r _ hr st1 d1 => ⟨_, _, rfl, rfl, ?_⟩⟩
    have hr := hr (by omega)
    have dr1 := ((Dr.refl st).same (same_new nD)).drawn st1 d1
    have e1 : H1 D = some (.lst []) := (d1 D nDp.1 nDp.2).trans upd_same
    refine ⟨_, rfl, by omega, by omega, for_range (lo := 0) (n := ((a : Int) + (r : Int)).toNat) (fun k σ H' => ∃ y5 y6 : Option V, σ = [some (.ref p), some lv, some (.int (a : Int)), some (.int (b : Int)), some (.ref D), y5, y6] ∧ Dr p c H H' ∧
      ∃ (ws : List V) (xs : List Vx), H' D = some (.lst ws) ∧ EachIs (VxAt H') ws xs ∧ (∀ x ∈ xs, VxOk x) ∧ xs.Nodup ∧ xs.length ≤ k ∧ (0 < k → 0 < xs.length)) ⟨none, none, rfl, dr1, [], [], e1, .nil, (fun x hx => nomatch hx), .nil, Nat.le_refl _, (fun z => absurd z (Nat.lt_irrefl _))⟩ ?_ ?_⟩
    · rintro k σ H2 hk ⟨y5, y6, rfl, d2, ws, xs, eD, he, ok, nd, lx, px⟩
      refine ⟨_, rfl, _, rfl, p, c, lv, l, rfl, hl.ts (d2.ts st), lok, d2.st, fun H3 v x d3 hv okv _ => ?_⟩
      have eD3 := d3.ou D _ nDp.1 nDp.2 eD
      have he3 := each_vx (d3.ts d2.st) he
      have lw := he.length
      refine ⟨_, rfl, _, rfl, _, _, .lst (SqL.of eD3) (dp_each (fun _ _ h => dp_vx h) he3), dp_vx hv, solidAll_plain _ (solid_vxs xs), solid_plain _ (solid_vx x), by rw [vx_depth]; decide, _, rfl, ite2 (fun hn => ?_) (fun hn => ?_)⟩
      · have hn : x ∉ xs := fun z => by
          rw [(any_vx x xs).mpr z] at hn
          cases hn
        have lf : LF (fun b => b ≠ D) H3 (upd H3 D (.lst (ws ++ [v]))) := lf_upd eD3 fun z => z rfl
        refine ⟨_, rfl, .inl ⟨rfl, _, .inl (.inl eD3)⟩, _, rfl, D, ws, v, rfl, rfl, eD3, by omega, _, _, rfl, ⟨(d2.trans d3).st.upd nDp, fun b o n1 n2 e => ?_⟩, ws ++ [v], xs ++ [x], upd_same, each_snoc (each_vx lf.ts he3) (hv.ts lf.ts), fun y hy => ?_, ?_, ?_, fun _ => by simp⟩
        · rw [upd_ne (ne_of_none e nD)]
          exact (d2.trans d3).ou b o n1 n2 e
        · rcases List.mem_append.mp hy with h | h
          · exact ok y h
          · rw [List.mem_singleton.mp h]
            exact okv
        · rw [List.nodup_append]
          exact ⟨nd, (by simp : [x].Nodup), fun y hy z hz => by rw [List.mem_singleton.mp hz]; exact fun e => hn (e ▸ hy)⟩
        · rw [List.length_append]
          show _ + 1 ≤ _
          omega
      · have hn : x ∈ xs := Decidable.byContradiction fun z => hn (by
          rw [Bool.not_eq_true']
          exact Bool.eq_false_iff.mpr fun y => z ((any_vx x xs).mp y))
        exact ⟨_, _, rfl, d2.trans d3, ws, xs, eD3, he3, ok, nd, by omega, fun _ => List.length_pos_of_mem hn⟩
    · rintro σ H2 ⟨y5, y6, rfl, d2, ws, xs, eD, he, ok, nd, lx, px⟩
      refine ⟨_, rfl, D, ws, Vx, xs, vxD, VxAt H2, rfl, SqL.of eD, he, fun v x h => dp_vx h, PySem.W.AllAlike.of alike_vx, PySem.W.Sortable.tuples fun x => ⟨_, _, rfl⟩, fun x _ => by rw [vx_depth]; decide, fun ys u ey nu => ?_⟩
      have pm := List.mergeSort_perm xs (PySem.W.dataLe false vxD)
      refine q _ _ _ (d2.same (same_new nu)) ⟨u, ys, rfl, d2.none nu, upd_same, each_vx (Same.ts (same_new nu)) ey⟩ ⟨fun x hx => ok x (pm.mem_iff.mp hx), ris_sort nd, ?_, ?_⟩
      · rw [pm.length_eq]
        by_cases a0 : a = 0
        · omega
        · have := px (by omega)
          omega
      · rw [pm.length_eq]
        omega
def spLI : Sp := fun vs H Q _ => ∃ (p c : Addr), vs = [.ref p] ∧ StateAt H p c ∧ ∀ H' t, Dr p c H H' → okTx t → Q (.str (Sg t)) H'
theorem ok_LI {f fP : Addr} {fd fdP : FuncData} (F : Fun K "_law_line" "_law_line" sLI f fd)
    (GP : FnOk P w K mg base CX0 2 fP fdP ["state", "row"] spPick) (bP : Binds K fdP ["state", "row"] []) (gP : mg "_law_pick" = some (.ref fP)) (kP : PySem.W.keepIn K (.ref fP) = true)
    (m_len : mg "len" = none) : FnOk P w K mg base CX0 3 f fd ["state"] spLI := by
  refine F.ok scLI (fun vs H Q E h => ?_) (fun cdv A outer s H vs Q E hr h => ?_)
  · obtain ⟨p, c, rfl, _⟩ := h
    rfl
  · obtain ⟨p, c, rfl, st, q⟩ := h
    have hu := hr.units
    have hu1 := hu_of hr
    have hr1 : Room 1 _ := hr.mono (by decide)
    have hr2 : Room 2 _ := hr.mono (by decide)
    have zl := zl
    refine ⟨_, (pss_cons (ps_set (i := 1) scLI.nd rfl (.inl rfl) (pe_call GP hr2 (by rfl) gP kP bP .nil pass0 (pa_cons (pv 0) (pa_cons (pe_lst (pa_cons (pe_str) (pa_cons (pe_str) (pa_cons (pe_str) (pa_cons (pe_str) (pa_cons (pe_str) (pa_cons (pe_str) (pa_cons (pe_str) (pa_cons (pe_op TR.op_repS (pe_str) (pe_int)) (pa_cons (pe_str) pa_nil)))))))))) pa_nil))))
      (pss_one (ps_ret (pe_op op_add_str (pv 1) (pe_slice sl_str (pe_call GP hr2 (by rfl) gP kP bP .nil pass0 (pa_cons (pv 0) (pa_cons (pe_lst (pa_cons (pe_str) (pa_cons (pe_str) (pa_cons (pe_str) pa_nil)))) pa_nil))) (po_none) (po_some (pe_op op_sub (pe_int) (pe_callB call_len_str (by rfl) m_len PySem.boot_len (pa_cons (pv 1) pa_nil))))))))), ?_⟩
    refine ⟨_, rfl, _, _, rfl, rfl, by decide, by decide, by decide +kernel, by show 9 ≤ sizeLine; omega, fun a na => ?_⟩
    have nap := st.new na
    refine ⟨p, c, a, _, rfl, upd_same, nap.1, nap.2, by simp, by simp, st.upd nap, fun H2 v hv st2 d2 => ?_⟩
    have dr2 := ((Dr.refl st).same (same_new na)).drawn st2 d2
    have ok1 : ∃ z, v = .str z ∧ okTx (tl z) := by
      simp only [List.mem_cons, List.not_mem_nil, or_false] at hv
      rcases hv with rfl | rfl | rfl | rfl | rfl | rfl | rfl | rfl | rfl
      all_goals exact ⟨_, rfl, by unfold okTx; decide +kernel⟩
    obtain ⟨z, rfl, okz⟩ := ok1
    have lz := len_tl z
    have l40 := okz.1
    clear hv
    refine ⟨_, rfl, _, rfl, by show 3 ≤ sizeLine; omega, fun b nb => ?_⟩
    have nbp := st2.new nb
    refine ⟨p, c, b, _, rfl, upd_same, nbp.1, nbp.2, by simp, by simp, st2.upd nbp, fun H4 v hv st4 d4 => ?_⟩
    have dr4 := (dr2.same (same_new nb)).drawn st4 d4
    have ok2 : ∃ z, v = .str z ∧ okTx (tl z) := by
      simp only [List.mem_cons, List.not_mem_nil, or_false] at hv
      rcases hv with rfl | rfl | rfl
      all_goals exact ⟨_, rfl, by unfold okTx; decide +kernel⟩
    obtain ⟨y, rfl, oky⟩ := ok2
    have ly := len_tl y
    have ly40 := oky.1
    clear hv
    refine ⟨_, rfl, z, rfl, by omega, _, _, rfl, rfl, _, rfl, y, rfl, by omega, ?_⟩
    rw [show (40 : Int) - (z.length : Int) = ((40 - z.length : Nat) : Int) by omega, cutS_to]
    have e : z ++ Sg ((tl y).take (40 - z.length)) = Sg (tl z ++ (tl y).take (40 - z.length)) := ext_tl (by rw [tl_app] <;> rfl)
    refine ⟨_, _, rfl, rfl, ?_, ?_⟩
    · show z.length + ((tl y).take (40 - z.length)).length ≤ _
      rw [List.length_take]
      omega
    · rw [e]
      exact q H4 _ dr4 (okTx_app okz oky (by rw [lz]))
end
end K20
namespace K20
open PySem PySem.Spec PyProof.Rows L2 TL TR QR
open GxR (TabB TabG Tabbed)
open PySem.W (EachIs)
abbrev sLC : Stmt := topS 54
abbrev nLC : List Str := ["state", "label", "kind", "file", "one", "other", "texts", "k"]
theorem scLC : FnScope nLC ["state", "label"] (defScope sLC) := ⟨rfl, rfl, rfl, by decide +kernel, rfl, by decide +kernel, by decide +kernel⟩
abbrev sLQ : Stmt := topS 55
abbrev nLQ : List Str := ["state", "label", "changes", "k"]
theorem scLQ : FnScope nLQ ["state"] (defScope sLQ) := ⟨rfl, rfl, rfl, by decide +kernel, rfl, by decide +kernel, by decide +kernel⟩
theorem dr_lf0 {H0 H H' : Hp} {p c : Addr} (st0 : StateAt H0 p c) (st : StateAt H p c) (d : Dr p c H H') : LF (fun x => H0 x = none) H H' := Dr.lf st d fun _ n => st0.new n
theorem VsAt.more {H0 H1 H' : Hp} {p c : Addr} {v : V} {xs : List Vx} (d : Dr p c H0 H1) (h : VsAt (fun x => H1 x = none) H' v xs) : VsAt (fun x => H0 x = none) H' v xs := h.imp fun _ n => d.none n
theorem ChgAt.more {H0 H1 H' : Hp} {p c : Addr} {v : V} {x : Chg} (d : Dr p c H0 H1) (h : ChgAt (fun x => H1 x = none) H' v x) : ChgAt (fun x => H0 x = none) H' v x := h.imp fun _ n => d.none n
theorem int_no {r k : Nat} (h : r ≠ k) {A B : Prop} (q : B) : if decide (V.int (r : Int) = V.int ((k : Nat) : Int)) = true then A else B := no_if (by rw [decide_eq_true_eq]; intro z; have := V.int.inj z; omega) q
section
variable {P : Program} {w : World} {K : PySem.W.Frag} {mg : Str → Option Value} {base : Heap} {H : Hp} {v : V} {Q : VK} {E : XK} {Ts : List Addr}
def spLC : Sp := fun vs H Q _ => ∃ (p c : Addr) (lv : V) (l : Lab), vs = [.ref p, lv] ∧ LabAt H lv l ∧ LabOk l ∧ StateAt H p c ∧ ∀ H' v ch, Dr p c H H' → ChgAt (fun x => H x = none) H' v ch → ChgOk ch → Q v H'
theorem ok_LC {f fD fLV fLI fVS fLP fLN : Addr} {fd fdD fdLV fdLI fdVS fdLP fdLN : FuncData} (F : Fun K "_law_change" "_law_change" sLC f fd)
    (GD : FnOk P w K mg base CX0 1 fD fdD ["state", "many"] spDraw) (bD : Binds K fdD ["state", "many"] []) (gD : mg "_law_draw" = some (.ref fD)) (kD : PySem.W.keepIn K (.ref fD) = true)
    (GLV : FnOk P w K mg base CX0 5 fLV fdLV ["state", "label"] spLV) (bLV : Binds K fdLV ["state", "label"] []) (gLV : mg "_law_vertex" = some (.ref fLV)) (kLV : PySem.W.keepIn K (.ref fLV) = true)
    (GLI : FnOk P w K mg base CX0 3 fLI fdLI ["state"] spLI) (bLI : Binds K fdLI ["state"] []) (gLI : mg "_law_line" = some (.ref fLI)) (kLI : PySem.W.keepIn K (.ref fLI) = true)
    (GVS : FnOk P w K mg base CX0 6 fVS fdVS ["state", "label", "least", "most"] spVS) (bVS : Binds K fdVS ["state", "label", "least", "most"] []) (gVS : mg "_law_vertices" = some (.ref fVS)) (kVS : PySem.W.keepIn K (.ref fVS) = true)
    (GLP : FnOk P w K mg base CX0 4 fLP fdLP ["state"] spLP) (bLP : Binds K fdLP ["state"] []) (gLP : mg "_law_path" = some (.ref fLP)) (kLP : PySem.W.keepIn K (.ref fLP) = true)
    (GLN : FnOk P w K mg base CX0 4 fLN fdLN ["state", "label"] spLN) (bLN : Binds K fdLN ["state", "label"] []) (gLN : mg "_law_name" = some (.ref fLN)) (kLN : PySem.W.keepIn K (.ref fLN) = true)
    (m_range : mg "range" = none) : FnOk P w K mg base CX0 7 f fd ["state", "label"] spLC := by
  refine F.ok scLC (fun vs H Q E h => ?_) (fun cdv A outer s H vs Q E hr h => ?_)
  · obtain ⟨p, c, lv, l, rfl, _⟩ := h
    rfl
  · obtain ⟨p, c, lv, l, rfl, hl, lok, st, q⟩ := h
    have hu := hr.units
    have hu1 := hu_of hr
    have hr1 : Room 1 _ := hr.mono (by decide)
    have hr2 : Room 2 _ := hr.mono (by decide)
    have hr3 : Room 3 _ := hr.mono (by decide)
    have hr4 : Room 4 _ := hr.mono (by decide)
    have hr5 : Room 5 _ := hr.mono (by decide)
    have hr6 : Room 6 _ := hr.mono (by decide)
    have zl := zl
    refine ⟨_, (pss_cons (ps_set (i := 2) scLC.nd rfl (.inl rfl) (pe_call GD hr1 (by rfl) gD kD bD .nil pass0 (pa_cons (pv 0) (pa_cons (pe_int) pa_nil))))
      (pss_cons (ps_if (pt_cmpR op_eq (pv 2) (pe_int) (nomark _))
      (pss_one (ps_ret (pe_tup (pa_cons (pe_str) (pa_cons (pe_call GLP hr4 (by rfl) gLP kLP bLP .nil pass0 (pa_cons (pv 0) pa_nil)) pa_nil))))) pss_nil)
      (pss_cons (ps_if (pt_cmpR op_eq (pv 2) (pe_int) (nomark _))
      (pss_one (ps_ret (pe_tup (pa_cons (pe_str) (pa_cons (pe_call GLN hr4 (by rfl) gLN kLN bLN .nil pass0 (pa_cons (pv 0) (pa_cons (pv 1) pa_nil))) pa_nil))))) pss_nil)
      (pss_cons (ps_set (i := 3) scLC.nd rfl (.inl rfl) (pe_call GLV hr5 (by rfl) gLV kLV bLV .nil pass0 (pa_cons (pv 0) (pa_cons (pv 1) pa_nil))))
      (pss_cons (ps_if (pt_cmpR op_eq (pv 2) (pe_int) (nomark _))
      (pss_one (ps_ret (pe_tup (pa_cons (pe_str) (pa_cons (pv 3) (pa_cons (pe_call GVS hr6 (by rfl) gVS kVS bVS .nil pass0 (pa_cons (pv 0) (pa_cons (pv 1) (pa_cons (pe_int) (pa_cons (pe_int) pa_nil))))) pa_nil)))))) pss_nil)
      (pss_cons (ps_if (pt_cmpR op_eq (pv 2) (pe_int) (nomark _))
      (pss_one (ps_ret (pe_tup (pa_cons (pe_str) (pa_cons (pv 3) (pa_cons (pe_call GLP hr4 (by rfl) gLP kLP bLP .nil pass0 (pa_cons (pv 0) pa_nil)) (pa_cons (pe_call GVS hr6 (by rfl) gVS kVS bVS .nil pass0 (pa_cons (pv 0) (pa_cons (pv 1) (pa_cons (pe_int) (pa_cons (pe_int) pa_nil))))) pa_nil))))))) pss_nil)
      (pss_cons (ps_if (pt_cmpR op_eq (pv 2) (pe_int) (nomark _))
      (pss_one (ps_ret (pe_tup (pa_cons (pe_str) (pa_cons (pv 3) (pa_cons (pe_call GVS hr6 (by rfl) gVS kVS bVS .nil pass0 (pa_cons (pv 0) (pa_cons (pv 1) (pa_cons (pe_int) (pa_cons (pe_int) pa_nil))))) pa_nil)))))) pss_nil)
      (pss_cons (ps_if (pt_cmpR op_eq (pv 2) (pe_int) (nomark _))
      (pss_cons (ps_par (i := 4) (j := 5) (by rfl) scLC.nd rfl rfl (by decide) rfl rfl (pa_cons (pe_call GLV hr5 (by rfl) gLV kLV bLV .nil pass0 (pa_cons (pv 0) (pa_cons (pv 1) pa_nil))) (pa_cons (pe_call GLV hr5 (by rfl) gLV kLV bLV .nil pass0 (pa_cons (pv 0) (pa_cons (pv 1) pa_nil))) pa_nil)) (by rfl))
      (pss_one (ps_ret (pe_tup (pa_cons (pe_str) (pa_cons (pv 3) (pa_cons (pv 4) (pa_cons (pe_ifExp (pt_cmpR (op_eqP hu) (pv 4) (pv 5) (nomark _)) (pe_tup (pa_cons (pe_ix ix_tup (pv 4) (pe_int) (fun _ _ => rfl)) (pa_cons (pe_ix ix_tup (pv 4) (pe_int) (fun _ _ => rfl)) (pa_cons (pe_op op_sub (pe_int) (pe_ix ix_tup (pv 4) (pe_int) (fun _ _ => rfl))) pa_nil)))) (pv 5)) pa_nil)))))))) pss_nil)
      (pss_cons (ps_setLc (i := 6) (own := [("k", 7)]) (g := gName 7) (tt := tYes) (te := tCall spLI [] E0 (tCons (tVar 0) tNil)) rfl scLC.nd rfl rfl (sw_true rfl rfl rfl (by decide +kernel)) (pi_range1 (by rfl) m_range (pa_cons (pe_op op_add (pe_int) (pe_call GD hr1 (by rfl) gD kD bD .nil pass0 (pa_cons (pv 0) (pa_cons (pe_int) pa_nil)))) pa_nil)) (blkOk_by (N := nLC) (sc := defScope sLC) (by decide +kernel)) (fun _ _ _ _ _ => by exact pg_name (i := 7) scLC.nd rfl (.inl rfl)) (fun _ _ _ _ _ => pts_nil) (fun _ _ _ _ _ => by exact pe_call GLI hr3 (by rfl) gLI kLI bLI .nil pass0 (pa_cons (pv 0) pa_nil)))
      (pss_one (ps_ret (pe_tup (pa_cons (pe_str) (pa_cons (pv 3) (pa_cons (pe_call GVS hr6 (by rfl) gVS kVS bVS .nil pass0 (pa_cons (pv 0) (pa_cons (pv 1) (pa_cons (pe_int) (pa_cons (pe_int) pa_nil))))) (pa_cons (pe_call GVS hr6 (by rfl) gVS kVS bVS .nil pass0 (pa_cons (pv 0) (pa_cons (pv 1) (pa_cons (pe_int) (pa_cons (pe_int) pa_nil))))) (pa_cons (pv 6) pa_nil))))))))))))))))), ?_⟩
    refine ⟨_, rfl, p, c, 7, rfl, by decide, st, fun H1 r _ hr st1 d1 => ?_⟩
    have hr := hr (by decide)
    have dr1 := (Dr.refl st).drawn st1 d1
    have hl1 := hl.ts (dr1.ts st)
    by_cases r0 : r = 0
    · subst r0
      refine ⟨_, rfl, rfl, _, rfl, yes_if (decide_eq_true rfl) ⟨_, rfl, p, c, rfl, st1, fun H2 pv ps d2 hp ok => ⟨by show 2 ≤ sizeLine; omega, fun t nt => ?_⟩⟩⟩
      exact q _ _ (.add ps) ((dr1.trans d2).same (same_new nt)) ⟨t, pv, rfl, upd_same, hp.ts (Same.ts (same_new nt))⟩ ok
    refine ⟨_, rfl, rfl, _, rfl, int_no (k := 0) r0 ?_⟩
    by_cases r1 : r = 1
    · subst r1
      refine ⟨_, rfl, rfl, _, rfl, yes_if (decide_eq_true rfl) ⟨_, rfl, _, rfl, p, c, lv, l, rfl, hl1, lok, st1, fun H2 nv nm d2 hn ok _ => ⟨by show 2 ≤ sizeLine; omega, fun t nt => ?_⟩⟩⟩
      exact q _ _ (.back nm) ((dr1.trans d2).same (same_new nt)) ⟨t, nv, rfl, upd_same, hn.ts (Same.ts (same_new nt))⟩ ok
    refine ⟨_, rfl, rfl, _, rfl, int_no (k := 1) r1 ?_⟩
    refine ⟨_, rfl, _, rfl, p, c, lv, l, rfl, hl1, lok, st1, fun H2 fv f d2 hf okf _ => ?_⟩
    have dr2 := dr1.trans d2
    have st2 := dr2.st
    have hl2 := hl.ts (dr2.ts st)
    by_cases r2 : r = 2
    · subst r2
      refine ⟨_, rfl, rfl, _, rfl, yes_if (decide_eq_true rfl) ⟨_, rfl, _, rfl, _, rfl, p, c, lv, l, 1, 3, rfl, hl2, lok, by decide, by decide, by decide, st2, fun H3 xv xs d3 hx okx => ⟨by show 3 ≤ sizeLine; omega, fun t nt => ?_⟩⟩⟩
      have sN := same_new (o := .tup [.str "drop", fv, xv]) nt
      exact q _ _ (.drop f xs) ((dr2.trans d3).same sN) ⟨t, fv, xv, rfl, upd_same, hf.ts ((d3.ts st2).trans (Same.ts sN)), (hx.more dr2).lf (Same.lf sN)⟩ ⟨okf, okx⟩
    refine ⟨_, rfl, rfl, _, rfl, int_no (k := 2) r2 ?_⟩
    by_cases r3 : r = 3
    · subst r3
      refine ⟨_, rfl, rfl, _, rfl, yes_if (decide_eq_true rfl) ⟨_, rfl, _, rfl, p, c, rfl, st2, fun H3 pv ps d3 hp okp => ⟨_, rfl, _, rfl, p, c, lv, l, 1, 3, rfl, hl2.ts (d3.ts st2), lok, by decide, by decide, by decide, d3.st, fun H4 xv xs d4 hx okx => ⟨by show 4 ≤ sizeLine; omega, fun t nt => ?_⟩⟩⟩⟩
      have sN := same_new (o := .tup [.str "move", fv, pv, xv]) nt
      have dr3 := dr2.trans d3
      exact q _ _ (.move f ps xs) ((dr3.trans d4).same sN) ⟨t, fv, pv, xv, rfl, upd_same, hf.ts (((d3.trans d4).ts st2).trans (Same.ts sN)), hp.ts ((d4.ts d3.st).trans (Same.ts sN)), (hx.more dr3).lf (Same.lf sN)⟩ ⟨okf, okp, okx⟩
    refine ⟨_, rfl, rfl, _, rfl, int_no (k := 3) r3 ?_⟩
    by_cases r4 : r = 4
    · subst r4
      refine ⟨_, rfl, rfl, _, rfl, yes_if (decide_eq_true rfl) ⟨_, rfl, _, rfl, _, rfl, p, c, lv, l, 1, 4, rfl, hl2, lok, by decide, by decide, by decide, st2, fun H3 xv xs d3 hx okx => ⟨by show 3 ≤ sizeLine; omega, fun t nt => ?_⟩⟩⟩
      have sN := same_new (o := .tup [.str "cut", fv, xv]) nt
      exact q _ _ (.cut f xs) ((dr2.trans d3).same sN) ⟨t, fv, xv, rfl, upd_same, hf.ts ((d3.ts st2).trans (Same.ts sN)), (hx.more dr2).lf (Same.lf sN)⟩ ⟨okf, okx⟩
    refine ⟨_, rfl, rfl, _, rfl, int_no (k := 4) r4 ?_⟩
    by_cases r5 : r = 5
    · subst r5
      refine ⟨_, rfl, rfl, _, rfl, yes_if (decide_eq_true rfl) ⟨_, rfl, _, rfl, p, c, lv, l, rfl, hl2, lok, st2, fun H3 xv x d3 hx okx _ => ⟨_, rfl, _, rfl, p, c, lv, l, rfl, hl2.ts (d3.ts st2), lok, d3.st, fun H4 yv y d4 hy oky _ => ⟨_, _, rfl, _, rfl, _, rfl, _, rfl, _, rfl, ?_⟩⟩⟩⟩
      have dr4 := (dr2.trans d3).trans d4
      have hx4 := hx.ts (d4.ts d3.st)
      have hf4 := hf.ts ((d3.trans d4).ts st2)
      refine ⟨_, _, dp_vx hx4, dp_vx hy, solid_plain _ (solid_vx x), solid_plain _ (solid_vx y), by rw [vx_depth]; decide, _, rfl, ite2 (fun he => ?_) (fun he => ?_)⟩
      · have hxx := hx4
        obtain ⟨xa, nv, ex, e1, e2⟩ := hx4
        subst ex
        refine ⟨_, rfl, xa, _, _, _, rfl, rfl, SqT.of e1, atI_nat (j := 0) rfl, _, rfl, xa, _, _, _, rfl, rfl, SqT.of e1, atI_nat (j := 1) rfl, _, rfl, xa, _, _, _, rfl, rfl, SqT.of e1, atI_nat (j := 2) rfl, _, _, rfl, rfl, by show 3 ≤ sizeLine; omega, fun u nu => ⟨by show 4 ≤ sizeLine; omega, fun t nt => ?_⟩⟩
        have x199 := okx.b
        have ez : (199 : Int) - (x.2.2 : Int) = ((199 - x.2.2 : Nat) : Int) := by omega
        have su : Same H4 (upd H4 u (.tup [nv, .int (x.2.1 : Int), .int ((199 : Int) - (x.2.2 : Int))])) := same_new nu
        have eu : (upd H4 u (.tup [nv, .int (x.2.1 : Int), .int ((199 : Int) - (x.2.2 : Int))])) u = some (.tup [nv, .int (x.2.1 : Int), .int ((199 : Int) - (x.2.2 : Int))]) := upd_same
        generalize upd H4 u (.tup [nv, .int (x.2.1 : Int), .int ((199 : Int) - (x.2.2 : Int))]) = H5 at su eu nt
        have sN := same_new (o := .tup [.str "order", fv, .ref xa, .ref u]) nt
        rw [ez] at eu
        refine q _ _ (.order f x (x.1, x.2.1, 199 - x.2.2)) (dr4.same (same_trans su sN)) ⟨t, fv, .ref xa, .ref u, rfl, upd_same, hf4.ts (Same.ts (same_trans su sN)), hxx.ts (Same.ts (same_trans su sN)), ⟨u, nv, rfl, sN _ _ eu, (e2.ts (Same.ts (same_trans su sN)))⟩⟩ ⟨okf, okx, ⟨okx.nm, okx.a, by show 199 - _ ≤ _; omega⟩, fun z => ?_⟩
        have z2 : x.2.2 = 199 - x.2.2 := congrArg (fun y : Vx => y.2.2) z
        omega
      · refine ⟨_, rfl, by show 4 ≤ sizeLine; omega, fun t nt => ?_⟩
        have sN := same_new (o := .tup [.str "order", fv, xv, yv]) nt
        exact q _ _ (.order f x y) (dr4.same sN) ⟨t, fv, xv, yv, rfl, upd_same, hf4.ts (Same.ts sN), hx4.ts (Same.ts sN), hy.ts (Same.ts sN)⟩ ⟨okf, okx, oky, fun z => he (by rw [z]; exact (eqv_iff (solid_vx y) (solid_vx y)).mpr rfl)⟩
    refine ⟨_, rfl, rfl, _, rfl, int_no (k := 5) r5 ?_⟩
    refine ⟨_, rfl, p, c, 4, rfl, by decide, st2, fun H3 n _ hn st3 d3 => ⟨_, _, rfl, rfl, ?_⟩⟩
    have hn := hn (by decide)
    have dr3 := dr2.drawn st3 d3
    refine ⟨_, rfl, by omega, by omega, fun D nD => ?_⟩
    have nD0 := dr3.none nD
    have nDp := st.new nD0
    have d23 : Dr p c H2 H3 := (Dr.refl st2).drawn st3 d3
    have nD2 := d23.none nD
    refine lc_range (lo := 0) (n := ((1 : Int) + (n : Int)).toNat) (fun k H4 => Dr p c H2 H4 ∧ ∃ ts : Path, ts.length = k ∧ (∀ t ∈ ts, okTx t) ∧ H4 D = some (.lst (strV ts))) ⟨d23.same (same_new nD), [], rfl, (fun m hm => nomatch hm), upd_same⟩ ?_ ?_
    · rintro k H4 hk ⟨d4, ts, lt, ok, eD⟩
      refine ⟨rfl, _, rfl, p, c, rfl, d4.st, fun H5 t d5 okt => ⟨_, d5.ou D _ nDp.1 nDp.2 eD, by rw [List.length_map]; omega, ⟨(d4.trans d5).st.upd nDp, fun b o n1 n2 e => ?_⟩, ts ++ [t], by rw [List.length_append, lt]; rfl, fun s hs => ?_, ?_⟩⟩
      · rw [upd_ne (ne_of_none e nD2)]
        exact (d4.trans d5).ou b o n1 n2 e
      · rcases List.mem_append.mp hs with h | h
        · exact ok s h
        · rw [List.mem_singleton.mp h]
          exact okt
      · rw [upd_same]
        unfold strV
        rw [List.map_append]
        rfl
    · rintro H4 ⟨d4, ts, lt, ok, eD⟩
      have dr4 := dr2.trans d4
      have hl4 := hl2.ts (d4.ts st2)
      refine ⟨_, rfl, _, rfl, _, rfl, p, c, lv, l, 0, 3, rfl, hl4, lok, by decide, by decide, by decide, d4.st, fun H5 xv xs d5 hx okx => ⟨_, rfl, _, rfl, p, c, lv, l, 0, 3, rfl, hl4.ts (d5.ts d4.st), lok, by decide, by decide, by decide, d5.st, fun H6 yv ys d6 hy oky => ⟨_, rfl, by show 5 ≤ sizeLine; omega, fun t nt => ?_⟩⟩⟩
      have sN := same_new (o := .tup [.str "lines", fv, xv, yv, .ref D]) nt
      have dr5 := dr4.trans d5
      refine q _ _ (.lines f xs ys ts) ((dr5.trans d6).same sN) ⟨t, fv, xv, yv, .ref D, rfl, upd_same, hf.ts ((((d4.trans d5).trans d6).ts st2).trans (Same.ts sN)), ((hx.more dr4).lf (dr_lf0 st d5.st d6)).lf (Same.lf sN), (hy.more dr5).lf (Same.lf sN), D, rfl, nD0, sN _ _ (d6.ou D _ nDp.1 nDp.2 (d5.ou D _ nDp.1 nDp.2 eD))⟩ ⟨okf, okx, oky, by omega, by omega, ok⟩
def spLQ : Sp := fun vs H Q _ => ∃ (p c : Addr), vs = [.ref p] ∧ StateAt H p c ∧ ∀ H' v P, Dr p c H H' → PatAt (fun x => H x = none) H' v P → PatOk P → Q v H'
theorem ok_LQ {f fLL fLC fD fLN fLI : Addr} {fd fdLL fdLC fdD fdLN fdLI : FuncData} (F : Fun K "_law_patch" "_law_patch" sLQ f fd)
    (GLL : FnOk P w K mg base CX0 2 fLL fdLL ["state"] spLL) (bLL : Binds K fdLL ["state"] []) (gLL : mg "_law_label" = some (.ref fLL)) (kLL : PySem.W.keepIn K (.ref fLL) = true)
    (GLC : FnOk P w K mg base CX0 7 fLC fdLC ["state", "label"] spLC) (bLC : Binds K fdLC ["state", "label"] []) (gLC : mg "_law_change" = some (.ref fLC)) (kLC : PySem.W.keepIn K (.ref fLC) = true)
    (GD : FnOk P w K mg base CX0 1 fD fdD ["state", "many"] spDraw) (bD : Binds K fdD ["state", "many"] []) (gD : mg "_law_draw" = some (.ref fD)) (kD : PySem.W.keepIn K (.ref fD) = true)
    (GLN : FnOk P w K mg base CX0 4 fLN fdLN ["state", "label"] spLN) (bLN : Binds K fdLN ["state", "label"] []) (gLN : mg "_law_name" = some (.ref fLN)) (kLN : PySem.W.keepIn K (.ref fLN) = true)
    (GLI : FnOk P w K mg base CX0 3 fLI fdLI ["state"] spLI) (bLI : Binds K fdLI ["state"] []) (gLI : mg "_law_line" = some (.ref fLI)) (kLI : PySem.W.keepIn K (.ref fLI) = true)
    (m_range : mg "range" = none) : FnOk P w K mg base CX0 8 f fd ["state"] spLQ := by
  refine F.ok scLQ (fun vs H Q E h => ?_) (fun cdv A outer s H vs Q E hr h => ?_)
  · obtain ⟨p, c, rfl, _⟩ := h
    rfl
  · obtain ⟨p, c, rfl, st, q⟩ := h
    have hu := hr.units
    have hu1 := hu_of hr
    have hr1 : Room 1 _ := hr.mono (by decide)
    have hr2 : Room 2 _ := hr.mono (by decide)
    have hr3 : Room 3 _ := hr.mono (by decide)
    have hr4 : Room 4 _ := hr.mono (by decide)
    have hr5 : Room 5 _ := hr.mono (by decide)
    have hr6 : Room 6 _ := hr.mono (by decide)
    have hr7 : Room 7 _ := hr.mono (by decide)
    have zl := zl
    refine ⟨_, (pss_cons (ps_set (i := 1) scLQ.nd rfl (.inr rfl) (pe_call GLL hr2 (by rfl) gLL kLL bLL .nil pass0 (pa_cons (pv 0) pa_nil)))
      (pss_cons (ps_setLc (i := 2) (own := [("k", 3)]) (g := gName 3) (tt := tYes) (te := tCall spLC [] E0 (tCons (tVar 0) (tCons (tVar 1) tNil))) rfl scLQ.nd rfl rfl (sw_true rfl rfl rfl (by decide +kernel)) (pi_range1 (by rfl) m_range (pa_cons (pe_op op_add (pe_int) (pe_call GD hr1 (by rfl) gD kD bD .nil pass0 (pa_cons (pv 0) (pa_cons (pe_int) pa_nil)))) pa_nil)) (blkOk_by (N := nLQ) (sc := defScope sLQ) (by decide +kernel)) (fun _ _ _ _ _ => by exact pg_name (i := 3) scLQ.nd rfl (.inl rfl)) (fun _ _ _ _ _ => pts_nil) (fun _ _ _ _ _ => by exact pe_call GLC hr7 (by rfl) gLC kLC bLC .nil pass0 (pa_cons (pv 0) (pa_cons (pv 1) pa_nil))))
      (pss_cons (ps_if (pt_cmpR op_eq (pe_call GD hr1 (by rfl) gD kD bD .nil pass0 (pa_cons (pv 0) (pa_cons (pe_int) pa_nil))) (pe_int) (nomark _))
      (pss_one (ps_set (i := 2) scLQ.nd rfl (.inl rfl) (pe_op op_rep (pe_lst (pa_cons (pe_tup (pa_cons (pe_str) (pa_cons (pe_tup (pa_cons (pe_str) pa_nil)) pa_nil))) pa_nil)) (pe_int)))) pss_nil)
      (pss_one (ps_ret (pe_tup (pa_cons (pe_str) (pa_cons (pe_call GLN hr4 (by rfl) gLN kLN bLN .nil pass0 (pa_cons (pv 0) (pa_cons (pv 1) pa_nil))) (pa_cons (pv 2) (pa_cons (pe_call GLI hr3 (by rfl) gLI kLI bLI .nil pass0 (pa_cons (pv 0) pa_nil)) pa_nil)))))))))), ?_⟩
    refine ⟨_, rfl, p, c, rfl, st, fun H1 lv l dr1 hl lok => ?_⟩
    refine ⟨_, rfl, p, c, 4, rfl, by decide, dr1.st, fun H2 n _ hn st2 d2 => ⟨_, _, rfl, rfl, ?_⟩⟩
    have hn := hn (by decide)
    have d12 : Dr p c H1 H2 := (Dr.refl dr1.st).drawn st2 d2
    have hl2 := hl.ts (d12.ts dr1.st)
    have dr2 := dr1.trans d12
    refine ⟨_, rfl, by omega, by omega, fun D nD => ?_⟩
    have nD0 := dr2.none nD
    have nDp := st.new nD0
    have fin : ∀ {H3 : Hp} {D : Addr} {cs : List V} {xs : List Chg}, Dr p c H H3 → LabAt H3 lv l → H D = none → H3 D = some (.lst cs) → EachIs (ChgAt (fun x => H x = none) H3) cs xs → 1 ≤ xs.length → xs.length ≤ 12 → (∀ x ∈ xs, ChgOk x) → ∀ σ : L2.St, σ[0]? = some (some (.ref p)) → σ[1]? = some (some lv) → σ[2]? = some (some (.ref D)) →
        tRet (tTup (tCons (tC (V.str (Str.ofString "patch"))) (tCons (tCall spLN [] E0 (tCons (tVar 0) (tCons (tVar 1) tNil))) (tCons (tVar 2) (tCons (tCall spLI [] E0 (tCons (tVar 0) tNil)) tNil))))) { nx := fun _ H' => Q .non H', rt := Q } σ H3 := by
      intro H3 D cs xs d3 hl3 nD0 eD he l1 l12 ok σ e0 e1 e2
      have nDp := st.new nD0
      refine ⟨_, e0, _, e1, p, c, lv, l, rfl, hl3, lok, d3.st, fun H4 nv nm d4 hn nok _ => ⟨_, e2, _, e0, p, c, rfl, d4.st, fun H5 t d5 okt => ⟨by show 4 ≤ sizeLine; omega, fun u nu => ?_⟩⟩⟩
      have sN := same_new (o := .tup [.str "patch", nv, .ref D, .str (Sg t)]) nu
      have d45 := d4.trans d5
      exact q _ _ ⟨nm, xs, t⟩ ((d3.trans d45).same sN) ⟨u, nv, D, cs, rfl, upd_same, hn.ts ((d5.ts d4.st).trans (Same.ts sN)), nD0, sN _ _ (d45.ou D _ nDp.1 nDp.2 eD), he.mono fun _ _ z => (z.lf (dr_lf0 st d3.st d45)).lf (Same.lf sN)⟩ ⟨nok, l1, l12, ok, okt⟩
    refine lc_range (lo := 0) (n := ((1 : Int) + (n : Int)).toNat) (fun k H4 => Dr p c H2 H4 ∧ ∃ (cs : List V) (xs : List Chg), xs.length = k ∧ (∀ t ∈ xs, ChgOk t) ∧ H4 D = some (.lst cs) ∧ EachIs (ChgAt (fun x => H x = none ∧ x ≠ D) H4) cs xs) ⟨(Dr.refl st2).same (same_new nD), [], [], rfl, (fun m hm => nomatch hm), upd_same, .nil⟩ ?_ ?_
    · rintro k H4 hk ⟨d4, cs, xs, lt, ok, eD, he⟩
      refine ⟨rfl, _, rfl, _, rfl, p, c, lv, l, rfl, hl2.ts (d4.ts st2), lok, d4.st, fun H5 v ch d5 hc okc => ?_⟩
      have eD5 := d5.ou D _ nDp.1 nDp.2 eD
      have lw := he.length
      have lfD : LF (fun x => H x = none ∧ x ≠ D) H5 (upd H5 D (.lst (cs ++ [v]))) := lf_upd eD5 fun z => z.2 rfl
      refine ⟨cs, eD5, by omega, ⟨(d4.trans d5).st.upd nDp, fun b o n1 n2 e => ?_⟩, cs ++ [v], xs ++ [ch], by rw [List.length_append, lt]; rfl, fun s hs => ?_, upd_same, each_snoc (he.mono fun _ _ z => (z.lf (Dr.lf d4.st d5 fun a n => st.new n.1)).lf lfD) ((hc.imp fun a n => ⟨(dr2.trans d4).none n, fun z => by rw [z, eD] at n; cases n⟩).lf lfD)⟩
      · rw [upd_ne (ne_of_none e nD)]
        exact (d4.trans d5).ou b o n1 n2 e
      · rcases List.mem_append.mp hs with h | h
        · exact ok s h
        · rw [List.mem_singleton.mp h]
          exact okc
    · rintro H4 ⟨d4, cs, xs, lt, ok, eD, he⟩
      have dr4 := dr2.trans d4
      have hl4 := hl2.ts (d4.ts st2)
      refine ⟨_, rfl, p, c, 12, rfl, by decide, d4.st, fun H5 r _ hr st5 d5 => ?_⟩
      have d45 : Dr p c H4 H5 := (Dr.refl d4.st).drawn st5 d5
      have dr5 := dr4.trans d45
      refine ⟨rfl, _, rfl, ite2 (fun _ => ?_) (fun _ => ?_)⟩
      · refine ⟨by show 1 ≤ sizeLine; omega, fun a na => ⟨by show 2 ≤ sizeLine; omega, fun b nb => ⟨by show 1 ≤ sizeLine; omega, fun e ne => ?_⟩⟩⟩
        have sa : Same H5 (upd H5 a (.tup [.str "a"])) := same_new na
        have ea : (upd H5 a (.tup [.str "a"])) a = some (.tup [.str "a"]) := upd_same
        generalize upd H5 a (.tup [.str "a"]) = H6 at sa ea nb ne
        have sb : Same H6 (upd H6 b (.tup [.str "add", .ref a])) := same_new nb
        have eb : (upd H6 b (.tup [.str "add", .ref a])) b = some (.tup [.str "add", .ref a]) := upd_same
        generalize upd H6 b (.tup [.str "add", .ref a]) = H7 at sb eb ne
        have se : Same H7 (upd H7 e (.lst [.ref b])) := same_new ne
        have ee : (upd H7 e (.lst [.ref b])) e = some (.lst [.ref b]) := upd_same
        generalize upd H7 e (.lst [.ref b]) = H8 at se ee
        refine ⟨e, _, _, rfl, rfl, ee, by decide, by decide, by show 1 * 12 ≤ sizeLine; omega, fun m nm => ?_⟩
        rw [rep_one]
        have s58 := same_trans (same_trans sa sb) se
        have nm0 := (dr5.same s58).none nm
        have s9 := same_trans s58 (same_new (o := .lst (List.replicate (12 : Int).toNat (V.ref b))) nm)
        refine fin (xs := List.replicate 12 (.add [[97]])) (dr5.same s9) ((hl4.ts (d45.ts d4.st)).ts (Same.ts s9)) nm0 upd_same (each_rep ⟨b, .ref a, rfl, same_new nm _ _ (se _ _ eb), a, rfl, same_new nm _ _ (se _ _ (sb _ _ ?_))⟩ 12) (by decide) (by decide) (fun x hx => by rw [List.eq_of_mem_replicate hx]; show okPath [[97]] = true; decide +kernel) _ rfl rfl rfl
        rw [ea]
        exact congrArg (fun z => some (HO.tup [V.str z])) (by decide +kernel)
      · exact fin dr5 (hl4.ts (d45.ts d4.st)) nD0 (d45.ou D _ nDp.1 nDp.2 eD) (he.mono fun _ _ z => (z.imp fun _ n => n.1).lf (dr_lf0 st d4.st d45)) (by omega) (by omega) ok _ rfl rfl rfl
end
end K20
namespace K20
open PySem PySem.Spec PyProof.Rows L2 TL TR QR
open GxR (TabB TabG Tabbed)
open PySem.W (EachIs)
abbrev sGI : Stmt := topS 56
abbrev nGI : List Str := ["name", "marks", "mark"]
theorem scGI : FnScope nGI ["name"] (defScope sGI) := ⟨rfl, rfl, rfl, by decide +kernel, rfl, by decide +kernel, by decide +kernel⟩
abbrev sWV : Stmt := topS 57
abbrev nWV : List Str := ["vertex"]
theorem scWV : FnScope nWV ["vertex"] (defScope sWV) := ⟨rfl, rfl, rfl, by decide +kernel, rfl, by decide +kernel, by decide +kernel⟩
abbrev sWS : Stmt := topS 58
abbrev nWS : List Str := ["vertices", "vertex"]
theorem scWS : FnScope nWS ["vertices"] (defScope sWS) := ⟨rfl, rfl, rfl, by decide +kernel, rfl, by decide +kernel, by decide +kernel⟩
theorem tif_val {tt : TT} {ta tb : TE} {σ : L2.St} {H : Hp} {Q : VK} (v : V) (h : ∀ Q' : VK, Q' v H → tIf tt ta tb σ H Q') (q : Q v H) : tIf tt ta tb σ H Q := h Q q
theorem join_sp (ps : Path) : Txt.join (Str.ofString " ") (ps.map Sg) = Sg (TR.joinL 32 ps) := by
  rw [show Str.ofString " " = ⟨#[32]⟩ by decide +kernel]
  show Builtin.Str.glued _ _ = _
  rw [StrLaws.glued_eq_join]
  refine ext_tl ?_
  rw [TR.tl_join, List.map_map]
  have e : (tl ∘ Sg) = id := by funext l; rfl
  rw [e, List.map_id]
  first | done | rfl
section
variable {P : Program} {w : World} {K : PySem.W.Frag} {mg : Str → Option Value} {base : Heap} {H : Hp} {v : V} {Q : VK} {E : XK} {Ts : List Addr}
def spGI : Sp := fun vs H Q _ => ∃ (v : V) (n : Nm), vs = [v] ∧ NmAt H v n ∧ NmOk n ∧ ∀ H', Same H H' → Q (.str (Sg (idL n))) H'
theorem ok_GI {f : Addr} {fd : FuncData} (F : Fun K "_law_show_id" "_law_show_id" sGI f fd)
    (m_str : mg "str" = none) : FnOk P w K mg base CX0 1 f fd ["name"] spGI := by
  refine F.ok scGI (fun vs H Q E h => ?_) (fun cdv A outer s H vs Q E hr h => ?_)
  · obtain ⟨v, n, rfl, _⟩ := h
    rfl
  · obtain ⟨v, n, rfl, hn, ok, q⟩ := h
    have hu := hr.units
    have hu1 := hu_of hr
    have zl := zl
    refine ⟨_, (pss_cons (ps_set (i := 1) scGI.nd rfl (.inl rfl) (pe_join (pe_str) (pe_lc (own := [("mark", 2)]) (g := gName 2) (tt := tYes) (te := tCB (fun xs H Q => ∃ i, xs = [.int i] ∧ i.natAbs.log2 < 1920 ∧ Q (.str (toString i)) H) (tCons (tVar 2) tNil)) rfl scGI.nd (pi_tup (pe_ix ix_tup (pe_ix ix_tup (pv 0) (pe_int) (fun _ _ => rfl)) (pe_int) (fun _ _ => rfl))) (blkOk_by (N := nGI) (sc := defScope sGI) (by decide +kernel)) (fun _ _ _ _ _ => by exact pg_name (i := 2) scGI.nd rfl (.inl rfl)) (fun _ _ _ _ _ => pts_nil) (fun _ _ _ _ _ => by exact pe_callTy call_str_int (by rfl) m_str (by decide +kernel) (pa_cons (pv 2) pa_nil)))))
      (pss_one (ps_ret (pe_op op_add_str (pe_op op_add_str (pe_op op_add_str (pe_op op_add_str (pe_op op_add_str (pe_callTy call_str_int (by rfl) m_str (by decide +kernel) (pa_cons (pe_ix ix_tup (pe_ix ix_tup (pv 0) (pe_int) (fun _ _ => rfl)) (pe_int) (fun _ _ => rfl)) pa_nil)) (pe_ifExp (pt_cmpR op_ne (pv 1) (pe_str) (nomark _)) (pe_op op_add_str (pe_str) (pv 1)) (pe_str))) (pe_str)) (pe_ix ix_tup (pv 0) (pe_int) (fun _ _ => rfl))) (pe_str)) (pe_callTy call_str_int (by rfl) m_str (by decide +kernel) (pa_cons (pe_ix ix_tup (pv 0) (pe_int) (fun _ _ => rfl)) pa_nil)))))), ?_⟩
    obtain ⟨na, lv, rfl, e1, hl⟩ := hn
    obtain ⟨la, ma, rfl, h1, h2⟩ := hl
    have sm := ok.sm
    have sm1 := sm.1
    have sl := lab_len sm1
    have sid := id_len sm
    generalize hl' : n.1 = l at *
    have lm : (l.2.map fun m : Nat => V.int (m : Int)).length = l.2.length := List.length_map _
    refine ⟨⟨_, rfl⟩, _, rfl, na, _, _, _, rfl, rfl, SqT.of e1, atI_nat (j := 0) rfl, la, _, _, _, rfl, rfl, SqT.of h1, atI_nat (j := 2) rfl, ma, rfl, ⟨_, SqT.of h2⟩, fun D nD => ?_⟩
    have s0 : Same H (upd H D (.lst [])) := same_new nD
    refine lc_tup (xs := l.2.map fun m : Nat => V.int (m : Int)) (fun i H' => Same H H' ∧ H' D = some (.lst ((l.2.take i).map fun m => V.str (Sg (numL m))))) ⟨s0, upd_same⟩ ?_ ?_ ?_
    · rintro i H' _ ⟨s1, _⟩
      exact SqT.of (s1 _ _ h2)
    · rintro i y H1 hy ⟨s1, eD⟩
      obtain ⟨m, gm, rfl⟩ := map_get hy
      have hm := sm1.2.2 m (List.mem_of_getElem? gm)
      have := sm1.2.1
      refine ⟨rfl, _, rfl, (m : Int), rfl, num_small (by omega), _, eD, by rw [List.length_map, List.length_take]; omega, same_upd nD s1, ?_⟩
      rw [upd_same, List.take_add_one, gm]
      show _ = some (HO.lst (((l.2.take i) ++ [m]).map _))
      rw [List.map_append]
      show some (HO.lst (_ ++ [V.str (Str.ofString (toString (m : Int)))])) = _
      rw [sg_num]
      rfl
    · rintro H1 ⟨s1, eD⟩
      rw [lm, List.take_length] at eD
      have eD2 : H1 D = some (.lst (((l.2.map numL).map Sg).map V.str)) := by
        rw [eD, List.map_map, List.map_map]
        rfl
      have sms : ∀ p ∈ l.2.map numL, p.length ≤ 5 := fun p hp => by
        obtain ⟨m, hm, rfl⟩ := List.mem_map.mp hp
        exact num_five (by have := sm1.2.2 m hm; omega)
      have ml := mark_len sm1.2.2
      have ll := sm1.2.1
      have l5 := num_five sm1.1
      refine ⟨_, D, _, rfl, rfl, .inl (SqL.of eD2), ?_, ?_⟩
      · have := sum_sg 5 sms
        rw [List.length_map] at this
        rw [List.length_map, List.length_map, show (Str.ofString "").length = 0 by decide +kernel]
        omega
      have ej : Txt.join (Str.ofString "") ((l.2.map numL).map Sg) = Sg (markL l.2) := by
        rw [show Str.ofString "" = Str.empty from rfl, txt_join0, List.map_map]
        have e : (tl ∘ Sg) = id := by funext l; rfl
        rw [e, List.map_id]
        rfl
      rw [ej]
      have n1 := s1 _ _ e1
      have m1 := s1 _ _ h1
      have e0 : Str.ofString "" = Sg [] := by decide +kernel
      have lme : (markL l.2 = []) ↔ l.2 = [] := ⟨fun z => Decidable.byContradiction fun y => mark_ne y z, fun z => by rw [z]; rfl⟩
      refine ⟨_, rfl, na, _, _, _, rfl, rfl, SqT.of n1, atI_nat (j := 0) rfl, la, _, _, _, rfl, rfl, SqT.of m1, atI_nat (j := 1) rfl, (l.1 : Int), rfl, num_small sm1.1, ?_⟩
      rw [sg_num]
      refine tif_val (V.str (Sg (if l.2 = [] then [] else 58 :: markL l.2))) (fun Q' q' => ?_) ?_
      · refine ⟨_, rfl, rfl, _, rfl, ?_⟩
        by_cases hms : l.2 = []
        · rw [if_pos hms] at q'
          refine no_if (by rw [e0, Bool.not_eq_true', decide_eq_false_iff_not]; exact fun z => z (by rw [lme.mpr hms])) ?_
          show Q' (V.str (Str.ofString "")) H1
          rw [e0]
          exact q'
        · rw [if_neg hms] at q'
          refine yes_if (by rw [e0, Bool.not_eq_true', decide_eq_false_iff_not]; exact fun z => hms (lme.mp (sg_inj (V.str.inj z)))) ⟨_, rfl, _, _, rfl, rfl, ?_, ?_⟩
          · show (Str.ofString ":").length + (markL l.2).length ≤ _
            rw [show (Str.ofString ":").length = 1 by decide +kernel]
            omega
          · rw [show (Str.ofString ":" ++ Sg (markL l.2)) = Sg (58 :: markL l.2) from ext_tl (by rw [tl_app, t_col]; rfl)]
            exact q'
      · have lx : (if l.2 = [] then [] else 58 :: markL l.2 : List Nat).length ≤ 1001 := by
          split
          · exact Nat.zero_le _
          · rw [List.length_cons]; omega
        have lw := (word_free ok.wd).2.1
        have l6 := num_five sm.2.2
        have cat : ∀ (a b : List Nat), Sg a ++ Sg b = Sg (a ++ b) := fun a b => sg_app a b
        have edot : Str.ofString "." = Sg [46] := by decide +kernel
        have sl2 : ∀ a : List Nat, (Sg a).length = a.length := fun _ => rfl
        refine ⟨_, _, rfl, rfl, by rw [sl2, sl2]; omega, ?_⟩
        rw [cat, edot]
        refine ⟨_, _, rfl, rfl, by rw [sl2, sl2, List.length_append]; show _ + 1 ≤ _; omega, ?_⟩
        rw [cat]
        refine ⟨_, rfl, na, _, _, _, rfl, rfl, SqT.of n1, atI_nat (j := 1) rfl, _, _, rfl, rfl, by rw [sl2, sl2, List.length_append, List.length_append]; show _ + 1 + _ ≤ _; omega, ?_⟩
        rw [cat]
        refine ⟨_, _, rfl, rfl, by rw [sl2, sl2, List.length_append, List.length_append, List.length_append]; show _ + 1 + _ + 1 ≤ _; omega, ?_⟩
        rw [cat]
        refine ⟨_, rfl, na, _, _, _, rfl, rfl, SqT.of n1, atI_nat (j := 2) rfl, (n.2.2 : Int), rfl, num_small sm.2.2, ?_⟩
        rw [sg_num]
        refine ⟨_, _, rfl, rfl, by rw [sl2, sl2, List.length_append, List.length_append, List.length_append, List.length_append]; show _ + 1 + _ + 1 + _ ≤ _; omega, ?_⟩
        rw [cat]
        have := q H1 s1
        unfold idL at this
        rw [hl'] at this
        unfold labL at this
        simp only [List.append_assoc, List.cons_append, List.nil_append] at this ⊢
        exact this
def spWV : Sp := fun vs H Q _ => ∃ (v : V) (n : Vx), vs = [v] ∧ VxAt H v n ∧ VxOk n ∧ ∀ H', Same H H' → Q (.str (Sg (vxL n))) H'
theorem ok_WV {f fGI : Addr} {fd fdGI : FuncData} (F : Fun K "_law_show_vertex" "_law_show_vertex" sWV f fd)
    (GGI : FnOk P w K mg base CX0 1 fGI fdGI ["name"] spGI) (bGI : Binds K fdGI ["name"] []) (gGI : mg "_law_show_id" = some (.ref fGI)) (kGI : PySem.W.keepIn K (.ref fGI) = true)
    (m_str : mg "str" = none) : FnOk P w K mg base CX0 2 f fd ["vertex"] spWV := by
  refine F.ok scWV (fun vs H Q E h => ?_) (fun cdv A outer s H vs Q E hr h => ?_)
  · obtain ⟨v, n, rfl, _⟩ := h
    rfl
  · obtain ⟨v, n, rfl, ⟨va, nv, rfl, e1, e2⟩, ok, q⟩ := h
    have hu := hr.units
    have hu1 := hu_of hr
    have hr1 : Room 1 _ := hr.mono (by decide)
    have zl := zl
    refine ⟨_, (pss_one (ps_ret (pe_op op_add_str (pe_op op_add_str (pe_op op_add_str (pe_op op_add_str (pe_call GGI hr1 (by rfl) gGI kGI bGI .nil pass0 (pa_cons (pe_ix ix_tup (pv 0) (pe_int) (fun _ _ => rfl)) pa_nil)) (pe_str)) (pe_callTy call_str_int (by rfl) m_str (by decide +kernel) (pa_cons (pe_ix ix_tup (pv 0) (pe_int) (fun _ _ => rfl)) pa_nil))) (pe_str)) (pe_callTy call_str_int (by rfl) m_str (by decide +kernel) (pa_cons (pe_ix ix_tup (pv 0) (pe_int) (fun _ _ => rfl)) pa_nil))))), ?_⟩
    have sm := ok.sm
    have sid := id_len sm.1
    have l5 := num_five sm.2.1
    have l6 := num_five sm.2.2
    refine ⟨_, rfl, va, _, _, _, rfl, rfl, SqT.of e1, atI_nat (j := 0) rfl, nv, n.1, rfl, e2, ok.nm, fun H1 s1 => ?_⟩
    have cat : ∀ (a b : List Nat), Sg a ++ Sg b = Sg (a ++ b) := fun a b => sg_app a b
    have edot : Str.ofString "." = Sg [46] := by decide +kernel
    have sl2 : ∀ a : List Nat, (Sg a).length = a.length := fun _ => rfl
    have n1 := s1 _ _ e1
    rw [edot]
    refine ⟨_, _, rfl, rfl, by rw [sl2, sl2]; show _ + 1 ≤ _; omega, ?_⟩
    rw [cat]
    refine ⟨_, rfl, va, _, _, _, rfl, rfl, SqT.of n1, atI_nat (j := 1) rfl, (n.2.1 : Int), rfl, num_small sm.2.1, ?_⟩
    rw [sg_num]
    refine ⟨_, _, rfl, rfl, by rw [sl2, sl2, List.length_append]; show _ + 1 + _ ≤ _; omega, ?_⟩
    rw [cat]
    refine ⟨_, _, rfl, rfl, by rw [sl2, sl2, List.length_append, List.length_append]; show _ + 1 + _ + 1 ≤ _; omega, ?_⟩
    rw [cat]
    refine ⟨_, rfl, va, _, _, _, rfl, rfl, SqT.of n1, atI_nat (j := 2) rfl, (n.2.2 : Int), rfl, num_small sm.2.2, ?_⟩
    rw [sg_num]
    refine ⟨_, _, rfl, rfl, by rw [sl2, sl2, List.length_append, List.length_append, List.length_append]; show _ + 1 + _ + 1 + _ ≤ _; omega, ?_⟩
    rw [cat]
    have := q H1 s1
    unfold vxL at this
    simp only [List.append_assoc, List.cons_append, List.nil_append] at this ⊢
    exact this
def spWS : Sp := fun vs H Q _ => ∃ (a : Addr) (ws : List V) (xs : List Vx), vs = [.ref a] ∧ H a = some (.lst ws) ∧ EachIs (VxAt H) ws xs ∧ (∀ x ∈ xs, VxOk x) ∧ xs.length ≤ 200 ∧ ∀ H', Same H H' → Q (.str (Sg (vsL xs))) H'
theorem ok_WS {f fWV : Addr} {fd fdWV : FuncData} (F : Fun K "_law_show_vertices" "_law_show_vertices" sWS f fd)
    (GWV : FnOk P w K mg base CX0 2 fWV fdWV ["vertex"] spWV) (bWV : Binds K fdWV ["vertex"] []) (gWV : mg "_law_show_vertex" = some (.ref fWV)) (kWV : PySem.W.keepIn K (.ref fWV) = true)
    (m_len : mg "len" = none) : FnOk P w K mg base CX0 3 f fd ["vertices"] spWS := by
  refine F.ok scWS (fun vs H Q E h => ?_) (fun cdv A outer s H vs Q E hr h => ?_)
  · obtain ⟨a, ws, xs, rfl, _⟩ := h
    rfl
  · obtain ⟨a, ws, xs, rfl, ha, he, ok, l12, q⟩ := h
    have hu := hr.units
    have hu1 := hu_of hr
    have hr1 : Room 1 _ := hr.mono (by decide)
    have hr2 : Room 2 _ := hr.mono (by decide)
    have zl := zl
    refine ⟨_, (pss_one (ps_ret (pe_ifExp (pt_cmpR op_gt (pe_callB call_len_seq (by rfl) m_len PySem.boot_len (pa_cons (pv 0) pa_nil)) (pe_int) (nomark _)) (pe_join (pe_str) (pe_lc (own := [("vertex", 1)]) (g := gName 1) (tt := tYes) (te := tCall spWV [] E0 (tCons (tVar 1) tNil)) rfl scWS.nd (pi_list (pv 0)) (blkOk_by (N := nWS) (sc := defScope sWS) (by decide +kernel)) (fun _ _ _ _ _ => by exact pg_name (i := 1) scWS.nd rfl (.inl rfl)) (fun _ _ _ _ _ => pts_nil) (fun _ _ _ _ _ => by exact pe_call GWV hr2 (by rfl) gWV kWV bWV .nil pass0 (pa_cons (pv 1) pa_nil)))) (pe_str)))), ?_⟩
    have lw := he.length
    refine ⟨_, rfl, a, _, rfl, .inl (SqL.of ha), _, _, rfl, rfl, _, rfl, ?_⟩
    by_cases hn : ws = []
    · subst hn
      have ex : xs = [] := List.eq_nil_of_length_eq_zero (by rw [← lw]; rfl)
      rw [ex] at q
      have := q H same_refl
      have e : Sg (vsL []) = Str.ofString "-" := by decide +kernel
      rw [e] at this
      exact no_if (by simp) this
    · have l0 : 0 < ws.length := List.length_pos_iff.mpr hn
      refine yes_if (decide_eq_true (by omega)) ⟨⟨_, rfl⟩, _, rfl, a, rfl, ⟨_, SqL.of ha⟩, fun D nD => ?_⟩
      refine lc_list (xs := ws) (fun i H' => Same H H' ∧ H' D = some (.lst (strV ((xs.take i).map vxL)))) ⟨same_new nD, upd_same⟩ ?_ ?_ ?_
      · rintro i H' _ ⟨s1, _⟩
        exact SqL.of (s1 _ _ ha)
      · rintro i y H1 hy ⟨s1, eD⟩
        obtain ⟨x, gx, hx⟩ := each_at he hy
        refine ⟨rfl, _, rfl, ?_⟩
        dsimp only [tNil, tCons, tC, List.cons_append, List.nil_append]
        refine ⟨y, x, rfl, hx.ts (Same.ts s1), ok x (List.mem_of_getElem? gx), fun H2 s2 => ⟨_, s2 _ _ eD, ?_, same_upd nD (same_trans s1 s2), ?_⟩⟩
        · rw [List.length_map, List.length_map, List.length_take]
          omega
        · rw [upd_same, take_snoc gx, List.map_append]
          unfold strV
          rw [List.map_append]
          rfl
      · rintro H1 ⟨s1, eD⟩
        rw [lw, List.take_length] at eD
        have eD2 : H1 D = some (.lst (((xs.map vxL).map Sg).map V.str)) := by rw [eD, List.map_map (l := xs.map vxL)]; rfl
        refine ⟨_, D, _, rfl, rfl, .inl (SqL.of eD2), ?_, ?_⟩
        · have := sum_sg 2025 (ps := xs.map vxL) fun p hp => by
            obtain ⟨y, hy, rfl⟩ := List.mem_map.mp hp
            exact vx_len (ok y hy).sm
          rw [List.length_map] at this
          rw [List.length_map, List.length_map, show (Str.ofString ",").length = 1 by decide +kernel]
          omega
        · have := q H1 s1
          cases xs with
          | nil => exact absurd (List.eq_nil_of_length_eq_zero lw) hn
          | cons x r =>
            rw [join_com]
            exact this
theorem ws_of {N : Addr → Prop} {xs : List Vx} {l : Nat} (hx : VsAt N H v xs) (ok : VsOk xs l) (q : ∀ H', Same H H' → Q (.str (Sg (vsL xs))) H') : spWS [v] H Q E := by
  obtain ⟨c, ws, rfl, _, e1, e2⟩ := hx
  exact ⟨c, ws, xs, rfl, e1, e2, ok.ok, ok.hi, q⟩
theorem wv_of {x : Vx} (hx : VxAt H v x) (ok : VxOk x) (q : ∀ H', Same H H' → Q (.str (Sg (vxL x))) H') : spWV [v] H Q E := ⟨v, x, rfl, hx, ok, q⟩
end
end K20
namespace K20
open PySem PySem.Spec PyProof.Rows L2 TL TR QR
open GxR (TabB TabG Tabbed)
open PySem.W (EachIs)
abbrev sWP : Stmt := topS 59
abbrev nWP : List Str := ["patch", "found", "change", "kind", "bounds", "text", "vertex"]
theorem scWP : FnScope nWP ["patch"] (defScope sWP) := ⟨rfl, rfl, rfl, by decide +kernel, rfl, by decide +kernel, by decide +kernel⟩
theorem words_len {c : Chg} (h : ChgOk c) : ∀ w ∈ wordsOf c, w.length ≤ 25000 := by
  intro w hw
  cases c with
  | add p =>
    simp only [wordsOf, List.mem_cons, List.not_mem_nil, or_false] at hw
    rcases hw with rfl | rfl
    · decide
    · have := slash_len h; omega
  | back n =>
    simp only [wordsOf, List.mem_cons, List.not_mem_nil, or_false] at hw
    rcases hw with rfl | rfl
    · decide
    · have := id_len (NmOk.sm h); omega
  | drop f xs =>
    simp only [wordsOf, List.mem_cons, List.not_mem_nil, or_false] at hw
    rcases hw with rfl | rfl | rfl
    · decide
    · have := vx_len h.1.sm; omega
    · exact vs_len h.2.ok h.2.hi
  | move f p xs =>
    simp only [wordsOf, List.mem_cons, List.not_mem_nil, or_false] at hw
    rcases hw with rfl | rfl | rfl | rfl
    · decide
    · have := vx_len h.1.sm; omega
    · have := slash_len h.2.1; omega
    · exact vs_len h.2.2.ok h.2.2.hi
  | cut f xs =>
    simp only [wordsOf, List.mem_cons, List.not_mem_nil, or_false] at hw
    rcases hw with rfl | rfl | rfl
    · decide
    · have := vx_len h.1.sm; omega
    · exact vs_len h.2.ok h.2.hi
  | order f a b =>
    simp only [wordsOf, List.mem_cons, List.not_mem_nil, or_false] at hw
    rcases hw with rfl | rfl | rfl | rfl
    · decide
    · have := vx_len h.1.sm; omega
    · have := vx_len h.2.1.sm; omega
    · have := vx_len h.2.2.1.sm; omega
  | lines f xs ys ts =>
    simp only [wordsOf, List.mem_cons, List.not_mem_nil, or_false] at hw
    rcases hw with rfl | rfl | rfl | rfl | rfl
    · decide
    · have := vx_len h.1.sm; omega
    · exact vs_len h.2.1.ok h.2.1.hi
    · exact vs_len h.2.2.1.ok h.2.2.1.hi
    · have := num_five (n := ts.length) (by have := h.2.2.2.2.1; omega); omega
theorem words_few (c : Chg) : (wordsOf c).length ≤ 5 := by cases c <;> simp [wordsOf]
theorem words_sum {c : Chg} (h : ChgOk c) : (((wordsOf c).map Sg).map (·.length)).sum + ((wordsOf c).map Sg).length * (Str.ofString " ").length ≤ sizeLine := by
  have := sum_sg 25000 (words_len h)
  have := words_few c
  have zl := zl
  rw [List.length_map, show (Str.ofString " ").length = 1 by decide +kernel]
  omega
theorem VsAt.here {N : Addr → Prop} {H : Hp} {v : V} {xs : List Vx} : VsAt N H v xs → VsAt (fun b => H b ≠ none) H v xs := fun ⟨a, ws, e, n, h, q⟩ => ⟨a, ws, e, (fun z => by rw [z] at h; cases h), h, q⟩
theorem TsAt.here {N : Addr → Prop} {H : Hp} {v : V} {xs : Path} : TsAt N H v xs → TsAt (fun b => H b ≠ none) H v xs := fun ⟨a, e, n, h⟩ => ⟨a, e, (fun z => by rw [z] at h; cases h), h⟩
theorem ChgAt.here {N : Addr → Prop} {H : Hp} {v : V} {c : Chg} (h : ChgAt N H v c) : ChgAt (fun b => H b ≠ none) H v c := by
  cases c with
  | add p => exact h
  | back p => exact h
  | drop f xs => exact let ⟨a, fv, xv, e, h1, h2, h3⟩ := h; ⟨a, fv, xv, e, h1, h2, h3.here⟩
  | move f p xs => exact let ⟨a, fv, pv, xv, e, h1, h2, h3, h4⟩ := h; ⟨a, fv, pv, xv, e, h1, h2, h3, h4.here⟩
  | cut f xs => exact let ⟨a, fv, xv, e, h1, h2, h3⟩ := h; ⟨a, fv, xv, e, h1, h2, h3.here⟩
  | order f x y => exact h
  | lines f xs ys ts => exact let ⟨a, fv, xv, yv, tv, e, h1, h2, h3, h4, h5⟩ := h; ⟨a, fv, xv, yv, tv, e, h1, h2, h3.here, h4.here, h5.here⟩
section
variable {P : Program} {w : World} {K : PySem.W.Frag} {mg : Str → Option Value} {base : Heap} {H : Hp} {v : V} {Q : VK} {E : XK} {Ts : List Addr}
def spWP : Sp := fun vs H Q _ => ∃ (v : V) (P : Pat), vs = [v] ∧ PatAt (fun _ => True) H v P ∧ PatOk P ∧ ∀ H' p, Same H H' → H p = none → H' p = some (.lst (strV (showP P))) → Q (.ref p) H'
theorem ok_WP {f fGI fWV fWS : Addr} {fd fdGI fdWV fdWS : FuncData} (F : Fun K "_law_show_patch" "_law_show_patch" sWP f fd)
    (GGI : FnOk P w K mg base CX0 1 fGI fdGI ["name"] spGI) (bGI : Binds K fdGI ["name"] []) (gGI : mg "_law_show_id" = some (.ref fGI)) (kGI : PySem.W.keepIn K (.ref fGI) = true)
    (GWV : FnOk P w K mg base CX0 2 fWV fdWV ["vertex"] spWV) (bWV : Binds K fdWV ["vertex"] []) (gWV : mg "_law_show_vertex" = some (.ref fWV)) (kWV : PySem.W.keepIn K (.ref fWV) = true)
    (GWS : FnOk P w K mg base CX0 3 fWS fdWS ["vertices"] spWS) (bWS : Binds K fdWS ["vertices"] []) (gWS : mg "_law_show_vertices" = some (.ref fWS)) (kWS : PySem.W.keepIn K (.ref fWS) = true)
    (m_len : mg "len" = none) (m_str : mg "str" = none) : FnOk P w K mg base CX0 4 f fd ["patch"] spWP := by
  refine F.ok scWP (fun vs H Q E h => ?_) (fun cdv A outer s H vs Q E hr h => ?_)
  · obtain ⟨v, P, rfl, _⟩ := h
    rfl
  · obtain ⟨v, P, rfl, hp, ok, q⟩ := h
    have hu := hr.units
    have hu1 := hu_of hr
    have hr1 : Room 1 _ := hr.mono (by decide)
    have hr2 : Room 2 _ := hr.mono (by decide)
    have hr3 : Room 3 _ := hr.mono (by decide)
    have zl := zl
    refine ⟨_, (pss_cons (ps_set (i := 1) scWP.nd rfl (.inl rfl) (pe_lst (pa_cons (pe_op op_add_str (pe_str) (pe_call GGI hr1 (by rfl) gGI kGI bGI .nil pass0 (pa_cons (pe_ix ix_tup (pv 0) (pe_int) (fun _ _ => rfl)) pa_nil))) (pa_cons (pe_op op_add_str (pe_str) (pe_ix ix_tup (pv 0) (pe_int) (fun _ _ => rfl))) pa_nil))))
      (pss_cons (ps_for PassesOwn.never rfl (pi_list (pe_ix ix_tup (pv 0) (pe_int) (fun _ _ => rfl))) (pg_name (i := 2) scWP.nd rfl (.inl rfl))
      (pss_cons (ps_set (i := 3) scWP.nd rfl (.inl rfl) (pe_ix ix_tup (pv 2) (pe_int) (fun _ _ => rfl)))
      (pss_one (ps_if (pt_cmpR op_eq (pv 3) (pe_str) (nomark _))
      (pss_one (ps_expr (pe_bm PySem.F.plainAttrs_list PySem.F.slot_list_append PySem.F.type_list_append mt_append (pv 1) (pa_cons (pe_op op_add_str (pe_str) (pe_join (pe_str) (pe_ix ix_tup (pv 2) (pe_int) (fun _ _ => rfl)))) pa_nil)))) (pss_one (ps_if (pt_cmpR op_eq (pv 3) (pe_str) (nomark _))
      (pss_one (ps_expr (pe_bm PySem.F.plainAttrs_list PySem.F.slot_list_append PySem.F.type_list_append mt_append (pv 1) (pa_cons (pe_op op_add_str (pe_str) (pe_call GGI hr1 (by rfl) gGI kGI bGI .nil pass0 (pa_cons (pe_ix ix_tup (pv 2) (pe_int) (fun _ _ => rfl)) pa_nil))) pa_nil)))) (pss_one (ps_if (pt_cmpR op_in_seq (pv 3) (pe_tup (pa_cons (pe_str) (pa_cons (pe_str) pa_nil))) (by rfl))
      (pss_one (ps_expr (pe_bm PySem.F.plainAttrs_list PySem.F.slot_list_append PySem.F.type_list_append mt_append (pv 1) (pa_cons (pe_join (pe_str) (pe_lst (pa_cons (pv 3) (pa_cons (pe_call GWV hr2 (by rfl) gWV kWV bWV .nil pass0 (pa_cons (pe_ix ix_tup (pv 2) (pe_int) (fun _ _ => rfl)) pa_nil)) (pa_cons (pe_call GWS hr3 (by rfl) gWS kWS bWS .nil pass0 (pa_cons (pe_ix ix_tup (pv 2) (pe_int) (fun _ _ => rfl)) pa_nil)) pa_nil))))) pa_nil)))) (pss_one (ps_if (pt_cmpR op_eq (pv 3) (pe_str) (nomark _))
      (pss_one (ps_expr (pe_bm PySem.F.plainAttrs_list PySem.F.slot_list_append PySem.F.type_list_append mt_append (pv 1) (pa_cons (pe_join (pe_str) (pe_lst (pa_cons (pv 3) (pa_cons (pe_call GWV hr2 (by rfl) gWV kWV bWV .nil pass0 (pa_cons (pe_ix ix_tup (pv 2) (pe_int) (fun _ _ => rfl)) pa_nil)) (pa_cons (pe_join (pe_str) (pe_ix ix_tup (pv 2) (pe_int) (fun _ _ => rfl))) (pa_cons (pe_call GWS hr3 (by rfl) gWS kWS bWS .nil pass0 (pa_cons (pe_ix ix_tup (pv 2) (pe_int) (fun _ _ => rfl)) pa_nil)) pa_nil)))))) pa_nil)))) (pss_one (ps_if (pt_cmpR op_eq (pv 3) (pe_str) (nomark _))
      (pss_one (ps_expr (pe_bm PySem.F.plainAttrs_list PySem.F.slot_list_append PySem.F.type_list_append mt_append (pv 1) (pa_cons (pe_join (pe_str) (pe_op op_cat (pe_lst (pa_cons (pv 3) pa_nil)) (pe_lc (own := [("vertex", 6)]) (g := gName 6) (tt := tYes) (te := tCall spWV [] E0 (tCons (tVar 6) tNil)) rfl scWP.nd (pi_tup (pe_slice sl_tupA (pv 2) (po_some (pe_int)) (po_none))) (blkOk_by (N := nWP) (sc := defScope sWP) (by decide +kernel)) (fun _ _ _ _ _ => by exact pg_name (i := 6) scWP.nd rfl (.inl rfl)) (fun _ _ _ _ _ => pts_nil) (fun _ _ _ _ _ => by exact pe_call GWV hr2 (by rfl) gWV kWV bWV .nil pass0 (pa_cons (pv 6) pa_nil))))) pa_nil)))) (pss_cons (ps_set (i := 4) scWP.nd rfl (.inl rfl) (pe_lst (pa_cons (pe_call GWS hr3 (by rfl) gWS kWS bWS .nil pass0 (pa_cons (pe_ix ix_tup (pv 2) (pe_int) (fun _ _ => rfl)) pa_nil)) (pa_cons (pe_call GWS hr3 (by rfl) gWS kWS bWS .nil pass0 (pa_cons (pe_ix ix_tup (pv 2) (pe_int) (fun _ _ => rfl)) pa_nil)) pa_nil))))
      (pss_cons (ps_expr (pe_bm PySem.F.plainAttrs_list PySem.F.slot_list_append PySem.F.type_list_append mt_append (pv 1) (pa_cons (pe_join (pe_str) (pe_op op_cat (pe_op op_cat (pe_lst (pa_cons (pv 3) (pa_cons (pe_call GWV hr2 (by rfl) gWV kWV bWV .nil pass0 (pa_cons (pe_ix ix_tup (pv 2) (pe_int) (fun _ _ => rfl)) pa_nil)) pa_nil))) (pv 4)) (pe_lst (pa_cons (pe_callTy call_str_int (by rfl) m_str (by decide +kernel) (pa_cons (pe_callB call_len_seq (by rfl) m_len PySem.boot_len (pa_cons (pe_ix ix_tup (pv 2) (pe_int) (fun _ _ => rfl)) pa_nil)) pa_nil)) pa_nil)))) pa_nil)))
      (pss_one (ps_set (i := 1) scWP.nd rfl (.inl rfl) (pe_op op_cat (pv 1) (pe_lc (own := [("text", 5)]) (g := gName 5) (tt := tYes) (te := tOp (fun x y H Q => ∃ i j, x = .str i ∧ y = .str j ∧ i.length + j.length ≤ sizeLine ∧ Q (.str (i ++ j)) H) (tC (.str "|")) (tVar 5)) rfl scWP.nd (pi_list (pe_ix ix_tup (pv 2) (pe_int) (fun _ _ => rfl))) (blkOk_by (N := nWP) (sc := defScope sWP) (by decide +kernel)) (fun _ _ _ _ _ => by exact pg_name (i := 5) scWP.nd rfl (.inl rfl)) (fun _ _ _ _ _ => pts_nil) (fun _ _ _ _ _ => by exact pe_op op_add_str (pe_str) (pv 5))))))))))))))))))))
      (pss_one (ps_ret (pe_op op_cat (pv 1) (pe_lst (pa_cons (pe_str) pa_nil))))))), ?_⟩
    obtain ⟨pa0, nv, ca, cs, rfl, h1, h2, _, h3, h4⟩ := hp
    have sn := id_len ok.nm.sm
    have st := ok.nt.1
    have lc := h4.length
    have l12 := ok.hi
    have sl2 : ∀ a : List Nat, (Sg a).length = a.length := fun _ => rfl
    refine ⟨_, rfl, pa0, _, _, _, rfl, rfl, SqT.of h1, atI_nat (j := 1) rfl, nv, P.nm, rfl, h2, ok.nm, fun H1 s1 => ⟨_, _, rfl, rfl, (by simp only [len_tl, tl_app, t_e, t_sg, t_add_, t_back_, t_drop, t_move, t_cut, t_order, t_lines, t_add, t_back, t_sp, t_bar, t_end, t_pt, t_nt, t_com, t_dot, t_col, t_mi, wAdd, wBack, wDrop, wMove, wCut, wOrder, wLines, wEnd, wPatch, wNote, List.length_append, List.length_cons, List.length_nil]; omega), _, rfl, pa0, _, _, _, rfl, rfl, SqT.of (s1 _ _ h1), atI_nat (j := 3) rfl, _, _, rfl, rfl, (by simp only [len_tl, tl_app, t_e, t_sg, t_add_, t_back_, t_drop, t_move, t_cut, t_order, t_lines, t_add, t_back, t_sp, t_bar, t_end, t_pt, t_nt, t_com, t_dot, t_col, t_mi, wAdd, wBack, wDrop, wMove, wCut, wOrder, wLines, wEnd, wPatch, wNote, List.length_append, List.length_cons, List.length_nil]; omega), by show 2 ≤ sizeLine; omega, fun L nL => ?_⟩⟩
    rw [show (Str.ofString "patch " ++ Sg (idL P.nm) : Str) = Sg (wPatch ++ idL P.nm) from ext_tl (by simp only [tl_app, t_e, t_pt, t_sg]; rfl),
      show (Str.ofString "note " ++ Sg P.note : Str) = Sg (wNote ++ P.note) from ext_tl (by simp only [tl_app, t_e, t_nt, t_sg]; rfl)]
    have nL0 := same_none s1 nL
    have s2 := same_upd (o := .lst [.str (Sg (wPatch ++ idL P.nm)), .str (Sg (wNote ++ P.note))]) nL0 s1
    have eL : (upd H1 L (.lst [.str (Sg (wPatch ++ idL P.nm)), .str (Sg (wNote ++ P.note))])) L = some (.lst [.str (Sg (wPatch ++ idL P.nm)), .str (Sg (wNote ++ P.note))]) := upd_same
    generalize upd H1 L (.lst [.str (Sg (wPatch ++ idL P.nm)), .str (Sg (wNote ++ P.note))]) = H2 at s2 eL
    have aL : ∀ i, ([wPatch ++ idL P.nm, wNote ++ P.note] ++ ((P.chs.take i).map showC).flatten).length ≤ 2 + 201 * 12 := fun i => by
      have := flat_lines (cs := P.chs.take i) fun x hx => ok.cs x (List.mem_of_mem_take hx)
      rw [List.length_take] at this
      rw [List.length_append]
      show 2 + _ ≤ _
      omega
    refine ⟨_, rfl, pa0, _, _, _, rfl, rfl, SqT.of (s2 _ _ h1), atI_nat (j := 2) rfl, ca, rfl, ⟨_, SqL.of (s2 _ _ h3)⟩, for_list (xs := cs) (fun i σ H' => ∃ (L : Addr) (y2 y3 y4 : Option V), H L = none ∧ σ = [some (.ref pa0), some (.ref L), y2, y3, y4, none, none] ∧ Same H H' ∧ H' L = some (.lst (strV ([wPatch ++ idL P.nm, wNote ++ P.note] ++ ((P.chs.take i).map showC).flatten)))) ⟨L, none, none, none, nL0, rfl, s2, eL⟩ ?_ ?_ ?_⟩
    · rintro i σ H' _ ⟨L, y2, y3, y4, _, rfl, s3, _⟩
      exact SqL.of (s3 _ _ h3)
    · clear s2 eL nL0 nL s1
      rintro i y σ H' hy ⟨L, y2, y3, y4, nL0, rfl, s3, e3⟩
      obtain ⟨c, gc, hc⟩ := each_at h4 hy
      have okc := ok.cs c (List.mem_of_getElem? gc)
      have hc := (ChgAt.here hc).lf (Same.lf s3)
      have la := aL i
      have lA : (strV ([wPatch ++ idL P.nm, wNote ++ P.note] ++ ((P.chs.take i).map showC).flatten)).length < sizeLine := by
        rw [List.length_map]
        omega
      have next : [wPatch ++ idL P.nm, wNote ++ P.note] ++ ((P.chs.take (i + 1)).map showC).flatten = ([wPatch ++ idL P.nm, wNote ++ P.note] ++ ((P.chs.take i).map showC).flatten) ++ showC c := by
        rw [take_snoc gc, List.map_append, List.flatten_append, List.append_assoc]
        simp
      generalize [wPatch ++ idL P.nm, wNote ++ P.note] ++ ((P.chs.take i).map showC).flatten = A at e3 la lA next
      rw [next]
      clear aL next
      have fin : ∀ {H4 : Hp} {z : Str}, Same H' H4 → tailL c = [] → z = Sg (headL c) → Same H (upd H4 L (.lst (strV A ++ [.str z]))) ∧ (upd H4 L (.lst (strV A ++ [.str z]))) L = some (.lst (strV (A ++ showC c))) := fun s4 e1 e2 => by
        refine ⟨same_upd nL0 (same_trans s3 s4), ?_⟩
        rw [upd_same, e2]
        unfold showC strV
        rw [e1, List.map_append]
        rfl
      cases c with
      | add p =>
        obtain ⟨a, pv, rfl, h1, pa, rfl, h2⟩ := hc
        have sl := slash_len okc
        refine ⟨_, rfl, a, _, _, _, rfl, rfl, SqT.of h1, atI_nat (j := 0) rfl, _, rfl, rfl, _, rfl, word_yes ⟨_, rfl, .inl ⟨rfl, _, .inl (.inl e3)⟩, ⟨_, rfl⟩, _, rfl, a, _, _, _, rfl, rfl, SqT.of h1, atI_nat (j := 1) rfl, _, pa, p.map Sg, rfl, rfl, .inr (SqT.of (by rw [List.map_map]; exact h2)), ?_, ?_⟩⟩
        · have := sum_sg 8 (ps := p) fun l hl => ((path_ok okc).2.2 l hl).1
          have := (path_ok okc).2.1
          rw [List.length_map, show (Str.ofString "/").length = 1 by decide +kernel]
          omega
        rw [join_slash]
        refine ⟨_, _, rfl, rfl, (by simp only [len_tl, tl_app, t_e, t_sg, t_add_, t_back_, t_drop, t_move, t_cut, t_order, t_lines, t_add, t_back, t_sp, t_bar, t_end, t_pt, t_nt, t_com, t_dot, t_col, t_mi, wAdd, wBack, wDrop, wMove, wCut, wOrder, wLines, wEnd, wPatch, wNote, List.length_append, List.length_cons, List.length_nil]; omega), L, _, _, rfl, rfl, e3, lA, L, _, _, _, nL0, rfl, fin same_refl rfl ?_⟩
        exact (ext_tl (by simp only [tl_app, t_e, t_sg, t_add_, t_back_, t_drop, t_move, t_cut, t_order, t_lines, t_add, t_back, t_sp, t_bar, t_end, t_pt, t_nt, t_com, t_dot, t_col, t_mi, sg_num]; simp [headL, wordsOf, TR.joinL, wAdd, wBack, wDrop, wMove, wCut, wOrder, wLines, t_sg]))
      | back n =>
        obtain ⟨a, nv, rfl, h1, h2⟩ := hc
        have sl := id_len (NmOk.sm okc)
        refine ⟨_, rfl, a, _, _, _, rfl, rfl, SqT.of h1, atI_nat (j := 0) rfl, _, rfl, rfl, _, rfl, word_no (by decide +kernel) ⟨_, rfl, rfl, _, rfl, word_yes ⟨_, rfl, .inl ⟨rfl, _, .inl (.inl e3)⟩, _, rfl, a, _, _, _, rfl, rfl, SqT.of h1, atI_nat (j := 1) rfl, ?_⟩⟩⟩
        dsimp only [tNil, tCons, tC, List.cons_append, List.nil_append]
        refine ⟨nv, n, rfl, h2, okc, fun H4 s4 => ⟨_, _, rfl, rfl, (by simp only [len_tl, tl_app, t_e, t_sg, t_add_, t_back_, t_drop, t_move, t_cut, t_order, t_lines, t_add, t_back, t_sp, t_bar, t_end, t_pt, t_nt, t_com, t_dot, t_col, t_mi, wAdd, wBack, wDrop, wMove, wCut, wOrder, wLines, wEnd, wPatch, wNote, List.length_append, List.length_cons, List.length_nil]; omega), L, _, _, rfl, rfl, s4 _ _ e3, lA, L, _, _, _, nL0, rfl, fin s4 rfl ?_⟩⟩
        exact (ext_tl (by simp only [tl_app, t_e, t_sg, t_add_, t_back_, t_drop, t_move, t_cut, t_order, t_lines, t_add, t_back, t_sp, t_bar, t_end, t_pt, t_nt, t_com, t_dot, t_col, t_mi, sg_num]; simp [headL, wordsOf, TR.joinL, wAdd, wBack, wDrop, wMove, wCut, wOrder, wLines, t_sg]))
      | drop f xs =>
        obtain ⟨a, fv, xv, rfl, h1, h2, h3⟩ := hc
        refine ⟨_, rfl, a, _, _, _, rfl, rfl, SqT.of h1, atI_nat (j := 0) rfl, _, rfl, rfl, _, rfl, word_no (by decide +kernel) ⟨_, rfl, rfl, _, rfl, word_no (by decide +kernel) ⟨_, rfl, by show 2 ≤ sizeLine; omega, fun u nu => ?_⟩⟩⟩
        refine ⟨u, _, rfl, .inr (SqT.of upd_same), rfl, rfl, _, rfl, in_yes (by decide +kernel) ?_⟩
        have su : Same H' (upd H' u (.tup [.str "drop", .str "cut"])) := same_new nu
        generalize upd H' u (.tup [.str "drop", .str "cut"]) = H3 at su
        refine ⟨_, rfl, .inl ⟨rfl, _, .inl (.inl (su _ _ e3))⟩, ⟨_, rfl⟩, _, rfl, _, rfl, a, _, _, _, rfl, rfl, SqT.of (su _ _ h1), atI_nat (j := 1) rfl, ?_⟩
        dsimp only [tNil, tCons, tC, List.cons_append, List.nil_append]
        refine wv_of (h2.ts (Same.ts su)) okc.1 fun H4 s4 => ⟨_, rfl, a, _, _, _, rfl, rfl, SqT.of (s4 _ _ (su _ _ h1)), atI_nat (j := 2) rfl, ?_⟩
        dsimp only [tNil, tCons, tC, List.cons_append, List.nil_append]
        have s34 := same_trans su s4
        refine ws_of (h3.lf (Same.lf s34)) okc.2 fun H5 s5 => ⟨by show 3 ≤ sizeLine; omega, fun D nD => ?_⟩
        have s6 := same_trans (same_trans s34 s5) (same_new (o := .lst [.str "drop", .str (Sg (vxL f)), .str (Sg (vsL xs))]) nD)
        have eD : (upd H5 D (.lst [.str "drop", .str (Sg (vxL f)), .str (Sg (vsL xs))])) D = some (.lst (((wordsOf (.drop f xs)).map Sg).map V.str)) := by rw [upd_same, ← kw_drop]; rfl
        refine ⟨_, D, _, rfl, rfl, .inl (SqL.of eD), words_sum okc, ?_⟩
        rw [join_sp]
        exact ⟨L, _, _, rfl, rfl, s6 _ _ e3, lA, L, _, _, _, nL0, rfl, fin s6 rfl rfl⟩
      | cut f xs =>
        obtain ⟨a, fv, xv, rfl, h1, h2, h3⟩ := hc
        refine ⟨_, rfl, a, _, _, _, rfl, rfl, SqT.of h1, atI_nat (j := 0) rfl, _, rfl, rfl, _, rfl, word_no (by decide +kernel) ⟨_, rfl, rfl, _, rfl, word_no (by decide +kernel) ⟨_, rfl, by show 2 ≤ sizeLine; omega, fun u nu => ?_⟩⟩⟩
        refine ⟨u, _, rfl, .inr (SqT.of upd_same), rfl, rfl, _, rfl, in_yes (by decide +kernel) ?_⟩
        have su : Same H' (upd H' u (.tup [.str "drop", .str "cut"])) := same_new nu
        generalize upd H' u (.tup [.str "drop", .str "cut"]) = H3 at su
        refine ⟨_, rfl, .inl ⟨rfl, _, .inl (.inl (su _ _ e3))⟩, ⟨_, rfl⟩, _, rfl, _, rfl, a, _, _, _, rfl, rfl, SqT.of (su _ _ h1), atI_nat (j := 1) rfl, ?_⟩
        dsimp only [tNil, tCons, tC, List.cons_append, List.nil_append]
        refine wv_of (h2.ts (Same.ts su)) okc.1 fun H4 s4 => ⟨_, rfl, a, _, _, _, rfl, rfl, SqT.of (s4 _ _ (su _ _ h1)), atI_nat (j := 2) rfl, ?_⟩
        dsimp only [tNil, tCons, tC, List.cons_append, List.nil_append]
        have s34 := same_trans su s4
        refine ws_of (h3.lf (Same.lf s34)) okc.2 fun H5 s5 => ⟨by show 3 ≤ sizeLine; omega, fun D nD => ?_⟩
        have s6 := same_trans (same_trans s34 s5) (same_new (o := .lst [.str "cut", .str (Sg (vxL f)), .str (Sg (vsL xs))]) nD)
        have eD : (upd H5 D (.lst [.str "cut", .str (Sg (vxL f)), .str (Sg (vsL xs))])) D = some (.lst (((wordsOf (.cut f xs)).map Sg).map V.str)) := by rw [upd_same, ← kw_cut]; rfl
        refine ⟨_, D, _, rfl, rfl, .inl (SqL.of eD), words_sum okc, ?_⟩
        rw [join_sp]
        exact ⟨L, _, _, rfl, rfl, s6 _ _ e3, lA, L, _, _, _, nL0, rfl, fin s6 rfl rfl⟩
      | move f p xs =>
        obtain ⟨a, fv, pv, xv, rfl, h1, h2, ⟨pa, rfl, hpa⟩, h3⟩ := hc
        refine ⟨_, rfl, a, _, _, _, rfl, rfl, SqT.of h1, atI_nat (j := 0) rfl, _, rfl, rfl, _, rfl, word_no (by decide +kernel) ⟨_, rfl, rfl, _, rfl, word_no (by decide +kernel) ⟨_, rfl, by show 2 ≤ sizeLine; omega, fun u nu => ?_⟩⟩⟩
        refine ⟨u, _, rfl, .inr (SqT.of upd_same), rfl, rfl, _, rfl, in_no (by decide +kernel) ?_⟩
        have su : Same H' (upd H' u (.tup [.str "drop", .str "cut"])) := same_new nu
        generalize upd H' u (.tup [.str "drop", .str "cut"]) = H3 at su
        refine ⟨_, rfl, rfl, _, rfl, word_yes ⟨_, rfl, .inl ⟨rfl, _, .inl (.inl (su _ _ e3))⟩, ⟨_, rfl⟩, _, rfl, _, rfl, a, _, _, _, rfl, rfl, SqT.of (su _ _ h1), atI_nat (j := 1) rfl, ?_⟩⟩
        dsimp only [tNil, tCons, tC, List.cons_append, List.nil_append]
        refine wv_of (h2.ts (Same.ts su)) okc.1 fun H4 s4 => ⟨⟨_, rfl⟩, _, rfl, a, _, _, _, rfl, rfl, SqT.of (s4 _ _ (su _ _ h1)), atI_nat (j := 2) rfl, _, pa, p.map Sg, rfl, rfl, .inr (SqT.of (by rw [List.map_map]; exact s4 _ _ (su _ _ hpa))), ?_, ?_⟩
        · have := sum_sg 8 (ps := p) fun l hl => ((path_ok okc.2.1).2.2 l hl).1
          have := (path_ok okc.2.1).2.1
          rw [List.length_map, show (Str.ofString "/").length = 1 by decide +kernel]
          omega
        rw [join_slash]
        refine ⟨_, rfl, a, _, _, _, rfl, rfl, SqT.of (s4 _ _ (su _ _ h1)), atI_nat (j := 3) rfl, ?_⟩
        dsimp only [tNil, tCons, tC, List.cons_append, List.nil_append]
        have s34 := same_trans su s4
        refine ws_of (h3.lf (Same.lf s34)) okc.2.2 fun H5 s5 => ⟨by show 4 ≤ sizeLine; omega, fun D nD => ?_⟩
        have s6 := same_trans (same_trans s34 s5) (same_new (o := .lst [.str "move", .str (Sg (vxL f)), .str (Sg (slashL p)), .str (Sg (vsL xs))]) nD)
        have eD : (upd H5 D (.lst [.str "move", .str (Sg (vxL f)), .str (Sg (slashL p)), .str (Sg (vsL xs))])) D = some (.lst (((wordsOf (.move f p xs)).map Sg).map V.str)) := by rw [upd_same, ← kw_move]; rfl
        refine ⟨_, D, _, rfl, rfl, .inl (SqL.of eD), words_sum okc, ?_⟩
        rw [join_sp]
        exact ⟨L, _, _, rfl, rfl, s6 _ _ e3, lA, L, _, _, _, nL0, rfl, fin s6 rfl rfl⟩
      | order f x y =>
        obtain ⟨a, fv, xv, yv, rfl, h1, h2, hx, hy2⟩ := hc
        refine ⟨_, rfl, a, _, _, _, rfl, rfl, SqT.of h1, atI_nat (j := 0) rfl, _, rfl, rfl, _, rfl, word_no (by decide +kernel) ⟨_, rfl, rfl, _, rfl, word_no (by decide +kernel) ⟨_, rfl, by show 2 ≤ sizeLine; omega, fun u nu => ?_⟩⟩⟩
        refine ⟨u, _, rfl, .inr (SqT.of upd_same), rfl, rfl, _, rfl, in_no (by decide +kernel) ?_⟩
        have su : Same H' (upd H' u (.tup [.str "drop", .str "cut"])) := same_new nu
        generalize upd H' u (.tup [.str "drop", .str "cut"]) = H3 at su
        refine ⟨_, rfl, rfl, _, rfl, word_no (by decide +kernel) ⟨_, rfl, rfl, _, rfl, word_yes ⟨_, rfl, .inl ⟨rfl, _, .inl (.inl (su _ _ e3))⟩, ⟨_, rfl⟩, _, rfl, by show 1 ≤ sizeLine; omega, fun l1 nl1 => ?_⟩⟩⟩
        have s4 : Same H3 (upd H3 l1 (.lst [.str "order"])) := same_new nl1
        have el1 : (upd H3 l1 (.lst [.str "order"])) l1 = some (.lst [.str "order"]) := upd_same
        generalize upd H3 l1 (.lst [.str "order"]) = H4 at s4 el1
        have s34 := same_trans su s4
        refine ⟨_, rfl, _, rfl, a, _, rfl, SqT.of (s34 _ _ h1), (fun z => absurd z.1 (show ¬ HT.sIx 4 0 (some 1) = 0 by decide)), fun _ t nt => ?_⟩
        rw [cutV_one]
        have s5 : Same H4 (upd H4 t (.tup [fv, xv, yv])) := same_new nt
        have et : (upd H4 t (.tup [fv, xv, yv])) t = some (.tup [fv, xv, yv]) := upd_same
        generalize upd H4 t (.tup [fv, xv, yv]) = H5 at s5 et
        refine ⟨t, rfl, ⟨_, SqT.of et⟩, fun D nD => ?_⟩
        have hE : EachIs (fun v z => VxAt H' v z ∧ VxOk z) [fv, xv, yv] [f, x, y] := .cons ⟨h2, okc.1⟩ (.cons ⟨hx, okc.2.1⟩ (.cons ⟨hy2, okc.2.2.1⟩ .nil))
        refine lc_tup (xs := [fv, xv, yv]) (fun i H6 => Same H5 H6 ∧ H6 D = some (.lst (strV (([f, x, y].take i).map vxL)))) ⟨same_new nD, upd_same⟩ ?_ ?_ ?_
        · exact fun i H6 _ z => SqT.of (z.1 _ _ et)
        · rintro j w' H6 hw ⟨s6, eD⟩
          obtain ⟨z, gz, hz, okz⟩ := each_at hE hw
          refine ⟨rfl, _, rfl, ?_⟩
          dsimp only [tNil, tCons, tC, List.cons_append, List.nil_append]
          refine wv_of (hz.ts (Same.ts (same_trans (same_trans s34 s5) s6))) okz fun H7 s7 => ⟨_, s7 _ _ eD, ?_, same_upd nD (same_trans s6 s7), ?_⟩
          · rw [List.length_map, List.length_map, List.length_take]
            show min j 3 < _
            omega
          · rw [upd_same, take_snoc gz, List.map_append]
            unfold strV
            rw [List.map_append]
            rfl
        · rintro H6 ⟨s6, eD⟩
          have s46 := same_trans s5 s6
          refine ⟨l1, D, _, _, rfl, rfl, s46 _ _ el1, eD, by show 1 + 3 ≤ _; omega, fun m nm => ?_⟩
          have s36 := same_trans s34 s46
          have s7 := same_trans s36 (same_new (o := .lst ([V.str (Str.ofString "order")] ++ strV (([f, x, y].take 3).map vxL))) nm)
          have em : (upd H6 m (.lst ([V.str (Str.ofString "order")] ++ strV (([f, x, y].take 3).map vxL)))) m = some (.lst (((wordsOf (.order f x y)).map Sg).map V.str)) := by rw [upd_same, ← kw_order]; rfl
          refine ⟨_, m, _, rfl, rfl, .inl (SqL.of em), words_sum okc, ?_⟩
          rw [join_sp]
          exact ⟨L, _, _, rfl, rfl, s7 _ _ e3, lA, L, _, _, _, nL0, rfl, fin s7 rfl rfl⟩
      | lines f xs ys ts =>
        obtain ⟨a, fv, xv, yv, tv, rfl, h1, h2, h3, h4', ⟨b, rfl, nb, h5⟩⟩ := hc
        have l200 := okc.2.2.2.2.1
        have lts : (strV ts).length = ts.length := List.length_map _
        refine ⟨_, rfl, a, _, _, _, rfl, rfl, SqT.of h1, atI_nat (j := 0) rfl, _, rfl, rfl, _, rfl, word_no (by decide +kernel) ⟨_, rfl, rfl, _, rfl, word_no (by decide +kernel) ⟨_, rfl, by show 2 ≤ sizeLine; omega, fun u nu => ?_⟩⟩⟩
        refine ⟨u, _, rfl, .inr (SqT.of upd_same), rfl, rfl, _, rfl, in_no (by decide +kernel) ?_⟩
        have su : Same H' (upd H' u (.tup [.str "drop", .str "cut"])) := same_new nu
        generalize upd H' u (.tup [.str "drop", .str "cut"]) = H3 at su
        refine ⟨_, rfl, rfl, _, rfl, word_no (by decide +kernel) ⟨_, rfl, rfl, _, rfl, word_no (by decide +kernel) ⟨_, rfl, a, _, _, _, rfl, rfl, SqT.of (su _ _ h1), atI_nat (j := 2) rfl, ?_⟩⟩⟩
        dsimp only [tNil, tCons, tC, List.cons_append, List.nil_append]
        refine ws_of (h3.lf (Same.lf su)) okc.2.1 fun H4 s4 => ⟨_, rfl, a, _, _, _, rfl, rfl, SqT.of (s4 _ _ (su _ _ h1)), atI_nat (j := 3) rfl, ?_⟩
        dsimp only [tNil, tCons, tC, List.cons_append, List.nil_append]
        have s34 := same_trans su s4
        refine ws_of (h4'.lf (Same.lf s34)) okc.2.2.1 fun H5 s5 => ⟨by show 2 ≤ sizeLine; omega, fun B nB => ?_⟩
        have s6 := same_trans (same_trans s34 s5) (same_new (o := .lst [.str (Sg (vsL xs)), .str (Sg (vsL ys))]) nB)
        have eB : (upd H5 B (.lst [.str (Sg (vsL xs)), .str (Sg (vsL ys))])) B = some (.lst [.str (Sg (vsL xs)), .str (Sg (vsL ys))]) := upd_same
        generalize upd H5 B (.lst [.str (Sg (vsL xs)), .str (Sg (vsL ys))]) = H6 at s6 eB
        refine ⟨_, rfl, .inl ⟨rfl, _, .inl (.inl (s6 _ _ e3))⟩, ⟨_, rfl⟩, _, rfl, _, rfl, a, _, _, _, rfl, rfl, SqT.of (s6 _ _ h1), atI_nat (j := 1) rfl, ?_⟩
        dsimp only [tNil, tCons, tC, List.cons_append, List.nil_append]
        refine wv_of (h2.ts (Same.ts s6)) okc.1 fun H7 s7 => ⟨by show 2 ≤ sizeLine; omega, fun D nD => ⟨_, rfl, ?_⟩⟩
        have s8 := same_trans s7 (same_new (o := .lst [.str "lines", .str (Sg (vxL f))]) nD)
        have eD : (upd H7 D (.lst [.str "lines", .str (Sg (vxL f))])) D = some (.lst [.str "lines", .str (Sg (vxL f))]) := upd_same
        generalize upd H7 D (.lst [.str "lines", .str (Sg (vxL f))]) = H8 at s8 eD
        refine ⟨D, B, _, _, rfl, rfl, eD, s8 _ _ eB, by show 2 + 2 ≤ _; omega, fun G nG => ?_⟩
        have s9 : Same H8 (upd H8 G (.lst ([.str "lines", .str (Sg (vxL f))] ++ [.str (Sg (vsL xs)), .str (Sg (vsL ys))]))) := same_new nG
        have eG : (upd H8 G (.lst ([.str "lines", .str (Sg (vxL f))] ++ [.str (Sg (vsL xs)), .str (Sg (vsL ys))]))) G = some (.lst [.str "lines", .str (Sg (vxL f)), .str (Sg (vsL xs)), .str (Sg (vsL ys))]) := upd_same
        generalize upd H8 G (.lst ([.str "lines", .str (Sg (vxL f))] ++ [.str (Sg (vsL xs)), .str (Sg (vsL ys))])) = H9 at s9 eG
        have s69 := same_trans (same_trans s6 s8) s9
        refine ⟨_, rfl, a, _, _, _, rfl, rfl, SqT.of (s69 _ _ h1), atI_nat (j := 4) rfl, b, _, rfl, .inl (SqL.of (s69 _ _ h5)), _, rfl, by rw [lts]; exact num_small (by omega), by show 1 ≤ sizeLine; omega, fun J nJ => ?_⟩
        rw [lts, sg_num]
        have s10 : Same H9 (upd H9 J (.lst [.str (Sg (numL ts.length))])) := same_new nJ
        have eJ : (upd H9 J (.lst [.str (Sg (numL ts.length))])) J = some (.lst [.str (Sg (numL ts.length))]) := upd_same
        generalize upd H9 J (.lst [.str (Sg (numL ts.length))]) = H10 at s10 eJ
        refine ⟨G, J, _, _, rfl, rfl, s10 _ _ eG, eJ, by show 4 + 1 ≤ _; omega, fun m nm => ?_⟩
        have s11 := same_trans (same_trans s69 s10) (same_new (o := .lst ([.str "lines", .str (Sg (vxL f)), .str (Sg (vsL xs)), .str (Sg (vsL ys))] ++ [.str (Sg (numL ts.length))])) nm)
        have em : (upd H10 m (.lst ([.str "lines", .str (Sg (vxL f)), .str (Sg (vsL xs)), .str (Sg (vsL ys))] ++ [.str (Sg (numL ts.length))]))) m = some (.lst (((wordsOf (.lines f xs ys ts)).map Sg).map V.str)) := by rw [upd_same, ← kw_lines]; rfl
        generalize upd H10 m (.lst ([.str "lines", .str (Sg (vxL f)), .str (Sg (vsL xs)), .str (Sg (vsL ys))] ++ [.str (Sg (numL ts.length))])) = H11 at s11 em
        refine ⟨_, m, _, rfl, rfl, .inl (SqL.of em), words_sum okc, ?_⟩
        rw [join_sp, show TR.joinL 32 (wordsOf (.lines f xs ys ts)) = headL (.lines f xs ys ts) from rfl]
        refine ⟨L, _, _, rfl, rfl, s11 _ _ e3, lA, _, rfl, ?_⟩
        have s12 : Same H (upd H11 L (.lst (strV A ++ [.str (Sg (headL (.lines f xs ys ts)))]))) := same_upd nL0 (same_trans s3 s11)
        have lfL : LF (fun b => b ≠ L) H11 (upd H11 L (.lst (strV A ++ [.str (Sg (headL (.lines f xs ys ts)))]))) := lf_upd (s11 _ _ e3) fun z => z rfl
        have e12 : (upd H11 L (.lst (strV A ++ [.str (Sg (headL (.lines f xs ys ts)))]))) L = some (.lst (strV A ++ [.str (Sg (headL (.lines f xs ys ts)))])) := upd_same
        have h112 := lfL.ts _ _ (s11 _ _ h1)
        have bL : b ≠ L := fun z => nb (by rw [z]; exact nL0)
        have h512 := lfL.ls _ _ bL (s11 _ _ h5)
        generalize upd H11 L (.lst (strV A ++ [.str (Sg (headL (.lines f xs ys ts)))])) = H12 at s12 e12 h112 h512
        refine ⟨_, rfl, a, _, _, _, rfl, rfl, SqT.of h112, atI_nat (j := 4) rfl, b, rfl, ⟨_, SqL.of h512⟩, fun M nM => ?_⟩
        refine lc_list (xs := strV ts) (fun i H' => Same H12 H' ∧ H' M = some (.lst (strV ((ts.take i).map fun t => 124 :: t)))) ⟨same_new nM, upd_same⟩ ?_ ?_ ?_
        · rintro i H' _ ⟨s5, _⟩
          exact SqL.of (s5 _ _ h512)
        · rintro i y H5 hy ⟨s5, eD⟩
          obtain ⟨t, gt, rfl⟩ := map_get hy
          have okt := okc.2.2.2.2.2 t (List.mem_of_getElem? gt)
          have lt := okt.1
          refine ⟨rfl, _, rfl, _, _, rfl, rfl, (by simp only [len_tl, tl_app, t_e, t_sg, t_add_, t_back_, t_drop, t_move, t_cut, t_order, t_lines, t_add, t_back, t_sp, t_bar, t_end, t_pt, t_nt, t_com, t_dot, t_col, t_mi, wAdd, wBack, wDrop, wMove, wCut, wOrder, wLines, wEnd, wPatch, wNote, List.length_append, List.length_cons, List.length_nil]; omega), _, eD, ?_, same_upd nM s5, ?_⟩
          · rw [List.length_map, List.length_map, List.length_take]
            omega
          · rw [upd_same, take_snoc gt, List.map_append]
            unfold strV
            rw [List.map_append]
            exact congrArg (fun z => some (HO.lst (_ ++ [V.str z]))) (ext_tl (by simp only [tl_app, t_e, t_sg, t_add_, t_back_, t_drop, t_move, t_cut, t_order, t_lines, t_add, t_back, t_sp, t_bar, t_end, t_pt, t_nt, t_com, t_dot, t_col, t_mi, sg_num]; simp [headL, wordsOf, TR.joinL, wAdd, wBack, wDrop, wMove, wCut, wOrder, wLines, t_sg]))
        · rintro H5 ⟨s5, eD⟩
          rw [lts, List.take_length] at eD
          refine ⟨L, M, _, _, rfl, rfl, s5 _ _ e12, eD, ?_, fun r nr => ?_⟩
          · rw [List.length_map, List.length_map, List.length_append, List.length_map]
            show _ + 1 + _ ≤ _
            omega
          have s13 := same_trans s12 s5
          refine ⟨r, _, _, _, same_none s13 nr, rfl, same_trans s13 (same_new nr), ?_⟩
          rw [upd_same]
          unfold showC tailL strV
          simp
    · rintro σ H' ⟨L, y2, y3, y4, nL0, rfl, s3, e3⟩
      rw [lc, List.take_length] at e3
      have la := flat_lines ok.cs
      refine ⟨_, rfl, by show 1 ≤ sizeLine; omega, fun e ne => ?_⟩
      have s4 := same_trans s3 (same_new (o := .lst [.str (Str.ofString "end")]) ne)
      refine ⟨L, e, _, _, rfl, rfl, same_new ne _ _ e3, upd_same, ?_, fun r nr => q _ r (same_trans s4 (same_new nr)) (same_none s4 nr) ?_⟩
      · rw [List.length_map, List.length_append]
        show 2 + _ + 1 ≤ _
        omega
      · rw [upd_same, end_sg]
        unfold showP
        rw [showCs_flat]
        unfold strV
        simp
end
end K20
/-! a list comprehension whose element may let an exception out -/
namespace GX
open PySem PySem.Spec PyProof.Rows L2
theorem sb_get {C b : Addr} {h h' : Heap} {o : Obj} (sb : Heap.SameBut C h h') (ne : b ≠ C) (e : h.get? b = some o) : h'.get? b = some o := (sb.2 b ne).trans e
section
variable {X : Cx} {W : WX} {E : XK} {scope : Scope} {ce : Env} {fp : List Addr} {s3 s0 s' : Shared} {H3 H : Hp} {pins pins' : List (Addr × Obj)} {σ σ' : L2.St} {xe : Value → Shared → Prop} {u : Value}
/-- the state of the def without the exception and without the block -/
theorem blk_ground {a : Addr} {B : Heap} {H' : Hp} {Z : Obj → Prop} (I3 : Inv X pins σ H3 s3) (hC : s3.heap.get? ce.locals = none)
    (hfp : ∀ b ∈ fp, (b ∈ X.ex ∨ X.s_0.heap.objs.size ≤ b) ∧ b ≠ X.env.locals ∧ (∀ x c, X.env.cells.lookup x = some c → c ≠ b) ∧ ∀ p ∈ X.pn ++ pins, p.1 ≠ b)
    (Ib : Inv ((X.blk s3 H3 scope ce fp).tr [] xe) pins' σ' H s0) (st : B.StaysIn s'.heap) (hok : HOk X.prog X.w H' B) (ub : UB (frs X.stack) H H' s0.heap B s'.heap) (os : s'.os = s0.os) (ag : AllBare s'.gens) :
    ∃ sI : Shared, Inv X pins σ H' sI ∧ (∀ b o, sI.heap.get? b = some o → s'.heap.get? b = some o ∧ b ≠ ce.locals) ∧ (∀ b o, sI.heap.get? b = some o → b ∉ frs X.stack → (PySem.W.hideAll B [ce.locals]).get? b = some o) ∧ s'.os = sI.os := by
  obtain ⟨G, gIn, gOut⟩ := restrict s'.heap fun b => decide (b ≠ ce.locals) && ((B.get? b).isSome || decide (b ∈ frs X.stack))
  have hCs : ce.locals ∉ frs X.stack := fun hm => by
    obtain ⟨_, o, e, _⟩ := I3.stack.mem hm
    rw [hC] at e
    cases e
  have gB : ∀ b o, b ≠ ce.locals → B.get? b = some o → G.get? b = some o := fun b o n e => (gIn b (by simp [n, e])).trans (st b o e)
  have gF : ∀ b, b ∈ frs X.stack → G.get? b = s'.heap.get? b := fun b hb => gIn b (by simp [hb]; exact fun z => hCs (z ▸ hb))
  have og : ∀ b o, G.get? b = some o → s'.heap.get? b = some o ∧ b ≠ ce.locals ∧ ((B.get? b).isSome = true ∨ b ∈ frs X.stack) := fun b o e => by
    cases q : (decide (b ≠ ce.locals) && ((B.get? b).isSome || decide (b ∈ frs X.stack))) with
    | false =>
      rw [gOut b q] at e
      cases e
    | true =>
      rw [gIn b q] at e
      rw [Bool.and_eq_true, Bool.or_eq_true, decide_eq_true_eq, decide_eq_true_eq] at q
      exact ⟨e, q⟩
  have nC : ∀ {b : Addr} {o : Obj}, s3.heap.get? b = some o → b ≠ ce.locals := fun e z => by
    rw [z, hC] at e
    cases e
  have ba := Ib.base
  have nHC : H' ce.locals = none := by
    obtain ⟨m, ⟨o, _, _, ho, _⟩, _⟩ := Ib.loc
    exact ub.free _ _ ho Ib.free
  refine ⟨{ s' with heap := G }, I3.call' (ch := fp) (H' := H') (os.trans Ib.os) ?_ ?_ ag hfp, fun b o e => ⟨(og b o e).1, (og b o e).2.1⟩, fun b o e hb => ?_, rfl⟩
  · refine ⟨fun b o e n hb hx => ?_, fun b o e n hb hx => ?_, fun b o e n hx => ?_, fun b o e hx => ?_, fun b xs e => ub.tups _ _ (ba.tups _ _ e), fun b o xs e => ub.frzs _ _ _ (ba.frzs _ _ _ e), fun b ps e => ?_⟩
    · exact gB b o (nC e) (ub.keep b o (ba.keep b o e n hb hx) (ba.free b o e n hx) hb)
    · obtain ⟨sl, e1⟩ := ba.slot b o e n hb hx
      obtain ⟨sl2, e2⟩ := ub.slot b _ e1 hb
      exact ⟨sl2, (gF b hb).trans e2⟩
    · have e1 := ba.free b o e n hx
      obtain ⟨o1, q1⟩ := ba.there b o e hx
      exact ub.free b o1 q1 e1
    · obtain ⟨o1, q1⟩ := ba.there b o e hx
      by_cases hb : b ∈ frs X.stack
      · obtain ⟨sl2, e2⟩ := ub.slot b _ q1 hb
        exact ⟨_, (gF b hb).trans e2⟩
      · obtain ⟨o2, q2⟩ := ub.there b o1 q1 hb
        exact ⟨o2, gB b o2 (nC e) q2⟩
    · obtain ⟨m1, e1⟩ := ba.tbls b ps e
      obtain ⟨m2, e2⟩ := ub.tbls b _ e1
      exact ⟨m1 ++ m2, by rw [← Array.append_assoc]; exact e2⟩
  · exact fun b o q => (hok b o q).stay (fun c v hc r => gB c v (fun z => by
      rcases hc with hc | hc
      · rw [← hc, z, nHC] at q
        cases q
      · rw [z, nHC] at hc
        cases hc) r) (fun _ r => r) fun _ _ r => r
  · obtain ⟨e1, n1, hh⟩ := og b o e
    rcases hh with hh | hh
    · obtain ⟨o', q⟩ := Option.isSome_iff_exists.mp hh
      have z := st b o' q
      rw [e1] at z
      cases z
      exact PySem.W.hideAll_get _ q (by simp [n1])
    · exact absurd hh hb
/-- out of a call in a block: noted in the def's frame, let go of the block, in the def's air -/
theorem blk_flight (tk : Takes X W) (hW : ∀ cls d H, E cls d H → W cls d σ H) (hs : X.stack = X.env :: X.outer) (hf : X.env.frame = some X.env.locals) (hcf : ce.frame = X.env.frame)
    (I3 : Inv X pins σ H3 s3) (hC : s3.heap.get? ce.locals = none)
    (hfp : ∀ b ∈ fp, (b ∈ X.ex ∨ X.s_0.heap.objs.size ≤ b) ∧ b ≠ X.env.locals ∧ (∀ x c, X.env.cells.lookup x = some c → c ≠ b) ∧ ∀ p ∈ X.pn ++ pins, p.1 ≠ b)
    (Ib : Inv ((X.blk s3 H3 scope ce fp).tr [] xe) pins' σ' H s0) (c : L2.CX X.prog X.w X.stack H s0 E u s') :
    notedBy (model X.prog X.w) X.A ce (CompFails (model X.prog X.w) X.A X.xe ce) u s' := by
  obtain ⟨a, B, H', cls, d, rfl, fl, hok, ub, na, os, ag, hE⟩ := c
  obtain ⟨sI, II, gI, nb, osI⟩ := blk_ground (Z := Zc cls d) (a := a) I3 hC hfp Ib fl.1 hok ub os ag
  have hfr : X.A.frames = some (X.env :: X.outer) := I3.ok.frames.trans (congrArg some hs)
  have hCs : ce.locals ∉ frs X.stack := fun hm => by
    obtain ⟨_, o, e, _⟩ := I3.stack.mem hm
    rw [hC] at e
    cases e
  obtain ⟨m, ⟨oC, es, ep, hoC, rC⟩, _⟩ := Ib.loc
  have bC : B.get? ce.locals = some oC := ub.keep _ _ hoC Ib.free hCs
  rw [hs] at fl
  show wpAny _ _ (noteFrame (.ref a) ce) _ _ _
  rw [noteFrame_env _ hcf]
  refine HandSPX.looks_onZ Zc.steady hfr hf fl fun h1 ⟨b1, b0, f1, oe, vs, T, oT, ts, he, hz, hd, hv, hnT, hTe, hT, hdT, h3⟩ up1 => ⟨m, ⟨oC, es, ep, b1 _ _ bC, rC⟩, fun h2 m2 hn2 sb => ?_⟩
  have nB : ∀ b o, (PySem.W.hideAll B [ce.locals]).get? b = some o → b ≠ ce.locals ∧ B.get? b = some o := fun b o e => by
    refine ⟨fun z => ?_, PySem.W.of_hideAll _ e⟩
    rw [PySem.W.hideAll_none _ (by simp [z])] at e
    cases e
  have no : ∀ b, B.get? b = none → (PySem.W.hideAll B [ce.locals]).get? b = none := fun b n => by
    cases q : (PySem.W.hideAll B [ce.locals]).get? b with
    | none => rfl
    | some o =>
      rw [(nB b o q).2] at n
      cases n
  have neC : ∀ b, B.get? b = none → b ≠ ce.locals := fun b n z => by
    rw [z, bC] at n
    cases n
  have f2 : h2.FunFrames (PySem.W.hideAll B [ce.locals]) (X.env :: X.outer) := (funFrames_none f1 fun L hL => no L (f1.mem hL).1).sameBut sb hn2
  have hh2 : HandSPX.HeldZ (PySem.W.hideAll B [ce.locals]) (X.env :: X.outer) a (Zc cls d) X.env.locals h2 :=
    ⟨fun b o e => sb_get sb (nB b o e).1 (b1 b o (nB b o e).2), no a b0, f2, oe, vs, T, oT, ts, sb_get sb (neC a b0) he, hz, hd, hv, no T hnT, hTe, sb_get sb (neC T hnT) hT, hdT, h3⟩
  refine wpAny_bind (wpAny_field (sb_get sb (neC a b0) he) hd hv (wpAny_bind ?_))
  rw [hcf, hf]
  refine HandSPX.setFlight_onZ hh2 fun h3' hh3 up3 => wpAny_throw (tk _ _ ⟨a, _, sI, pins, σ, H', cls, d, rfl, II, nb, fun b o e nf => ?_, .inr (.inr ?_), na, osI, ag, hW _ _ _ hE⟩)
  · obtain ⟨e1, n1⟩ := gI b o e
    obtain ⟨sl, e2⟩ := up1 b o e1 nf
    obtain ⟨sl3, e3⟩ := up3 b _ (sb_get sb n1 e2) nf
    exact ⟨sl3, e3⟩
  · rw [hs]
    exact hh3
end
/-- [elt for target in iter], the element may let an exception out: ex tells what the block asks of it -/
def tLcX (wi : TI) (g : TG) (te : TE) (vs : List Nat) : TE := fun σ H Q => wi σ H fun J H1 => ∀ D, H1 D = none → ∃ Wd : Nat → Nat → Hp → Prop, (∃ m, Wd 0 m (upd H1 D (.lst []))) ∧ ∀ i m H, Wd i m H →
  (J.stop i H ∧ Q (.ref D) H) ∨ (J.go i H ∧ ∃ Nx : Hp → Prop, (∀ H', Nx H' → ∃ m', m' < m ∧ Wd (i + 1) m' H') ∧ ∀ x H', J.yld i H x H' → g x (wipe σ vs) H' fun σ2 H2 => wipe σ2 vs = wipe σ vs ∧
    te σ2 H2 fun y H4 => ∃ acc, H4 D = some (.lst acc) ∧ acc.length < sizeLine ∧ Nx (upd H4 D (.lst (acc ++ [y]))))
/-- the context of a block whose element may let an exception out -/
abbrev xblk (X : Cx) (s : Shared) (H : Hp) (scope : Scope) (ce : Env) (fp : List Addr) (E : XK) : Cx := (X.blk s H scope ce fp).tr [] fun u s' =>
  ∃ pins σ H0 s0, Inv ((X.blk s H scope ce fp).tr [] fun _ _ => False) pins σ H0 s0 ∧ L2.CX X.prog X.w X.stack H0 s0 E u s'
theorem xb_of {X : Cx} {s s0 : Shared} {H H0 : Hp} {scope : Scope} {ce : Env} {fp : List Addr} {xe xe' : Value → Shared → Prop} {pins : List (Addr × Obj)} {σ : L2.St} (I : Inv ((X.blk s H scope ce fp).tr [] xe) pins σ H0 s0) : Inv ((X.blk s H scope ce fp).tr [] xe') pins σ H0 s0 :=
  ⟨(I.ok.ofTry).toTry _ _, I.os, I.bare, I.base, I.loc, I.cell, I.free, I.freeC, I.pin, I.hok, I.len⟩
theorem xb_passes {X : Cx} {s : Shared} {H : Hp} {scope : Scope} {ce : Env} {fp : List Addr} {E : XK} (σ : L2.St) : PassesAt (L2.CX X.prog X.w) (xblk X s H scope ce fp E) σ E :=
  fun pins H0 s0 u s' I c => ⟨pins, σ, H0, s0, xb_of I, c⟩
section
variable {X : Cx}
theorem pe_lcX {W : WX} {E : XK} {elt tg iter : Expr} {scope : Scope} {own : List (Str × Nat)} {pos : Pos} {wi : TI} {g : TG} {te : TE} (hc : X.calm = true) (hN : X.N.Nodup) (hi : PI X tg iter wi) (ok : BlkOk X.N X.env.scope scope own)
    (tk : Takes X W) (hW : ∀ cls d σ H, E cls d H → W cls d σ H) (hs : X.stack = X.env :: X.outer) (hf : X.env.frame = some X.env.locals)
    (hg : ∀ (s : Shared) (H : Hp) (C : Addr) (cl : List (Str × Addr)) (fp : List Addr), PG (xblk X s H scope (compEnvC scope cl C X.env) fp E) tg g)
    (he : ∀ (s : Shared) (H : Hp) (C : Addr) (cl : List (Str × Addr)) (fp : List Addr), PE (xblk X s H scope (compEnvC scope cl C X.env) fp E) elt te) (hfs : ∀ x, foldedSetIterable iter X.env x = pure x := by intro _; rfl) :
    PE X (.ListComp elt [⟨tg, iter, [], 0⟩] scope pos) (tLcX wi g te (own.map (·.2))) := by
  refine ⟨fun pins s σ H Q I h => ?_⟩
  rw [eval_ListComp]
  have hfree : ∀ y ∈ scope.names, y.2 = .free → ∃ c, X.env.cells.lookup y.1 = some c := fun y hy e => I.ok.has _ (ok.free y hy e).symm.symm
  refine comprehension_at (use := none) rfl hfs (closure_ok hfree) ok.kind (fun y hy e => (ok.uniq y hy).trans (congrArg some e)) (thn (hi.run pins s σ H _ I h) fun xv s1 hx => thn hx ?_)
  rintro itv s2 ⟨it, fp, tn, J, H2, rfl, I2, T, st2, f2, q⟩
  refine wpAny_newObj_type (newEnv_comp ?_) (by show 0 ≤ sizeLine; decide)
  obtain ⟨D, hD⟩ : ∃ D, s2.heap.objs.size = D := ⟨_, rfl⟩
  have hDn : H2 D = none := I2.hok.fresh (Nat.le_of_eq hD)
  obtain ⟨Wd, ⟨m0, w0⟩, turn⟩ := q D hDn
  rw [hD]
  obtain ⟨s3, h3⟩ : ∃ s3 : Shared, ({ s2 with heap := s2.heap.push { cls := .type "list", data := .seq ([] : List Value).toArray } } : Shared) = s3 := ⟨_, rfl⟩
  rw [h3]
  have hp3 : s3.heap = s2.heap.push { cls := .type "list", data := .seq ([] : List Value).toArray } := by rw [← h3]
  have I3 : Inv X pins σ (upd H2 D (.lst [])) s3 := by
    rw [← h3]
    exact I2.laid (t' := s2.toks) (fun b o e => Heap.get?_push_of_some _ e) (Nat.le_of_eq hD) ⟨Nat.zero_le _, [], 0, .nil, by rw [← hD]; exact Heap.get?_push_size _ rfl⟩
  have lt2 : ∀ b ∈ fp, b < s2.heap.objs.size := fun b hb => Exists.elim (T.obj _ _ st2 b hb) fun _ z => Heap.lt_size z.1
  have old3 : ∀ b o, s2.heap.get? b = some o → s3.heap.get? b = some o := fun b o e => hp3 ▸ Heap.get?_push_of_some _ e
  have f3 : ∀ b ∈ fp, FpOk X pins (upd H2 D (.lst [])) b ∧ b < s3.heap.objs.size := fun b hb =>
    ⟨⟨(upd_ne (fun z => absurd (lt2 b hb) (by rw [z, hD]; exact Nat.lt_irrefl _))).trans (f2 b hb).1, (f2 b hb).2⟩, by rw [hp3, Heap.size_push]; exact Nat.lt_succ_of_lt (lt2 b hb)⟩
  have start := block_start I3 ok hN f3
  generalize hH3 : upd H2 D (.lst []) = H3 at I3 start f3 w0
  have pg := hg s3 H3 s3.heap.objs.size (cellsFrom (s3.heap.objs.size + 1) scope.names (cloFrom X.env.cells scope.names [])) fp
  have pe := he s3 H3 s3.heap.objs.size (cellsFrom (s3.heap.objs.size + 1) scope.names (cloFrom X.env.cells scope.names [])) fp
  show codeAny _ _ (.compStart (.ListComp elt [⟨tg, iter, [], 0⟩] scope pos) 0 (.ref it) (.ref D) (compEnvC scope (cellsFrom (s3.heap.objs.size + 1) scope.names (cloFrom X.env.cells scope.names [])) s3.heap.objs.size X.env))
    (compEnds (model X.prog X.w) X.A X.xe none (EP X pins σ Q) (.ref D) (compEnvC scope (cellsFrom (s3.heap.objs.size + 1) scope.names (cloFrom X.env.cells scope.names [])) s3.heap.objs.size X.env)) { s3 with heap := pushCells (s3.heap.push { cls := .type "dict", data := .dict #[] }) scope.names }
  obtain ⟨ce, hce⟩ : ∃ ce, compEnvC scope (cellsFrom (s3.heap.objs.size + 1) scope.names (cloFrom X.env.cells scope.names [])) s3.heap.objs.size X.env = ce := ⟨_, rfl⟩
  rw [hce] at start pg pe ⊢
  have cL : ce.locals = s3.heap.objs.size := hce ▸ rfl
  have cF : ce.frame = X.env.frame := hce ▸ rfl
  have start : Inv (xblk X s3 H3 scope ce fp E) [] (wipe σ (own.map (·.2))) H3 { s3 with heap := pushCells (s3.heap.push { cls := .type "dict", data := .dict #[] }) scope.names } :=
    ⟨start.ok.toTry _ _, start.os, start.bare, start.base, start.loc, start.cell, start.free, start.freeC, start.pin, start.hok, start.len⟩
  have st4 : tn 0 (pushCells (s3.heap.push { cls := .type "dict", data := .dict #[] }) scope.names) := T.keep _ _ _ st2 fun b _ o e => pushCells_keeps _ _ _ _ (Heap.get?_push_of_some _ (old3 b o e))
  obtain ⟨s4, h4⟩ : ∃ s4 : Shared, ({ s3 with heap := pushCells (s3.heap.push { cls := .type "dict", data := .dict #[] }) scope.names } : Shared) = s4 := ⟨_, rfl⟩
  rw [h4] at start ⊢
  have st4 : tn 0 s4.heap := h4 ▸ st4
  have chs : ∀ b ∈ fp, (b ∈ X.ex ∨ X.s_0.heap.objs.size ≤ b) ∧ b ≠ X.env.locals ∧ (∀ x c, X.env.cells.lookup x = some c → c ≠ b) ∧ ∀ p ∈ X.pn ++ pins, p.1 ≠ b := fun b hb =>
    have z := (f3 b hb).1
    ⟨z.2.2.2.1, z.2.1, z.2.2.2.2.1, z.2.2.2.2.2⟩
  have hC3 : s3.heap.get? ce.locals = none := by
    cases e : s3.heap.get? ce.locals with
    | none => rfl
    | some o => exact absurd (Heap.lt_size e) (by rw [cL]; exact Nat.lt_irrefl _)
  have stat : ∀ {σ' : L2.St} {H' : Hp} {s' : Shared}, Inv (xblk X s3 H3 scope ce fp E) [] σ' H' s' → (∀ b ∈ fp, H' b = none) → ∀ b ∈ fp, FpOk (xblk X s3 H3 scope ce fp E) [] H' b := fun I' hn b hb =>
    ⟨hn b hb, (I'.ok.exf b hb).1, I'.ok.exfs b hb, .inl hb, (I'.ok.exf b hb).2, fun p hp => (List.not_mem_nil hp).elim⟩
  have fly : ∀ u s', (xblk X s3 H3 scope ce fp E).xe u s' → notedBy (model X.prog X.w) X.A ce (fun e s' => compEnds (model X.prog X.w) X.A X.xe none (EP X pins σ Q) (.ref D) ce (.error e) s') u s' := fun u s' ⟨pins', σ', H0, s0, Ib, c⟩ =>
    blk_flight tk (fun cls d H => hW cls d σ H) hs hf cF I3 hC3 chs Ib c
  have loop : codeAny (model X.prog X.w) X.A (.compLoop (.ListComp elt [⟨tg, iter, [], 0⟩] scope pos) 0 (.ref it) (.ref D) ce) (compEnds (model X.prog X.w) X.A X.xe none (EP X pins σ Q) (.ref D) ce) s4 := by
    refine compLoop_any (fun n s' => ∃ i H', Inv (xblk X s3 H3 scope ce fp E) [] (wipe σ (own.map (·.2))) H' s' ∧ tn i s'.heap ∧ (∀ b ∈ fp, H' b = none) ∧ Wd i n H') ?_ m0 ⟨0, H3, start, st4, fun b hb => (f3 b hb).1.1, w0⟩
    rintro n s5 ⟨i, H5, I5, st5, n5, w5⟩
    rcases turn i n H5 w5 with ⟨stop, qq⟩ | ⟨go, Nx, hNx, step⟩
    · refine thnF (T.done (xblk X s3 H3 scope ce fp E) rfl rfl rfl hc i [] s5 _ H5 (fun _ _ => False) I5 (stat I5 n5) st5 stop) ?_
      rintro r s6 ⟨rfl, I6⟩
      have I7 : Inv X pins σ H5 s6 := I3.call' (ch := fp) I6.os I6.base I6.hok I6.bare chs
      obtain ⟨m, hn, _⟩ := I6.loc
      have hnC : H5 ce.locals = none := I6.free
      have fC : FpOk X pins H5 ce.locals := I3.fpOk (Nat.le_of_eq cL.symm) hnC
      exact ⟨m, hn, fun h' sb => ⟨.ref D, H5, I7.turned (t' := s6.toks) (fun b o hb e => sb_get sb hb e) fC.1 fC.2.1 fC.2.2.2.1 fC.2.2.2.2.1 fC.2.2.2.2.2, rfl, qq⟩⟩
    · refine thnF (T.item (xblk X s3 H3 scope ce fp E) rfl rfl rfl hc i [] s5 _ H5 (fun _ _ => False) I5 (stat I5 n5) st5 go) ?_
      rintro r s6 ⟨u, rfl, h6⟩
      refine thnF h6 ?_
      rintro _ s7 ⟨x, H7, I7, r7, y7, st7, n7⟩
      have J7 := I7.pinned (stat I7 n7) (T.obj _ _ st7)
      refine wpAny_mono (pg.run _ s7 _ H7 x u _ J7 r7 (step x H7 y7)) ?_ fly
      rintro _ s8 ⟨σ8, H8, I8, hw8, q8⟩
      refine wpAny_tests_nil ?_
      show wpAny _ _ (eval elt ce) _ _ s8
      refine wpAny_mono (pe.run _ s8 σ8 H8 _ I8 q8) ?_ fly
      rintro z s10 ⟨yv, H10, I10, r10, acc, hD10, hz10, nx⟩
      refine app_ok (X := xblk X s3 H3 scope ce fp E) I10 hD10 hz10 r10 fun s11 I11 => ?_
      obtain ⟨m', hm, w'⟩ := hNx _ nx
      have pin11 : ∀ b ∈ fp, ∀ o, s7.heap.get? b = some o → s11.heap.get? b = some o ∧ (upd H10 D (.lst (acc ++ [yv]))) b = none := fun b hb o e =>
        have z := I11.pin (b, o) (List.mem_append_right _ (List.mem_append_right _ (mem_pinsAt hb e)))
        ⟨z.1, z.2.1⟩
      refine ⟨m', hm, i + 1, _, I11.unpinned.weak (pins := []) (by rw [wipe_length, ← wipe_length σ8 (own.map (·.2)), hw8, wipe_length]) (fun j v e => (wipe_some (hw8 ▸ e)).1), T.keep _ _ _ st7 fun b hb o e => (pin11 b hb o e).1, fun b hb => ?_, w'⟩
      obtain ⟨o, e, _⟩ := T.obj _ _ st7 b hb
      exact (pin11 b hb o e).2
  exact codeAny_compStart_list loop (T.self X.A 0 _ _ _ st4 loop)
end
end GX
namespace PySem
namespace TextX
open PySem.W PySem.Calls PyProof.Rows PySem.HandSPX
/-! ### the text of __init__ -/
def iA (p1 p2 : Pos) : Arguments := { posonlyargs := [], args := [{ arg := "self", annotation := none, pos := p1 }, { arg := "at", annotation := none, pos := p2 }], vararg := none, kwonlyargs := [], kw_defaults := [], kwarg := none, defaults := [] }
def iB (q1 q2 q3 q4 : Pos) : List Stmt := [.Assign [.Attribute (.Name "self" q1) "at" q2] (.Name "at" q3) q4]
def iS : Scope := { kind := .function, names := [(PySem.Str.ofString "self", .local), (PySem.Str.ofString "at", .local)], isGenerator := false, isCoroutine := false, more := [] }
/-- what the written part says of Low, at C, and of its __init__, at fI -/
structure TextTxt (K : Frag) (mg : Str → Option Value) (C fI : Addr) : Prop where
  gC : mg "WrittenError" = some (.ref C)
  cls : ∃ nm q N bs bm sn sub ab col dd k0 k1 k2 k3 k5, K.lookup C = some (excClassObj nm q C N bs bm true sn sub ab col dd k0 k1 k2 k3 k5 "ValueError.__new__") ∧ refsVE bm = true
  sa : findIn K (.ref C) "__setattr__" = some (some (.builtin "object.__setattr__"))
  ga : findIn K (.ref C) "__getattribute__" = some (some (.builtin "BaseException.__getattribute__"))
  gg : findIn K (.ref C) "__getattr__" = some none
  noN : findIn K (.ref C) "at" = some none
  iC : findIn K (.ref C) "__init__" = some (some (.ref fI))
  tC : typeIn K (.ref fI) = some (.type "function")
  kC : keepIn K (.ref C) = true
  exC : subIn K (.ref C) (.type "BaseException") = some true
  tyC : typeIn K (.ref C) = some (.type "type")
  hdC : hasDictIn K C = true
  te : exmOne K (.ref C) (.ref C) = some true
  fn : ∃ (oc : Value) (od : Option Addr) (doc pm : Value) (an : Option Addr) (cdv ct : Value) (osl : Array (Option Value)) (p1 p2 q1 q2 q3 q4 : Pos),
    K.lookup fI = some ⟨oc, od, .func (fnOf "__init__" "WrittenError.__init__" (iA p1 p2) (iB q1 q2 q3 q4) iS .none .none doc pm an cdv ct), osl⟩ ∧ codeIn K cdv "WrittenError.__init__" = true
theorem one_size (v : Value) : [v].length ≤ sizeLine := by
  rw [sizeLine_eq]
  exact (by decide : 1 ≤ 16777216)
theorem kept_but {K : Frag} {h h' : Heap} {x : Addr} (X : K.In h) (hx : K.lookup x = none) (k : ∀ b o, b ≠ x → h.get? b = some o → h'.get? b = some o) : K.In h' := fun a o e =>
  k a o (fun z => by rw [z, hx] at e; cases e) (X a o e)
theorem ldC {M : Model} {s : Shared} {name : Str} {scope : Scope} {L a : Addr} {cd : Value} {m : Str → Option Value} {x : Str} {pos : Pos} {v : Value} {Q : Value → Shared → Prop} {A : Around} {E : Value → Shared → Prop} (hn : s.heap.Ns L m) (hv : m x = some v) (h : Q v s)
    (hk : scope.kind = .function := by rfl) (hl : (envOfC name scope L a cd).kindOf x = some .local := by rfl) (hd : (x == ("__debug__" : Str)) = false := by decide) :
    wpAny M A (eval (.Name x pos) (envOfC name scope L a cd)) Q E s := wpAny_Name (wpAny_loadName_local hk hl hn hv h) hd
/-- what __init__ leaves of a fresh exception at x -/
structure InitEnd (h h' : Heap) (x C dx t1 : Addr) (v : Value) : Prop where
  keep : ∀ b o, b ≠ x → h.get? b = some o → h'.get? b = some o
  obj : h'.get? x = some { cls := .ref C, dict := some dx, data := .fields #[.ref t1, .none, .none, .none, .bool false, .none] }
  dbig : h.objs.size ≤ dx
  dne : dx ≠ x
  ns : h'.Ns1 dx (fun y => if y = "at" then some v else none)
/-- a made Low -/
structure OwnMade (h h' : Heap) (e C d : Addr) (v : Value) : Prop where
  keep : ∀ b o, h.get? b = some o → h'.get? b = some o
  new : h.objs.size ≤ e
  obj : ∃ oe vs, h'.get? e = some oe ∧ oe.cls = .ref C ∧ oe.dict = some d ∧ oe.data = .fields vs ∧ vs[1]? = some .none
  dbig : h.objs.size ≤ d
  dne : d ≠ e
  ns : h'.Ns1 d (fun y => if y = "at" then some v else none)
section
variable {prog : Program} {w : World} {A : Around} {E : Value → Shared → Prop} {R : Result → Shared → Prop} {s : Shared} {K : Frag} {mg : Str → Option Value} {C fI : Addr}
theorem step_init (T : TextTxt K mg C fI) {x t0 : Addr} {v : Value} (X : K.In s.heap) (hlim : s.heap.NoLimit) (hx : s.heap.get? x = some (excO C t0)) (hnx : K.lookup x = none) (hroom : A.depth < recursionLimit)
    (hq : ∀ h' tk dx, InitEnd s.heap h' x C dx t0 v → R (.ok (.ret .none)) { s with heap := h', toks := tk }) :
    codeAny (model prog w) A (.call (.ref fI) ⟨[.ref x, v], []⟩) R s := by
  obtain ⟨oc, od, doc, pm, an, cdv, ct, osl, p1, p2, q1, q2, q3, q4, ho, hcd⟩ := T.fn
  obtain ⟨nm, q, N, bs, bm, sn, sub, ab, col, dd, k0, k1, k2, k3, k5, hC, hbm⟩ := T.cls
  have hcl : clsIn K C = some { name := nm, bases := bs, mro := .ref C :: bm, ns := N, qualname := q, hasDict := true, slotNames := sn, subclasses := sub, abstract := ab, collection := col, hasDel := false } := by unfold clsIn; rw [hC] <;> rfl
  refine Att.call_fn (binds := [("self", .ref x), ("at", v)]) X hlim ho hcd hroom (BindsTo.of_eq (by first | rfl | with_unfolding_all rfl)) (by first | rfl | decide | with_unfolding_all rfl) (fun s₁ IC => ?_) rfl rfl rfl
  obtain ⟨h₁, tk₁, rfl⟩ := IC.toInCall.same
  have k : ∀ b o, s.heap.get? b = some o → h₁.get? b = some o := IC.toInCall.keep
  have hn := IC.toInCall.ns
  have hxL : s.heap.objs.size ≠ x := Nat.ne_of_gt (Heap.lt_size hx)
  have X₁ : K.In h₁ := X.keeps k
  have hx₁ := k _ _ hx
  -- self.by = by
  show wpAny _ _ (execs _ _) _ _ _
  refine wpAny_execs_cons (plainObj_wpAny_Assign_Attribute ?_)
  refine ldC (v := v) hn (by first | rfl | with_unfolding_all rfl | kernel_rfl) (ldC (v := .ref x) hn (by first | rfl | with_unfolding_all rfl | kernel_rfl) ?_)
  refine set_plain X₁ (ox := excO C t0) (od := none) ⟨hx₁, rfl, rfl, trivial⟩ T.sa ?_
  refine exc_osa X₁ hx₁ hcl (show refsVE (.ref C :: bm) = true from hbm) rfl T.noN (fun h₃ tk₃ dx k₃ dn dne hx₃ hn₃ => ?_)
  show wpAny _ _ (execs _ _) _ _ _
  have z : s.heap.objs.size < h₁.objs.size := hn.lt
  exact wpAny_execs_nil (hq h₃ tk₃ dx ⟨fun b o hb e => k₃ b o hb (k b o e), hx₃, Nat.le_of_lt (Nat.lt_of_lt_of_le z dn), dne, hn₃⟩)
theorem step_made (T : TextTxt K mg C fI) {v : Value} (X : K.In s.heap) (hlim : s.heap.NoLimit) (hroom : A.depth + 1 < recursionLimit)
    (hq : ∀ h' tk e d, OwnMade s.heap h' e C d v → R (.ok (.ret (.ref e))) { s with heap := h', toks := tk }) :
    codeAny (model prog w) A (.call (.ref C) ⟨[v], []⟩) R s := by
  obtain ⟨nm, q, N, bs, bm, sn, sub, ab, col, dd, k0, k1, k2, k3, k5, hC, hbm⟩ := T.cls
  obtain ⟨hp, g, dr, tk, os⟩ := s
  have k : ∀ b o, hp.get? b = some o → ((hp.push (kdv_tup [v])).push (excO C hp.objs.size)).get? b = some o := fun b o e => Heap.get?_push_of_some _ (Heap.get?_push_of_some _ e)
  have hget : ((hp.push (kdv_tup [v])).push (excO C hp.objs.size)).get? (hp.objs.size + 1) = some (excO C hp.objs.size) := by heap_get
  have hnx : K.lookup (hp.objs.size + 1) = none := by
    cases e : K.lookup (hp.objs.size + 1) with
    | none => rfl
    | some o =>
      have z : hp.get? (hp.objs.size + 1) = some o := X _ _ e
      exact absurd (Nat.lt_of_succ_lt (Heap.lt_size z)) (Nat.lt_irrefl _)
  refine call_own F.excBase_ValueError (fun X => refsVE_contains X bm hbm) (X _ _ hC) (looks_findIn X T.iC) (fun self => bind_fn X self T.tC) (one_size v) ?_
  refine step_init (s := ⟨(hp.push (kdv_tup [v])).push (excO C hp.objs.size), g, dr, tk, os⟩) T (X.keeps k) (hlim.keeps k) hget hnx ?_ fun h' tk' dx ⟨k', hx, dn, dne, hns⟩ => ?_
  · show A.depth + 1 < recursionLimit
    exact hroom
  · have old : ∀ b o, hp.get? b = some o → h'.get? b = some o := fun b o e => k' b o (Nat.ne_of_lt (Nat.lt_succ_of_lt (Heap.lt_size e))) (k b o e)
    have z : hp.objs.size + 1 + 1 ≤ dx := by
      first
        | (simpa only [Heap.size_push] using dn)
        | exact dn
        | (have q := dn; rw [Heap.size_push, Heap.size_push] at q; exact q)
    exact ⟨rfl, hq h' tk' (hp.objs.size + 1) dx ⟨old, Nat.le_succ _, ⟨_, _, hx, rfl, rfl, rfl, rfl⟩, Nat.le_trans (Nat.le_trans (Nat.le_succ _) (Nat.le_succ _)) z, dne, hns⟩⟩
end
end TextX
end PySem
namespace L2
open PySem PySem.Spec PyProof.Rows
theorem relO_step {v : V} {v' : Value} (r : RelV v v') (f : Str) : RelO (List.lookup f [(("at" : Str), v)]) (if f = "at" then some v' else none) := by
  by_cases hw : f = "at"
  · subst hw
    rw [if_pos rfl]
    have q : List.lookup ("at" : Str) [(("at" : Str), v)] = some v := by simp [List.lookup]
    rw [q]
    exact r
  · rw [if_neg hw]
    have qw : (f == ("at" : Str)) = false := by simpa using hw
    have q2 : List.lookup f [(("at" : Str), v)] = none := by simp [List.lookup, qw]
    rw [q2]
    trivial
section
variable {X : Cx} {C fI : Addr}
/-- Low(e) -/
def tMkStep (C : Addr) (ta : TA) : St → Hp → XK → Prop := fun σ H Q => ta σ H fun vs H1 => ∃ v, vs = [v] ∧ ∀ d, H1 d = none → Q (.ref C) (some d) (upd H1 d (.xd [(("at" : Str), v)]))
theorem pmk_step {a : Expr} {ta : TA} {p pos : Pos} {k : Nat} (T : PySem.TextX.TextTxt X.K X.mg C fI) (hr : Room k X.A) (ha : PA X [a] ta) (hg : Gl X "WrittenError" := by rfl)
    (he : starEach (a :: []) X.env = (false, eval a X.env) :: starEach [] X.env := by rfl) (hpl : (backTo pos (starEach [] X.env)).any (·.1) = false := by rfl) :
    PMk X (.Call (.Name "WrittenError" p) [a] [] pos) (tMkStep C ta) := by
  intro pins s σ H Q I h
  refine wpAny_Call_Name_kw (ld_glob I hg T.gC ?_)
  refine PySem.W.callWith_K (h₀ := X.base) I.ok.mod.kin T.kC (thn (ha.run pos pins s σ H _ I h) fun us s1 hh => ?_) he hpl
  obtain ⟨vs, H1, I1, r1, v, ev, q1⟩ := hh
  subst ev
  refine ⟨I1.kIn, ?_⟩
  cases r1 with
  | cons rv rn =>
    rename_i v' us'
    cases rn
    show wpAny _ _ (call (.ref C) [v']) _ _ _
    have hlim := I1.nolimit
    obtain ⟨hp, g, dr, tk, os⟩ := s1
    refine wpAny_call (PySem.TextX.step_made T I1.kIn hlim (by have := hr.dp; omega) fun h' tk' e d M => ?_)
    show MkP X pins σ Q (.ref e) ⟨h', g, dr, tk', os⟩
    obtain ⟨oe, fv, hoe, hc, hd, hdat, h1⟩ := M.obj
    have hns := M.ns
    obtain ⟨G', g1, g2⟩ := restrict h' fun b => decide (b ≠ e)
    have gk : ∀ b, b ≠ e → G'.get? b = h'.get? b := fun b hb => g1 b (decide_eq_true hb)
    have ge : G'.get? e = none := g2 e (by simp)
    have old : ∀ b o, hp.get? b = some o → G'.get? b = some o := fun b o q => (gk b (Nat.ne_of_lt (Nat.lt_of_lt_of_le (Heap.lt_size q) M.new))).trans (M.keep b o q)
    have ob : ObjOk X.prog X.w (upd H1 d (.xd [(("at" : Str), v)])) G' d (.xd [(("at" : Str), v)]) :=
      ⟨_, hns.at (fun o q => (gk d M.dne).trans q), fun f => relO_step rv f⟩
    have J : Inv X pins σ (upd H1 d (.xd [(("at" : Str), v)])) ⟨G', g, dr, tk', os⟩ := I1.laid (t' := tk') old M.dbig ob
    refine ⟨e, oe, fv, ⟨G', g, dr, tk', os⟩, _, .ref C, some d, rfl, J, fun b o q => ?_, ge, hoe, ⟨hc, hd⟩, hdat, h1, ?_, rfl, I1.bare, raises_own T.exC T.tyC, q1 d (I1.hok.fresh M.dbig)⟩
    · by_cases hb : b = e
      · have q' : G'.get? b = some o := q
        rw [hb, ge] at q'; cases q'
      · exact (gk b hb).symm.trans q
    · rw [upd_ne (Ne.symm M.dne)]
      exact I1.hok.fresh M.new
/-- raise Low(e) -/
def tRaiseStep (C : Addr) (W : WX) (ta : TA) : TS := fun _ σ H => tMkStep C ta σ H fun cls d H' => W cls d σ H'
theorem ps_raiseText {a : Expr} {ta : TA} {W : WX} {p pos pos2 : Pos} {k : Nat} (hc : X.calm = true) (T : PySem.TextX.TextTxt X.K X.mg C fI) (hr : Room k X.A) (tk : Takes X W) (ha : PA X [a] ta) (hg : Gl X "WrittenError" := by rfl)
    (he : starEach (a :: []) X.env = (false, eval a X.env) :: starEach [] X.env := by rfl) (hpl : (backTo pos (starEach [] X.env)).any (·.1) = false := by rfl) :
    PS X (.Raise (some (.Call (.Name "WrittenError" p) [a] [] pos)) none pos2) (tRaiseStep C W ta) := ps_raise hc tk (pmk_step T hr ha hg he hpl)
/-- low.by, low the exception that the suite holds (at a; its class cls, its dict d) -/
def tStepOf (C : Addr) (a : Addr) (cls : Value) (d : Option Addr) (te : TE) : TE := fun σ H Q => te σ H fun x H1 => x = .ref a ∧ cls = .ref C ∧ ∃ (dd : Addr) (v : V), d = some dd ∧ H1 dd = some (.xd [(("at" : Str), v)]) ∧ Q v H1
theorem pe_atOf {a : Addr} {oe : Obj} {cls : Value} {d : Option Addr} {pn : List (Addr × Obj)} {e : Expr} {te : TE} {pos : Pos} (T : PySem.TextX.TextTxt X.K X.mg C fI) (hz : Zc cls d oe) (hf : ∃ vs, oe.data = .fields vs) (he : PE (X.suite a ((a, oe) :: pn)) e te)
    (hb : attributeBase e "at" X.env (eval e X.env) = eval e X.env := by rfl) :
    PE (X.suite a ((a, oe) :: pn)) (.Attribute e "at" pos) (tStepOf C a cls d te) := by
  refine ⟨fun pins s σ H Q I h => ?_⟩
  refine attr_of hb (thn (he.run pins s σ H _ I h) fun u s1 hh => ?_)
  obtain ⟨x, H1, I1, rx, ex, ec, dd, v, ed, ea, q⟩ := hh
  subst ex
  obtain rfl : u = Value.ref a := rx
  subst ec
  subst ed
  obtain ⟨ha, _⟩ := I1.pin (a, oe) (List.mem_append_left _ List.mem_cons_self)
  obtain ⟨vs, hd⟩ := hf
  have hx : ObjOk X.prog X.w H1 s1.heap dd (.xd [(("at" : Str), v)]) := I1.hok dd _ ea
  obtain ⟨mA, hns, hr⟩ := hx
  obtain ⟨od, ho, hl⟩ := lookIn_ns hns
  have l : List.lookup ("at" : Str) [(("at" : Str), v)] = some v := by simp [List.lookup]
  obtain ⟨u, hu, ru⟩ := RelO.some_of (v := v) (o := mA "at") (by rw [← l]; exact hr "at")
  have J : PySem.W.InstAt s1.heap a oe C (some od) := ⟨ha, hz.1, by unfold PySem.W.notCls; rw [hd] <;> rfl, by rw [hz.2]; exact ho⟩
  exact HandSPX.exc_get I1.kIn J T.ga T.gg T.exC (PySem.W.findObj_own T.hdC T.noN rfl (by rw [hl, hu])) (handed_of ru) ⟨v, H1, I1.tok _, ru, q⟩
end
end L2
namespace K71E
open PySem PySem.Spec PyProof.Rows L2
def rIsD (K : PySem.W.Frag) (D a : Addr) (cls : Value) (d : Option Addr) : List V → Hp → VK → Prop := fun xs H Q => ∃ (c : V) (cv : Value) (b : Bool) (dd : Addr) (fs : List (Str × V)), xs = [.ref a, c] ∧ cls = .ref D ∧ d = some dd ∧
  (∀ u, RelV c u → u = cv) ∧ PySem.W.kitOne K (.ref D) cv = some b ∧ H dd = some (.xd fs) ∧ Q (.bl b) H
theorem call_isD {X : Cx} {a D : Addr} {oe : Obj} {cls : Value} {d : Option Addr} {pn : List (Addr × Obj)} (C : ExcC X.K D) (hz : Zc cls d oe) (hf : ∃ vs, oe.data = .fields vs) : CallR (X.suite a ((a, oe) :: pn)) (.builtin "isinstance") (rIsD X.K D a cls d) := by
  rintro pins s σ H xs us Q I r ⟨c, cv, b, dd, fs, rfl, rfl, rfl, hcv, e, hx, q⟩
  cases r with
  | cons rx rr =>
    cases rr with
    | cons rt rr =>
      cases rr
      cases rx
      obtain rfl := hcv _ rt
      have hget := (I.pin (a, oe) (List.mem_append_left _ List.mem_cons_self)).1
      obtain ⟨vs, hv⟩ := hf
      have hD : ObjOk X.prog X.w H s.heap dd (.xd fs) := I.hok dd _ hx
      obtain ⟨mA, hns, _⟩ := hD
      obtain ⟨od, ho, _⟩ := lookIn_ns hns
      have J : PySem.W.InstAt s.heap a oe D (some od) := ⟨hget, hz.1, by unfold PySem.W.notCls; rw [hv] <;> rfl, by rw [hz.2]; exact ho⟩
      have cl : (PySem.W.clsIn X.K D).isSome = true := by
        have h := C.hd
        unfold PySem.W.hasDictIn at h
        cases hc : PySem.W.clsIn X.K D with
        | none =>
          rw [hc] at h
          cases h
        | some cd => rfl
      refine PySem.W.kia_one (PySem.W.kitx_exc (od := some od) cl C.hg C.hk C.hs C.ha C.hn C.ht C.hm) I.kIn J e (fun z => nomatch z) fun tk => ?_
      exact ⟨.bl b, H, I.kept (t' := tk) fun _ _ z => z, rfl, q⟩
def tMethE (C : Addr) (m : Str) (sp : Sp) (E : L2.St → XK) (ta : TE) (t : TA) : TE := fun σ H Q => ta σ H fun x H1 => ∃ a dx fs, x = .ref a ∧ H1 a = some (.ins C dx fs) ∧ fs.lookup m = none ∧ t σ H1 fun vs H2 => sp (x :: vs) H2 Q (E σ)
section
variable {X : Cx} {CX : CXT} {k : Nat} {f C : Addr} {fd : FuncData} {ps : List Str} {sp : Sp} {E : L2.St → XK} {m : Str} {pos apos : Pos} {e o : Expr} {es : List Expr} {ta : TE} {t : TA}
theorem pe_methE {pl : Sem Bool} (he : PE X o ta) (c : Cls X.K C) (hm : Meth X.K C m f) (G : FnOk X.prog X.w X.K X.mg X.base CX k f fd ps sp) (hr : Room k X.A) (hb : Binds X.K fd ps []) (hx : ∀ σ, PassesAt CX X σ (E σ)) (ha : PA X (e :: es) t)
    (hst : starEach (e :: es) X.env = (false, eval e X.env) :: starEach es X.env := by rfl) (hpl : (backTo pos (starEach es X.env)).any (·.1) = false := by rfl)
    (ht : eval (.Call (.Attribute o m apos) (e :: es) [] pos) X.env = (do
      let ov ← eval o X.env; standAt apos.atName; let (f, first) ← holding [ov] (getMethod ov m pl); callWith pos f first (backTo pos (starEach (e :: es) X.env)) (backToKw pos (keywordEach [] X.env))) := by rfl) :
    PE X (.Call (.Attribute o m apos) (e :: es) [] pos) (tMethE C m sp E ta t) := by
  constructor
  intro pins s σ H Q I h
  refine PySem.W.methodCall_KW (pl := pl) (thn (he.run pins s σ H _ I h) ?_) ht
  rintro u s1 ⟨x, H1, I1, rx, a, dx, fs, rfl, ea, l, q⟩
  obtain rfl : u = Value.ref a := rx
  refine getmeth_ok I1 ea c hm l (PySem.W.callWith_K (first := [.ref a]) (h₀ := X.base) I.ok.mod.kin hm.kp (thn (ha.run pos pins s1 σ H1 _ I1 q) ?_) hst hpl)
  rintro us s2 ⟨vs, H2, I2, r, q2⟩
  exact ⟨I2.kIn, run_fnS (us := .ref a :: us) (vs := .ref a :: vs) G hr hb (hx σ) I2 (.cons rfl r) q2⟩
theorem pe_methE0 {pl : Sem Bool} (he : PE X o ta) (c : Cls X.K C) (hm : Meth X.K C m f) (G : FnOk X.prog X.w X.K X.mg X.base CX k f fd ps sp) (hr : Room k X.A) (hb : Binds X.K fd ps []) (hx : ∀ σ, PassesAt CX X σ (E σ))
    (ht : eval (.Call (.Attribute o m apos) [] [] pos) X.env = (do
      let ov ← eval o X.env; standAt apos.atName; let (f, first) ← holding [ov] (getMethod ov m pl); callWith pos f first (backTo pos (starEach [] X.env)) (backToKw pos (keywordEach [] X.env))) := by rfl) :
    PE X (.Call (.Attribute o m apos) [] [] pos) (tMethE C m sp E ta tNil) := by
  constructor
  intro pins s σ H Q I h
  refine PySem.W.methodCall_KW (pl := pl) (thn (he.run pins s σ H _ I h) ?_) ht
  rintro u s1 ⟨x, H1, I1, rx, a, dx, fs, rfl, ea, l, q⟩
  obtain rfl : u = Value.ref a := rx
  exact getmeth_ok I1 ea c hm l (PySem.W.callWith_K0 (first := [.ref a]) I1.kIn hm.kp (run_fnS (us := [.ref a]) (vs := [.ref a]) G hr hb (hx σ) I1 (.cons rfl .nil) q))
end
end K71E
/-! reading as a function: lines to changes, patches, or the place of the first fault -/
namespace K20
open PySem PySem.Spec PyProof.Rows L2 TL TR QR
inductive RC where
  | none
  | add (p : Option Path)
  | back (n : Option Nm)
  | drop (f : Option Vx) (xs : List (Option Vx))
  | move (f : Option Vx) (p : Option Path) (xs : List (Option Vx))
  | cut (f : Option Vx) (xs : List (Option Vx))
  | order (f a b : Option Vx)
  | lines (f : Option Vx) (xs ys : List (Option Vx)) (k : Nat)
def readVs (t : List Nat) : List (Option Vx) := if t = [45] then [] else (cutAt 44 t).map readVx
def readC : Path → RC
  | [w, a] => if w = wAdd then .add (readPath a) else if w = wBack then .back (readNm a) else .none
  | [w, a, b] => if w = wDrop then .drop (readVx a) (readVs b) else if w = wCut then .cut (readVx a) (readVs b) else .none
  | [w, a, b, c] => if w = wMove then .move (readVx a) (readPath b) (readVs c) else if w = wOrder then .order (readVx a) (readVx b) (readVx c) else .none
  | [w, a, b, c, d] => if w = wLines then .lines (readVx a) (readVs b) (readVs c) ((readNum d 200).getD 0) else .none
  | _ => .none
def RcOk : RC → Prop
  | .none => False
  | .add p => p.isSome = true
  | .back n => n.isSome = true
  | .drop f xs => f.isSome = true ∧ RisP 1 12 xs
  | .move f p xs => f.isSome = true ∧ p.isSome = true ∧ RisP 1 12 xs
  | .cut f xs => f.isSome = true ∧ RisP 1 200 xs
  | .order f a b => f.isSome = true ∧ a.isSome = true ∧ b.isSome = true ∧ a ≠ b
  | .lines f xs ys k => f.isSome = true ∧ RisP 0 12 xs ∧ RisP 0 12 ys ∧ 1 ≤ k ∧ k ≤ 200
/-- a change without its texts -/
def rcOf : Chg → RC
  | .add p => .add (some p)
  | .back n => .back (some n)
  | .drop f xs => .drop (some f) (xs.map some)
  | .move f p xs => .move (some f) (some p) (xs.map some)
  | .cut f xs => .cut (some f) (xs.map some)
  | .order f a b => .order (some f) (some a) (some b)
  | .lines f xs ys ts => .lines (some f) (xs.map some) (ys.map some) ts.length
/-- the bounds of the vertices' numbers -/
def Fit : Chg → Prop
  | .drop _ xs => xs.length ≤ 12
  | .move _ _ xs => xs.length ≤ 12
  | .lines _ xs ys _ => xs.length ≤ 12 ∧ ys.length ≤ 12
  | _ => True
structure Good (c : Chg) : Prop where
  ok : ChgOk c
  fit : Fit c
  raw : raw c = c
theorem readVs_ok {t : List Nat} {x : Vx} (h : some x ∈ readVs t) : VxOk x := by
  unfold readVs at h
  split at h
  · cases h
  · obtain ⟨p, _, e⟩ := List.mem_map.mp h
    exact (readVx_back e).1
theorem readVs_vs {xs : List Vx} (ok : ∀ x ∈ xs, VxOk x) : readVs (vsL xs) = xs.map some := by
  unfold readVs
  by_cases ne : xs = []
  · subst ne
    rfl
  · obtain ⟨a, b⟩ := vs_cut ok ne
    rw [if_neg b, a, List.map_map]
    exact List.map_congr_left fun x hx => readVx_vxL (ok x hx)
theorem map_vx : ∀ {P : Path} {xs : List Vx}, P.map readVx = xs.map some → P = xs.map vxL
  | [], [], _ => rfl
  | [], _ :: _, h => by cases h
  | _ :: _, [], h => by cases h
  | p :: P, x :: xs, h => by
    have h1 := List.cons.inj h
    rw [map_vx h1.2, ← (readVx_back h1.1).2]
    rfl
theorem vs_back {t : List Nat} {xs : List Vx} (h : readVs t = xs.map some) : t = vsL xs := by
  unfold readVs at h
  split at h
  · rename_i e
    cases xs with
    | nil => exact e
    | cons x xs => cases h
  · have e := map_vx h
    cases xs with
    | nil => exact absurd e (cut_ne 44 t)
    | cons x xs =>
      rw [← join_cut 44 t, e]
      rfl
theorem ris_ok {l : Nat} {t : List Nat} {xs : List Vx} {m : Nat} (h : RisP l m (xs.map some)) (e : readVs t = xs.map some) (hm : m ≤ 200) : VsOk xs l := by
  obtain ⟨a, b, ys, ey, r⟩ := h
  rw [List.length_map] at a b
  have : xs = ys := List.map_inj_right (fun _ _ z => Option.some.inj z) |>.mp ey
  subst this
  exact ⟨fun x hx => readVs_ok (t := t) (by rw [e]; exact List.mem_map.mpr ⟨x, hx, rfl⟩), r, a, by omega⟩
theorem risP_map {l m : Nat} {xs : List (Option Vx)} (h : RisP l m xs) : ∃ ys : List Vx, xs = ys.map some ∧ ys.length ≤ m := by
  obtain ⟨_, b, ys, rfl, _⟩ := h
  exact ⟨ys, rfl, by rw [List.length_map] at b; exact b⟩
theorem blank_ok {k : Nat} : ∀ t ∈ List.replicate k ([] : List Nat), okTx t := fun t ht => by
  rw [List.eq_of_mem_replicate ht]
  exact ⟨Nat.zero_le _, fun c hc => nomatch hc⟩
theorem num_back {d : List Nat} {k : Nat} (h : (readNum d 200).getD 0 = k) (h1 : 1 ≤ k) : d = numL k := by
  cases e : readNum d 200 with
  | none =>
    rw [e] at h
    have h : 0 = k := h
    omega
  | some n =>
    rw [e] at h
    have h : n = k := h
    rw [← h]
    exact (readNum_some e).1
/-- what the words of a right line are -/
theorem rc_back {ws : Path} (h : RcOk (readC ws)) : ∃ c, Good c ∧ readC ws = rcOf c ∧ wordsOf c = ws := by
  unfold readC at h ⊢
  split at h
  · rename_i w a
    split at h
    · rename_i e
      obtain ⟨p, hp⟩ := Option.isSome_iff_exists.mp (show (readPath a).isSome = true from h)
      have := readPath_back hp
      refine ⟨.add p, ⟨this.1, trivial, rfl⟩, ?_, ?_⟩
      · rw [if_pos e, hp]
        rfl
      · rw [e, ← this.2]
        rfl
    · rename_i e0
      split at h
      · rename_i e
        obtain ⟨p, hp⟩ := Option.isSome_iff_exists.mp (show (readNm a).isSome = true from h)
        have := readNm_back hp
        refine ⟨.back p, ⟨this.1, trivial, rfl⟩, ?_, ?_⟩
        · rw [if_neg e0, if_pos e, hp]
          rfl
        · rw [e, ← this.2]
          rfl
      · exact h.elim
  · rename_i w a b
    split at h
    · rename_i e
      obtain ⟨h1, h2⟩ := (show (readVx a).isSome = true ∧ RisP 1 12 (readVs b) from h)
      obtain ⟨f, hf⟩ := Option.isSome_iff_exists.mp h1
      obtain ⟨ys, ey, ly⟩ := risP_map h2
      have v := readVx_back hf
      rw [ey] at h2
      refine ⟨.drop f ys, ⟨⟨v.1, ris_ok h2 ey (by decide)⟩, ly, rfl⟩, ?_, ?_⟩
      · rw [if_pos e, hf, ey]
        rfl
      · rw [e, ← v.2, vs_back ey]
        rfl
    · rename_i e0
      split at h
      · rename_i e
        obtain ⟨h1, h2⟩ := (show (readVx a).isSome = true ∧ RisP 1 200 (readVs b) from h)
        obtain ⟨f, hf⟩ := Option.isSome_iff_exists.mp h1
        obtain ⟨ys, ey, ly⟩ := risP_map h2
        have v := readVx_back hf
        rw [ey] at h2
        refine ⟨.cut f ys, ⟨⟨v.1, ris_ok h2 ey (by decide)⟩, trivial, rfl⟩, ?_, ?_⟩
        · rw [if_neg e0, if_pos e, hf, ey]
          rfl
        · rw [e, ← v.2, vs_back ey]
          rfl
      · exact h.elim
  · rename_i w a b c
    split at h
    · rename_i e
      obtain ⟨h1, h3, h2⟩ := (show (readVx a).isSome = true ∧ (readPath b).isSome = true ∧ RisP 1 12 (readVs c) from h)
      obtain ⟨f, hf⟩ := Option.isSome_iff_exists.mp h1
      obtain ⟨p, hp⟩ := Option.isSome_iff_exists.mp h3
      obtain ⟨ys, ey, ly⟩ := risP_map h2
      have v := readVx_back hf
      have vp := readPath_back hp
      rw [ey] at h2
      refine ⟨.move f p ys, ⟨⟨v.1, vp.1, ris_ok h2 ey (by decide)⟩, ly, rfl⟩, ?_, ?_⟩
      · rw [if_pos e, hf, hp, ey]
        rfl
      · rw [e, ← v.2, ← vp.2, vs_back ey]
        rfl
    · rename_i e0
      split at h
      · rename_i e
        obtain ⟨h1, h2, h3, h4⟩ := (show (readVx a).isSome = true ∧ (readVx b).isSome = true ∧ (readVx c).isSome = true ∧ readVx b ≠ readVx c from h)
        obtain ⟨f, hf⟩ := Option.isSome_iff_exists.mp h1
        obtain ⟨x, hx⟩ := Option.isSome_iff_exists.mp h2
        obtain ⟨y, hy⟩ := Option.isSome_iff_exists.mp h3
        have v := readVx_back hf
        have vx := readVx_back hx
        have vy := readVx_back hy
        refine ⟨.order f x y, ⟨⟨v.1, vx.1, vy.1, fun z => h4 (by rw [hx, hy, z])⟩, trivial, rfl⟩, ?_, ?_⟩
        · rw [if_neg e0, if_pos e, hf, hx, hy]
          rfl
        · rw [e, ← v.2, ← vx.2, ← vy.2]
          rfl
      · exact h.elim
  · rename_i w a b c d
    split at h
    · rename_i e
      obtain ⟨h1, h2, h3, h4, h5⟩ := (show (readVx a).isSome = true ∧ RisP 0 12 (readVs b) ∧ RisP 0 12 (readVs c) ∧ 1 ≤ (readNum d 200).getD 0 ∧ (readNum d 200).getD 0 ≤ 200 from h)
      obtain ⟨f, hf⟩ := Option.isSome_iff_exists.mp h1
      obtain ⟨xs, ex, lx⟩ := risP_map h2
      obtain ⟨ys, ey, ly⟩ := risP_map h3
      have v := readVx_back hf
      rw [ex] at h2
      rw [ey] at h3
      have en := num_back rfl h4
      generalize (readNum d 200).getD 0 = k at h4 h5 en
      refine ⟨.lines f xs ys (List.replicate k []), ⟨⟨v.1, ris_ok h2 ex (by decide), ris_ok h3 ey (by decide), by rw [List.length_replicate]; exact h4, by rw [List.length_replicate]; exact h5, blank_ok⟩, ⟨lx, ly⟩, by dsimp only [raw]; rw [List.length_replicate]⟩, ?_, ?_⟩
      · rw [if_pos e, hf, ex, ey]
        dsimp only [rcOf]
        rw [List.length_replicate]
      · rw [e, ← v.2, vs_back ex, vs_back ey, en]
        dsimp only [wordsOf]
        rw [List.length_replicate]
    · exact h.elim
  · exact h.elim
theorem ris_p {xs : List Vx} {l m : Nat} (h : VsOk xs l) (hm : xs.length ≤ m) : RisP l m (xs.map some) := ⟨by rw [List.length_map]; exact h.lo, by rw [List.length_map]; exact hm, xs, rfl, h.ris⟩
theorem rc_words {c : Chg} (g : Good c) : readC (wordsOf c) = rcOf c ∧ RcOk (rcOf c) := by
  obtain ⟨ok, fit, _⟩ := g
  cases c with
  | add p => exact ⟨by dsimp only [wordsOf, readC, rcOf]; simp only [if_true]; rw [readPath_slash ok], rfl⟩
  | back n => exact ⟨by dsimp only [wordsOf, readC, rcOf]; rw [if_neg (by decide), if_pos rfl, readNm_idL ok], rfl⟩
  | drop f xs => exact ⟨by dsimp only [wordsOf, readC, rcOf]; rw [if_pos rfl, readVx_vxL ok.1, readVs_vs ok.2.ok], rfl, ris_p ok.2 fit⟩
  | cut f xs => exact ⟨by dsimp only [wordsOf, readC, rcOf]; rw [if_neg (by decide), if_pos rfl, readVx_vxL ok.1, readVs_vs ok.2.ok], rfl, ris_p ok.2 ok.2.hi⟩
  | move f p xs => exact ⟨by dsimp only [wordsOf, readC, rcOf]; rw [if_pos rfl, readVx_vxL ok.1, readPath_slash ok.2.1, readVs_vs ok.2.2.ok], rfl, rfl, ris_p ok.2.2 fit⟩
  | order f a b => exact ⟨by dsimp only [wordsOf, readC, rcOf]; rw [if_neg (by decide), if_pos rfl, readVx_vxL ok.1, readVx_vxL ok.2.1, readVx_vxL ok.2.2.1], rfl, rfl, rfl, fun z => ok.2.2.2 (Option.some.inj z)⟩
  | lines f xs ys ts =>
    refine ⟨?_, rfl, ris_p ok.2.1 fit.1, ris_p ok.2.2.1 fit.2, ok.2.2.2.1, ok.2.2.2.2.1⟩
    dsimp only [wordsOf, readC, rcOf]
    rw [if_pos rfl, readVx_vxL ok.1, readVs_vs ok.2.1.ok, readVs_vs ok.2.2.1.ok, readNum_num ok.2.2.2.2.1]
    rfl
open Classical in
/-- the change that a line's head tells -/
noncomputable def chgOf (l : List Nat) : Option Chg := if h : ∃ c, Good c ∧ headL c = l then some h.choose else none
theorem chg_back {l : List Nat} {c : Chg} (h : chgOf l = some c) : Good c ∧ headL c = l := by
  unfold chgOf at h
  split at h
  · rename_i e
    rw [← Option.some.inj h]
    exact e.choose_spec
  · cases h
theorem chg_some {l : List Nat} {c : Chg} (g : Good c) (e : headL c = l) : chgOf l = some c := by
  unfold chgOf
  have hx : ∃ c, Good c ∧ headL c = l := ⟨c, g, e⟩
  rw [dif_pos hx]
  have z := hx.choose_spec
  have := head_inj z.1.ok g.ok (z.2.trans e.symm)
  rw [z.1.raw, g.raw] at this
  rw [this]
/-- a line that is read: by its words -/
theorem chg_words (l : List Nat) : (∃ c, Good c ∧ chgOf l = some c ∧ readC (cutAt 32 l) = rcOf c ∧ RcOk (readC (cutAt 32 l))) ∨ (chgOf l = none ∧ ¬ RcOk (readC (cutAt 32 l))) := by
  by_cases h : RcOk (readC (cutAt 32 l))
  · obtain ⟨c, g, e1, e2⟩ := rc_back h
    refine .inl ⟨c, g, chg_some g ?_, e1, h⟩
    unfold headL
    rw [e2]
    exact join_cut 32 l
  · refine .inr ⟨?_, h⟩
    cases e : chgOf l with
    | none => rfl
    | some c =>
      obtain ⟨g, eh⟩ := chg_back e
      refine absurd ?_ h
      rw [← eh, head_cut g.ok, (rc_words g).1]
      exact (rc_words g).2
inductive Rs (α : Type) where
  | bad (j : Nat)
  | good (x : α) (j : Nat)
/-- behind j more lines -/
def Rs.up {α β : Type} (j : Nat) (f : α → β) : Rs α → Rs β
  | .bad i => .bad (j + i)
  | .good x i => .good (f x) (j + i)
def txLine (l : List Nat) : Option (List Nat) := match l with
  | [] => none
  | c :: t => if c = 124 ∧ okTx t then some t else none
def rdT : Nat → Path → Rs Path
  | 0, _ => .good [] 0
  | _ + 1, [] => .bad 0
  | k + 1, l :: ls => match txLine l with
    | none => .bad 0
    | some t => (rdT k ls).up 1 (t :: ·)
def setTs : Chg → Path → Chg
  | .lines f xs ys _, ts => .lines f xs ys ts
  | c, _ => c
def left : Chg → Nat
  | .lines _ _ _ ts => ts.length
  | _ => 0
noncomputable def rdC : Path → Rs Chg
  | [] => .bad 0
  | l :: ls => match chgOf l with
    | none => .bad 0
    | some c => (rdT (left c) ls).up 1 (setTs c)
noncomputable def rdCs : Nat → Bool → Path → Rs (List Chg)
  | 0, ne, ls => if ne = true ∧ ls.head? = some wEnd then .good [] 1 else .bad 0
  | f + 1, ne, ls => if ne = true ∧ ls.head? = some wEnd then .good [] 1 else match rdC ls with
    | .bad j => .bad j
    | .good c j => (rdCs f true (ls.drop j)).up j (c :: ·)
def noteLine (l : List Nat) : Option (List Nat) := if l.take 5 = wNote ∧ okTx (l.drop 5) then some (l.drop 5) else none
def patLine (l : List Nat) : Option Nm := if l.take 6 = wPatch then readNm (l.drop 6) else none
noncomputable def rdF : Path → Rs Pat
  | [] => .bad 0
  | [l] => match patLine l with
    | none => .bad 0
    | some _ => .bad 1
  | l :: m :: ls => match patLine l with
    | none => .bad 0
    | some n => match noteLine m with
      | none => .bad 1
      | some t => (rdCs 12 false ls).up 2 fun cs => ⟨n, cs, t⟩
noncomputable def rdA : Nat → Path → Rs (List Pat)
  | _, [] => .good [] 0
  | 0, _ => .bad 0
  | f + 1, l :: ls => match rdF (l :: ls) with
    | .bad j => .bad j
    | .good P j => (rdA f ((l :: ls).drop j)).up j (P :: ·)
end K20
namespace K20
open PySem PySem.Spec PyProof.Rows L2 TL TR QR
open GxR (TabB TabG Tabbed)
open PySem.W (EachIs)
abbrev sOL : Stmt := topS 36
abbrev nOL : List Str := ["lines", "at", "start"]
theorem scOL : FnScope nOL ["lines", "at", "start"] (defScope sOL) := ⟨rfl, rfl, rfl, by decide +kernel, rfl, by decide +kernel, by decide +kernel⟩
abbrev sTL : Stmt := topS 37
abbrev nTL : List Str := ["lines", "at", "start", "text"]
theorem scTL : FnScope nTL ["lines", "at", "start"] (defScope sTL) := ⟨rfl, rfl, rfl, by decide +kernel, rfl, by decide +kernel, by decide +kernel⟩
abbrev sRVs : Stmt := topS 32
abbrev nRVs : List Str := ["text", "part"]
theorem scRVs : FnScope nRVs ["text"] (defScope sRVs) := ⟨rfl, rfl, rfl, by decide +kernel, rfl, by decide +kernel, by decide +kernel⟩
/-- the way out by the error of what is written -/
def Out (C : Addr) (E : XK) (n : Nat) (H : Hp) : Prop := ∀ e, H e = none → E (.ref C) (some e) (upd H e (.xd [("at", .int (n : Int))]))
theorem starts_iff {l : List Nat} {z : Str} : Txt.startswith (Sg l) z = true ↔ ∃ r, l = tl z ++ r := by
  constructor
  · intro h
    unfold Txt.startswith at h
    rw [Bool.and_eq_true, StrLaws.subAt_eq, List.drop_zero] at h
    have e : l.take z.length = tl z := eq_of_beq h.2
    exact ⟨l.drop z.length, by rw [← e, List.take_append_drop]⟩
  · rintro ⟨r, rfl⟩
    exact starts_tl
/-- the lines that are read -/
structure LsAt (H : Hp) (a : Addr) (ls : Path) : Prop where
  at_ : H a = some (.lst (strV ls))
  len : ls.length ≤ 50000
  ll : ∀ l ∈ ls, l.length ≤ 70000
section
variable {P : Program} {w : World} {K : PySem.W.Frag} {mg : Str → Option Value} {base : Heap} {H : Hp} {v : V} {Q : VK} {E : XK} {C fI : Addr}
def spOL (C : Addr) : Sp := fun vs H Q E => ∃ (a : Addr) (ls : Path) (n : Nat) (z : Str), vs = [.ref a, .int (n : Int), .str z] ∧ LsAt H a ls ∧ z.length ≤ 1000 ∧ (∀ r, ls[n]? = some (tl z ++ r) → Q (.str (Sg r)) H) ∧ ((∀ r, ls[n]? ≠ some (tl z ++ r)) → Out C E n H)
theorem ok_OL {f : Addr} {fd : FuncData} (F : Fun K "rest_of_line" "rest_of_line" sOL f fd) (L : PySem.TextX.TextTxt K mg C fI)
    (m_len : mg "len" = none) : FnOk P w K mg base (L2.CX P w) 1 f fd ["lines", "at", "start"] (spOL C) := by
  refine F.okX scOL (fun vs H Q E h => ?_) (fun cdv A outer s H vs Q E hr h => ?_)
  · obtain ⟨a, ls, n, z, rfl, _⟩ := h
    rfl
  · obtain ⟨a, ls, n, z, rfl, ⟨ha, ln, hl⟩, lz, q1, q2⟩ := h
    have hu := hr.units
    have hu1 := hu_of hr
    have zl := zl
    refine ⟨_, (pss_cons (ps_if (PW.pt (pw_or (pt_cmpR op_ge (pv 1) (pe_callB call_len_seq (by rfl) m_len PySem.boot_len (pa_cons (pv 0) pa_nil)) (nomark _)) (pw_or1 (pt_not (pt_val (pe_bm PySem.F.plainAttrs_str PySem.F.slot_str_startswith PySem.F.type_str_startswith mt_startswith (pe_ix ix_list (pv 0) (pv 1) (fun _ _ => rfl)) (pa_cons (pv 2) pa_nil)))))))
      (pss_one (ps_raiseText rfl L hr (takes_of rfl rfl rfl rfl) (by exact (pa_cons (pv 1) pa_nil)))) pss_nil)
      (pss_one (ps_ret (pe_slice sl_str (pe_ix ix_list (pv 0) (pv 1) (fun _ _ => rfl)) (po_some (pe_callB call_len_str (by rfl) m_len PySem.boot_len (pa_cons (pv 2) pa_nil))) (po_none))))), ?_⟩
    have lls : (strV ls).length = ls.length := List.length_map _
    refine ⟨_, rfl, _, rfl, a, _, rfl, .inl (SqL.of ha), _, _, rfl, rfl, _, rfl, ite2 (fun h1 => ?_) (fun h1 => ?_)⟩
    · have h1 := of_decide_eq_true h1
      exact ⟨_, rfl, _, rfl, q2 fun r e => by have := (List.getElem?_eq_some_iff.mp e).1; omega⟩
    · have h1 : ¬ ((strV ls).length : Int) ≤ (n : Int) := fun z => h1 (decide_eq_true z)
      obtain ⟨l, hn⟩ : ∃ l, ls[n]? = some l := ⟨_, List.getElem?_eq_getElem (by omega)⟩
      have ll := hl l (List.mem_of_getElem? hn)
      have lS : (Sg l).length = l.length := rfl
      have g1 : (strV ls)[n]? = some (V.str (Sg l)) := get_map _ hn
      refine ⟨_, rfl, _, rfl, a, _, _, _, rfl, rfl, SqL.of ha, atI_nat g1, rfl, _, rfl, _, _, rfl, rfl, _, rfl, ite2 (fun h2 => ?_) (fun h2 => ?_)⟩
      · refine ⟨_, rfl, _, rfl, q2 fun r e => ?_⟩
        rw [hn] at e
        rw [Option.some.inj e, starts_tl] at h2
        cases h2
      · have h2 : Txt.startswith (Sg l) z = true := by
          cases e : Txt.startswith (Sg l) z with
          | true => rfl
          | false => exact absurd (by rw [e]; rfl) h2
        obtain ⟨r, rfl⟩ := starts_iff.mp h2
        refine ⟨_, rfl, _, rfl, a, _, _, _, rfl, rfl, SqL.of ha, atI_nat g1, _, rfl, z, rfl, by omega, _, rfl, _, rfl, by omega, ?_⟩
        rw [cutS_from, len_tl z]
        show Q (V.str (Sg (List.drop (tl z).length (tl z ++ r)))) H
        rw [List.drop_left]
        exact q1 r hn
def spTL (Ts : List Addr) (C : Addr) : Sp := fun vs H Q E => ∃ (a : Addr) (ls : Path) (n : Nat) (z : Str), vs = [.ref a, .int (n : Int), .str z] ∧ LsAt H a ls ∧ z.length ≤ 1000 ∧ TG Ts H ∧
  (∀ r, ls[n]? = some (tl z ++ r) → okTx r → ∀ H', Tbs Ts H H' → Q (.str (Sg r)) H') ∧ ((∀ r, ls[n]? = some (tl z ++ r) → ¬ okTx r) → ∀ H', Tbs Ts H H' → Out C E n H')
theorem ok_TL {f fOL fTX : Addr} {fd fdOL fdTX : FuncData} (F : Fun K "read_text_line" "read_text_line" sTL f fd) (L : PySem.TextX.TextTxt K mg C fI)
    (GOL : FnOk P w K mg base (L2.CX P w) 1 fOL fdOL ["lines", "at", "start"] (spOL C)) (bOL : Binds K fdOL ["lines", "at", "start"] []) (gOL : mg "rest_of_line" = some (.ref fOL)) (kOL : PySem.W.keepIn K (.ref fOL) = true)
    (GTX : FnOk P w K mg base CX0 2 fTX fdTX ["text"] (spTX Ts)) (bTX : Binds K fdTX ["text"] []) (gTX : mg "is_text" = some (.ref fTX)) (kTX : PySem.W.keepIn K (.ref fTX) = true) : FnOk P w K mg base (L2.CX P w) 3 f fd ["lines", "at", "start"] (spTL Ts C) := by
  refine F.okX scTL (fun vs H Q E h => ?_) (fun cdv A outer s H vs Q E hr h => ?_)
  · obtain ⟨a, ls, n, z, rfl, _⟩ := h
    rfl
  · obtain ⟨a, ls, n, z, rfl, hL, lz, g, q1, q2⟩ := h
    have hu := hr.units
    have hu1 := hu_of hr
    have hr1 : Room 1 _ := hr.mono (by decide)
    have hr2 : Room 2 _ := hr.mono (by decide)
    have zl := zl
    refine ⟨_, (pss_cons (ps_set (i := 3) scTL.nd rfl (.inl rfl) (pe_call GOL hr1 (by rfl) gOL kOL bOL .nil (passes_call (takes_of rfl rfl rfl rfl) (fun _ _ _ _ h => h)) (pa_cons (pv 0) (pa_cons (pv 1) (pa_cons (pv 2) pa_nil)))))
      (pss_cons (ps_if (pt_not (pt_val (pe_call GTX hr2 (by rfl) gTX kTX bTX .nil pass0 (pa_cons (pv 3) pa_nil))))
      (pss_one (ps_raiseText rfl L hr (takes_of rfl rfl rfl rfl) (by exact (pa_cons (pv 1) pa_nil)))) pss_nil)
      (pss_one (ps_ret (pv 3))))), ?_⟩
    have lt := len_tl z
    refine ⟨_, rfl, _, rfl, _, rfl, a, ls, n, z, rfl, hL, lz, fun r hr => ?_, fun no => q2 (fun r e => absurd e (no r)) H (Tbs.refl g)⟩
    have ll := hL.ll _ (List.mem_of_getElem? hr)
    rw [List.length_append] at ll
    refine ⟨_, rfl, r, rfl, by omega, g, fun H1 t1 => ⟨_, rfl, ite2 (fun h1 => ?_) (fun h1 => ?_)⟩⟩
    · refine ⟨_, rfl, _, rfl, q2 (fun r' e => ?_) H1 t1⟩
      rw [hr] at e
      rw [← List.append_cancel_left (Option.some.inj e)]
      intro ok
      rw [decide_eq_true ok] at h1
      cases h1
    · refine ⟨_, rfl, q1 r hr ?_ H1 t1⟩
      exact Decidable.byContradiction fun z => h1 (by rw [decide_eq_false z]; rfl)
def spRVs (Ts : List Addr) : Sp := fun vs H Q _ => ∃ (t : List Nat), vs = [.str (Sg t)] ∧ t.length ≤ 70000 ∧ TG Ts H ∧ ∀ H' p ws, Tbs Ts H H' → H p = none → H' p = some (.lst ws) → OVs H' ws (readVs t) → Q (.ref p) H'
theorem ok_RVs {f fRV : Addr} {fd fdRV : FuncData} (F : Fun K "read_vertices" "read_vertices" sRVs f fd)
    (GRV : FnOk P w K mg base CX0 6 fRV fdRV ["text"] (spRV Ts)) (bRV : Binds K fdRV ["text"] []) (gRV : mg "read_vertex" = some (.ref fRV)) (kRV : PySem.W.keepIn K (.ref fRV) = true) : FnOk P w K mg base CX0 7 f fd ["text"] (spRVs Ts) := by
  refine F.ok scRVs (fun vs H Q E h => ?_) (fun cdv A outer s H vs Q E hr h => ?_)
  · obtain ⟨t, rfl, _⟩ := h
    rfl
  · obtain ⟨t, rfl, lt, g, q⟩ := h
    have hu := hr.units
    have hu1 := hu_of hr
    have hr1 : Room 1 _ := hr.mono (by decide)
    have hr2 : Room 2 _ := hr.mono (by decide)
    have hr3 : Room 3 _ := hr.mono (by decide)
    have hr4 : Room 4 _ := hr.mono (by decide)
    have hr5 : Room 5 _ := hr.mono (by decide)
    have hr6 : Room 6 _ := hr.mono (by decide)
    have zl := zl
    refine ⟨_, (pss_cons (ps_if (pt_cmpR op_eq (pv 0) (pe_str) (nomark _))
      (pss_one (ps_ret (pe_lst (pa_nil)))) pss_nil)
      (pss_one (ps_ret (pe_lc (own := [("part", 1)]) (g := gName 1) (tt := tYes) (te := tCall (spRV Ts) [] E0 (tCons (tVar 1) tNil)) rfl scRVs.nd (pi_list (pe_split (pv 0) (pe_str))) (blkOk_by (N := nRVs) (sc := defScope sRVs) (by decide +kernel)) (fun _ _ _ _ _ => by exact pg_name (i := 1) scRVs.nd rfl (.inl rfl)) (fun _ _ _ _ _ => pts_nil) (fun _ _ _ _ _ => by exact pe_call GRV hr6 (by rfl) gRV kRV bRV .nil pass0 (pa_cons (pv 1) pa_nil)))))), ?_⟩
    have lS : (Sg t).length = t.length := rfl
    have ek : Str.ofString "-" = Sg [45] := by decide +kernel
    have zl2 := zl
    obtain ⟨c1, c2⟩ := cut_len 44 t
    unfold readVs at q
    by_cases hn : t = [45]
    · subst hn
      refine ⟨_, rfl, rfl, _, rfl, ite2 (fun _ => ⟨by show 0 ≤ sizeLine; omega, fun p np => q _ p [] ((Tbs.refl g).same (same_new np)) np upd_same .nil⟩) (fun z => absurd (decide_eq_true (by rw [ek])) z)⟩
    · rw [if_neg hn] at q
      refine ⟨_, rfl, rfl, _, rfl, no_if (by rw [decide_eq_true_eq, ek]; intro z; exact hn (sg_inj (V.str.inj z))) ?_⟩
      refine ⟨_, rfl, ⟨_, rfl⟩, _, _, rfl, rfl, by decide +kernel, by omega, fun p np => ?_⟩
      rw [show Str.ofString "," = ⟨#[44]⟩ by decide +kernel, split_words]
      have e0 : tl (Sg t) = t := rfl
      rw [e0]
      have s1 : Same H (upd H p (.lst (strV (cutAt 44 t)))) := same_new np
      have ep : (upd H p (.lst (strV (cutAt 44 t)))) p = some (.lst (strV (cutAt 44 t))) := upd_same
      generalize upd H p (.lst (strV (cutAt 44 t))) = H1 at s1 ep
      generalize cutAt 44 t = ps at *
      have t1 := (Tbs.refl g).same s1
      refine ⟨p, rfl, ⟨_, SqL.of ep⟩, fun D nD => ?_⟩
      obtain ⟨nD0, nDT⟩ := t1.isNew nD
      have lx : (strV ps).length = ps.length := List.length_map _
      refine lc_list (xs := strV ps) (fun i H' => Tbs Ts H H' ∧ H' p = some (.lst (strV ps)) ∧ ∃ acc, H' D = some (.lst acc) ∧ OVs H' acc ((ps.map readVx).take i)) ⟨t1.updN nD0 nDT, same_new nD _ _ ep, [], upd_same, .nil⟩ ?_ ?_ ?_
      · exact fun i H' _ z => SqL.of z.2.1
      · rintro i y H2 hy ⟨t2, ep2, acc, eD, ea⟩
        obtain ⟨l, gl, rfl⟩ := map_get hy
        have ll := c2 l (List.mem_of_getElem? gl)
        have gx : (ps.map readVx)[i]? = some (readVx l) := by rw [List.getElem?_map, gl]; rfl
        refine ⟨rfl, _, rfl, Sg l, rfl, by show l.length ≤ _; omega, t2.tg, fun H3 v t3 hv => ?_⟩
        have hv : OptR VxAt H3 v (readVx l) := hv
        have eD3 := t3.lst t2.tg eD
        have la : acc.length = ((ps.map readVx).take i).length := ea.length
        rw [List.length_take] at la
        have t5 := (t2.trans t3).updN (o := .lst (acc ++ [v])) nD0 nDT
        have lf : LF (fun b => b ≠ D) H3 (upd H3 D (.lst (acc ++ [v]))) := lf_upd eD3 (fun z => z rfl)
        have lim : min i (ps.map readVx).length ≤ ps.length := by rw [List.length_map]; omega
        refine ⟨acc, eD3, by omega, t5, ?_, acc ++ [v], upd_same, ?_⟩
        · have npD : p ≠ D := fun z => by rw [← z, ep] at nD; cases nD
          rw [upd_ne npD]
          exact t3.lst t2.tg ep2
        · rw [take_snoc gx]
          exact each_snoc (OVs.ts ((t3.ts t2.tg).trans lf.ts) ea) (hv.ts lf.ts fun _ z => z.ts lf.ts)
      · rintro H2 ⟨t2, _, acc, eD, ea⟩
        rw [lx, show ps.length = (ps.map readVx).length from (List.length_map _).symm, List.take_length] at ea
        exact q H2 D acc t2 nD0 eD ea
end
end K20
namespace K20
open PySem PySem.Spec PyProof.Rows L2 TL TR QR
open GxR (TabB TabG Tabbed)
open PySem.W (EachIs)
abbrev sCO : Stmt := topS 38
abbrev nCO : List Str := ["words", "word", "rest", "count"]
theorem scCO : FnScope nCO ["words"] (defScope sCO) := ⟨rfl, rfl, rfl, by decide +kernel, rfl, by decide +kernel, by decide +kernel⟩
def OVsAt (N : Addr → Prop) (H : Hp) (v : V) (xs : List (Option Vx)) : Prop := ∃ a ws, v = .ref a ∧ N a ∧ H a = some (.lst ws) ∧ OVs H ws xs
theorem OVsAt.lf {N : Addr → Prop} {H H' : Hp} {v : V} {xs : List (Option Vx)} (s : LF N H H') (h : OVsAt N H v xs) : OVsAt N H' v xs := by
  obtain ⟨a, ws, e, n, e1, e2⟩ := h
  exact ⟨a, ws, e, n, s.ls _ _ n e1, e2.ts s.ts⟩
theorem OVsAt.imp {N N' : Addr → Prop} {H : Hp} {v : V} {xs : List (Option Vx)} (k : ∀ b, N b → N' b) (h : OVsAt N H v xs) : OVsAt N' H v xs := by
  obtain ⟨a, ws, e, n, e1, e2⟩ := h
  exact ⟨a, ws, e, k _ n, e1, e2⟩
def RcAt (N : Addr → Prop) (H : Hp) (v : V) : RC → Prop
  | .none => v = .non
  | .add p => ∃ a pv, v = .ref a ∧ H a = some (.tup [.str "add", pv]) ∧ OptR PathAt H pv p
  | .back n => ∃ a pv, v = .ref a ∧ H a = some (.tup [.str "back", pv]) ∧ OptR NmAt H pv n
  | .drop f xs => ∃ a fv xv, v = .ref a ∧ H a = some (.tup [.str "drop", fv, xv]) ∧ OptR VxAt H fv f ∧ OVsAt N H xv xs
  | .move f p xs => ∃ a fv pv xv, v = .ref a ∧ H a = some (.tup [.str "move", fv, pv, xv]) ∧ OptR VxAt H fv f ∧ OptR PathAt H pv p ∧ OVsAt N H xv xs
  | .cut f xs => ∃ a fv xv, v = .ref a ∧ H a = some (.tup [.str "cut", fv, xv]) ∧ OptR VxAt H fv f ∧ OVsAt N H xv xs
  | .order f x y => ∃ a fv xv yv, v = .ref a ∧ H a = some (.tup [.str "order", fv, xv, yv]) ∧ OptR VxAt H fv f ∧ OptR VxAt H xv x ∧ OptR VxAt H yv y
  | .lines f xs ys k => ∃ a fv xv yv tv, v = .ref a ∧ H a = some (.tup [.str "lines", fv, xv, yv, tv]) ∧ OptR VxAt H fv f ∧ OVsAt N H xv xs ∧ OVsAt N H yv ys ∧ TsAt N H tv (List.replicate k [])
theorem readC_none {w : List Nat} {r : Path} (h1 : ¬ (w = wAdd ∧ r.length = 1)) (h2 : ¬ (w = wBack ∧ r.length = 1)) (h3 : ¬ ((w = wDrop ∨ w = wCut) ∧ r.length = 2)) (h4 : ¬ (w = wMove ∧ r.length = 3)) (h5 : ¬ (w = wOrder ∧ r.length = 3)) (h6 : ¬ (w = wLines ∧ r.length = 4)) : readC (w :: r) = .none := by
  match r with
  | [] => rfl
  | [a] => 
    have e1 : w ≠ wAdd := fun z => h1 ⟨z, rfl⟩
    have e2 : w ≠ wBack := fun z => h2 ⟨z, rfl⟩
    dsimp only [readC]
    rw [if_neg e1, if_neg e2]
  | [a, b] => 
    have e1 : w ≠ wDrop := fun z => h3 ⟨.inl z, rfl⟩
    have e2 : w ≠ wCut := fun z => h3 ⟨.inr z, rfl⟩
    dsimp only [readC]
    rw [if_neg e1, if_neg e2]
  | [a, b, c] => 
    have e1 : w ≠ wMove := fun z => h4 ⟨z, rfl⟩
    have e2 : w ≠ wOrder := fun z => h5 ⟨z, rfl⟩
    dsimp only [readC]
    rw [if_neg e1, if_neg e2]
  | [a, b, c, d] => 
    have e1 : w ≠ wLines := fun z => h6 ⟨z, rfl⟩
    dsimp only [readC]
    rw [if_neg e1]
  | _ :: _ :: _ :: _ :: _ :: _ => rfl
theorem kw_dec {w l : List Nat} {x : Str} (e : V.str (Sg l) = V.str x) : decide (V.str (Sg w) = V.str x) = decide (w = l) := by
  rw [← e]
  exact decide_eq_decide.mpr ⟨fun z => sg_inj (V.str.inj z), fun z => by rw [z]⟩
theorem len_dec {r : Path} {k : Nat} : decide (V.int ((strV r).length : Int) = V.int (k : Int)) = decide (r.length = k) := by
  have l : (strV r).length = r.length := List.length_map _
  rw [l]
  exact decide_eq_decide.mpr ⟨fun z => by have := V.int.inj z; omega, fun z => by rw [z]⟩
theorem two_of : ∀ {r : Path}, r.length = 2 → ∃ a b, r = [a, b]
  | [a, b], _ => ⟨a, b, rfl⟩
theorem three_of : ∀ {r : Path}, r.length = 3 → ∃ a b c, r = [a, b, c]
  | [a, b, c], _ => ⟨a, b, c, rfl⟩
theorem eqv_str {a b : Str} : eqV (.str b) (.str a) = decide (V.str a = V.str b) := by
  show decide (b = a) = _
  exact decide_eq_decide.mpr ⟨fun z => by rw [z], fun z => (V.str.inj z).symm⟩
theorem in_two {a b c : Str} : inV (.str a) [.str b, .str c] = (decide (V.str a = V.str b) || decide (V.str a = V.str c)) := by
  unfold inV
  rw [List.any_cons, List.any_cons, List.any_nil, Bool.or_false, eqv_str, eqv_str]
section
variable {P : Program} {w : World} {K : PySem.W.Frag} {mg : Str → Option Value} {base : Heap} {H : Hp} {v : V} {Q : VK} {E : XK} {Ts : List Addr}
theorem rvo {t : List Nat} (l : t.length ≤ 70000) (g : TG Ts H) (q : ∀ H' v, Tbs Ts H H' → OptR VxAt H' v (readVx t) → Q v H') : spRV Ts [.str (Sg t)] H Q E := ⟨Sg t, rfl, by show t.length ≤ _; omega, g, q⟩
theorem rio {t : List Nat} (l : t.length ≤ 70000) (g : TG Ts H) (q : ∀ H' v, Tbs Ts H H' → OptR NmAt H' v (readNm t) → Q v H') : spRI Ts [.str (Sg t)] H Q E := ⟨Sg t, rfl, by show t.length ≤ _; omega, g, q⟩
theorem rpo {t : List Nat} (l : t.length ≤ 70000) (g : TG Ts H) (q : ∀ H' v, Tbs Ts H H' → OptR PathAt H' v (readPath t) → Q v H') : spRP Ts [.str (Sg t)] H Q E := ⟨Sg t, rfl, by show t.length ≤ _; omega, g, q⟩
theorem rso {t : List Nat} (l : t.length ≤ 70000) (g : TG Ts H) (q : ∀ H' v, Tbs Ts H H' → OVsAt (fun b => H b = none) H' v (readVs t) → Q v H') : spRVs Ts [.str (Sg t)] H Q E := ⟨t, rfl, l, g, fun H' p ws t n h e => q H' _ t ⟨p, ws, rfl, n, h, e⟩⟩
theorem OptR.vts {H H' : Hp} {o : Option Vx} (s : TS H H') (h : OptR VxAt H v o) : OptR VxAt H' v o := OptR.ts s (fun _ z => z.ts s) h
theorem OptR.nts {H H' : Hp} {o : Option Nm} (s : TS H H') (h : OptR NmAt H v o) : OptR NmAt H' v o := OptR.ts s (fun _ z => z.ts s) h
theorem OptR.pts {H H' : Hp} {o : Option Path} (s : TS H H') (h : OptR PathAt H v o) : OptR PathAt H' v o := OptR.ts s (fun _ z => z.ts s) h
def spCO (Ts : List Addr) : Sp := fun vs H Q _ => ∃ (a : Addr) (x : List Nat) (r : Path), vs = [.ref a] ∧ H a = some (.lst (strV (x :: r))) ∧ (∀ l ∈ r, l.length ≤ 70000) ∧ r.length ≤ 100000 ∧ TG Ts H ∧ ∀ H' v, Tbs Ts H H' → RcAt (fun b => H b = none) H' v (readC (x :: r)) → Q v H'
theorem ok_CO {T1 f fRP fRI fRV fRVs fN : Addr} {Ts : List Addr} {fd fdRP fdRI fdRV fdRVs fdN : FuncData} (hT1 : T1 ∈ Ts) (F : Fun K "change_of" "change_of" sCO f fd)
    (GRP : FnOk P w K mg base CX0 4 fRP fdRP ["text"] (spRP Ts)) (bRP : Binds K fdRP ["text"] []) (gRP : mg "read_path" = some (.ref fRP)) (kRP : PySem.W.keepIn K (.ref fRP) = true)
    (GRI : FnOk P w K mg base CX0 5 fRI fdRI ["text"] (spRI Ts)) (bRI : Binds K fdRI ["text"] []) (gRI : mg "read_id" = some (.ref fRI)) (kRI : PySem.W.keepIn K (.ref fRI) = true)
    (GRV : FnOk P w K mg base CX0 6 fRV fdRV ["text"] (spRV Ts)) (bRV : Binds K fdRV ["text"] []) (gRV : mg "read_vertex" = some (.ref fRV)) (kRV : PySem.W.keepIn K (.ref fRV) = true)
    (GRVs : FnOk P w K mg base CX0 7 fRVs fdRVs ["text"] (spRVs Ts)) (bRVs : Binds K fdRVs ["text"] []) (gRVs : mg "read_vertices" = some (.ref fRVs)) (kRVs : PySem.W.keepIn K (.ref fRVs) = true)
    (GN : FnOk P w K mg base CX0 2 fN fdN ["text", "most"] (spNum T1)) (bN : Binds K fdN ["text", "most"] []) (gN : mg "read_number" = some (.ref fN)) (kN : PySem.W.keepIn K (.ref fN) = true)
    (m_len : mg "len" = none) : FnOk P w K mg base CX0 8 f fd ["words"] (spCO Ts) := by
  refine F.ok scCO (fun vs H Q E h => ?_) (fun cdv A outer s H vs Q E hr h => ?_)
  · obtain ⟨a, x, r, rfl, _⟩ := h
    rfl
  · obtain ⟨a, x, r, rfl, ha, hl, hn, g, q⟩ := h
    have hu := hr.units
    have hu1 := hu_of hr
    have hr1 : Room 1 _ := hr.mono (by decide)
    have hr2 : Room 2 _ := hr.mono (by decide)
    have hr3 : Room 3 _ := hr.mono (by decide)
    have hr4 : Room 4 _ := hr.mono (by decide)
    have hr5 : Room 5 _ := hr.mono (by decide)
    have hr6 : Room 6 _ := hr.mono (by decide)
    have hr7 : Room 7 _ := hr.mono (by decide)
    have zl := zl
    refine ⟨_, (pss_cons (ps_par (i := 1) (j := 2) (by rfl) scCO.nd rfl rfl (by decide) rfl rfl (pa_cons (pe_ix ix_list (pv 0) (pe_int) (fun _ _ => rfl)) (pa_cons (pe_slice sl_list (pv 0) (po_some (pe_int)) (po_none)) pa_nil)) (by rfl))
      (pss_cons (ps_if (PW.pt (pw_and (pt_cmpR op_eq (pv 1) (pe_str) (nomark _)) (pw_and1 (pt_cmpR op_eq (pe_callB call_len_seq (by rfl) m_len PySem.boot_len (pa_cons (pv 2) pa_nil)) (pe_int) (nomark _)))))
      (pss_one (ps_ret (pe_tup (pa_cons (pv 1) (pa_cons (pe_call GRP hr4 (by rfl) gRP kRP bRP .nil pass0 (pa_cons (pe_ix ix_list (pv 2) (pe_int) (fun _ _ => rfl)) pa_nil)) pa_nil))))) pss_nil)
      (pss_cons (ps_if (PW.pt (pw_and (pt_cmpR op_eq (pv 1) (pe_str) (nomark _)) (pw_and1 (pt_cmpR op_eq (pe_callB call_len_seq (by rfl) m_len PySem.boot_len (pa_cons (pv 2) pa_nil)) (pe_int) (nomark _)))))
      (pss_one (ps_ret (pe_tup (pa_cons (pv 1) (pa_cons (pe_call GRI hr5 (by rfl) gRI kRI bRI .nil pass0 (pa_cons (pe_ix ix_list (pv 2) (pe_int) (fun _ _ => rfl)) pa_nil)) pa_nil))))) pss_nil)
      (pss_cons (ps_if (PW.pt (pw_and (pt_cmpR op_in_seq (pv 1) (pe_tup (pa_cons (pe_str) (pa_cons (pe_str) pa_nil))) (by rfl)) (pw_and1 (pt_cmpR op_eq (pe_callB call_len_seq (by rfl) m_len PySem.boot_len (pa_cons (pv 2) pa_nil)) (pe_int) (nomark _)))))
      (pss_one (ps_ret (pe_tup (pa_cons (pv 1) (pa_cons (pe_call GRV hr6 (by rfl) gRV kRV bRV .nil pass0 (pa_cons (pe_ix ix_list (pv 2) (pe_int) (fun _ _ => rfl)) pa_nil)) (pa_cons (pe_call GRVs hr7 (by rfl) gRVs kRVs bRVs .nil pass0 (pa_cons (pe_ix ix_list (pv 2) (pe_int) (fun _ _ => rfl)) pa_nil)) pa_nil)))))) pss_nil)
      (pss_cons (ps_if (PW.pt (pw_and (pt_cmpR op_eq (pv 1) (pe_str) (nomark _)) (pw_and1 (pt_cmpR op_eq (pe_callB call_len_seq (by rfl) m_len PySem.boot_len (pa_cons (pv 2) pa_nil)) (pe_int) (nomark _)))))
      (pss_one (ps_ret (pe_tup (pa_cons (pv 1) (pa_cons (pe_call GRV hr6 (by rfl) gRV kRV bRV .nil pass0 (pa_cons (pe_ix ix_list (pv 2) (pe_int) (fun _ _ => rfl)) pa_nil)) (pa_cons (pe_call GRP hr4 (by rfl) gRP kRP bRP .nil pass0 (pa_cons (pe_ix ix_list (pv 2) (pe_int) (fun _ _ => rfl)) pa_nil)) (pa_cons (pe_call GRVs hr7 (by rfl) gRVs kRVs bRVs .nil pass0 (pa_cons (pe_ix ix_list (pv 2) (pe_int) (fun _ _ => rfl)) pa_nil)) pa_nil))))))) pss_nil)
      (pss_cons (ps_if (PW.pt (pw_and (pt_cmpR op_eq (pv 1) (pe_str) (nomark _)) (pw_and1 (pt_cmpR op_eq (pe_callB call_len_seq (by rfl) m_len PySem.boot_len (pa_cons (pv 2) pa_nil)) (pe_int) (nomark _)))))
      (pss_one (ps_ret (pe_tup (pa_cons (pv 1) (pa_cons (pe_call GRV hr6 (by rfl) gRV kRV bRV .nil pass0 (pa_cons (pe_ix ix_list (pv 2) (pe_int) (fun _ _ => rfl)) pa_nil)) (pa_cons (pe_call GRV hr6 (by rfl) gRV kRV bRV .nil pass0 (pa_cons (pe_ix ix_list (pv 2) (pe_int) (fun _ _ => rfl)) pa_nil)) (pa_cons (pe_call GRV hr6 (by rfl) gRV kRV bRV .nil pass0 (pa_cons (pe_ix ix_list (pv 2) (pe_int) (fun _ _ => rfl)) pa_nil)) pa_nil))))))) pss_nil)
      (pss_cons (ps_if (PW.pt (pw_and (pt_cmpR op_eq (pv 1) (pe_str) (nomark _)) (pw_and1 (pt_cmpR op_eq (pe_callB call_len_seq (by rfl) m_len PySem.boot_len (pa_cons (pv 2) pa_nil)) (pe_int) (nomark _)))))
      (pss_cons (ps_set (i := 3) scCO.nd rfl (.inl rfl) (pe_call GN hr2 (by rfl) gN kN bN .nil pass0 (pa_cons (pe_ix ix_list (pv 2) (pe_int) (fun _ _ => rfl)) (pa_cons (pe_int) pa_nil))))
      (pss_one (ps_ret (pe_tup (pa_cons (pv 1) (pa_cons (pe_call GRV hr6 (by rfl) gRV kRV bRV .nil pass0 (pa_cons (pe_ix ix_list (pv 2) (pe_int) (fun _ _ => rfl)) pa_nil)) (pa_cons (pe_call GRVs hr7 (by rfl) gRVs kRVs bRVs .nil pass0 (pa_cons (pe_ix ix_list (pv 2) (pe_int) (fun _ _ => rfl)) pa_nil)) (pa_cons (pe_call GRVs hr7 (by rfl) gRVs kRVs bRVs .nil pass0 (pa_cons (pe_ix ix_list (pv 2) (pe_int) (fun _ _ => rfl)) pa_nil)) (pa_cons (pe_op op_rep (pe_lst (pa_cons (pe_str) pa_nil)) (pe_orT (pv 3) (pe_one pe_int))) pa_nil))))))))) pss_nil)
      (pss_one (ps_ret (pe_non)))))))))), ?_⟩
    have two : 2 ≤ sizeLine := by omega
    refine ⟨_, rfl, a, _, _, _, rfl, rfl, SqL.of ha, atI_nat (j := 0) rfl, _, rfl, _, rfl, a, _, rfl, SqL.of ha, fun b nb => ⟨_, _, rfl, ?_⟩⟩
    rw [show cutV (strV (x :: r)) (some 1) none = strV r from cutV_one _ _]
    have t1 := (Tbs.refl g).same (same_new (o := .lst (strV r)) nb)
    have er : (upd H b (.lst (strV r))) b = some (.lst (strV r)) := upd_same
    generalize upd H b (.lst (strV r)) = H1 at t1 er
    have two : 2 ≤ sizeLine := by omega
    try dsimp only [tNext, tSeq, tIfS, tAsg, gName, tC]
    try clear hc
    refine and_dec (p := x = wAdd) (q := r.length = 1) (fun R kk => ⟨_, rfl, rfl, _, rfl, to_dec (kw_dec kw_add) (kk _ same_refl)⟩) (fun _ Hx sx R kk => ⟨_, rfl, b, _, rfl, .inl (SqL.of (sx _ _ er)), rfl, _, rfl, to_dec len_dec (kk _ same_refl)⟩) fun Hx sx => ?_
    have t1 := t1.same sx
    have er := sx _ _ er
    clear sx
    refine ite2 (fun hc => ?_) (fun hc => ?_)
    · obtain ⟨rfl, h1⟩ := of_decide_eq_true hc
      obtain ⟨y, rfl⟩ : ∃ y, r = [y] := List.length_eq_one_iff.mp h1
      have ly := hl y List.mem_cons_self
      refine ⟨_, rfl, _, rfl, b, _, _, _, rfl, rfl, SqL.of er, atI_nat (j := 0) rfl, ?_⟩
      dsimp only [tNil, tCons, tC, List.cons_append, List.nil_append]
      refine rpo ly t1.tg fun H2 pv t2 hp => ⟨two, fun t nt => q _ _ ((t1.trans t2).same (same_new nt)) ⟨t, pv, rfl, by rw [← kw_add]; exact upd_same, hp.pts (Same.ts (same_new nt))⟩⟩
    have c1 := fun z => hc (decide_eq_true z)
    try dsimp only [tNext, tSeq, tIfS, tAsg, gName, tC]
    try clear hc
    refine and_dec (p := x = wBack) (q := r.length = 1) (fun R kk => ⟨_, rfl, rfl, _, rfl, to_dec (kw_dec kw_back) (kk _ same_refl)⟩) (fun _ Hx sx R kk => ⟨_, rfl, b, _, rfl, .inl (SqL.of (sx _ _ er)), rfl, _, rfl, to_dec len_dec (kk _ same_refl)⟩) fun Hx sx => ?_
    have t1 := t1.same sx
    have er := sx _ _ er
    clear sx
    refine ite2 (fun hc => ?_) (fun hc => ?_)
    · obtain ⟨rfl, h1⟩ := of_decide_eq_true hc
      obtain ⟨y, rfl⟩ : ∃ y, r = [y] := List.length_eq_one_iff.mp h1
      have ly := hl y List.mem_cons_self
      refine ⟨_, rfl, _, rfl, b, _, _, _, rfl, rfl, SqL.of er, atI_nat (j := 0) rfl, ?_⟩
      dsimp only [tNil, tCons, tC, List.cons_append, List.nil_append]
      refine rio ly t1.tg fun H2 pv t2 hp => ⟨two, fun t nt => q _ _ ((t1.trans t2).same (same_new nt)) ⟨t, pv, rfl, by rw [← kw_back]; exact upd_same, hp.nts (Same.ts (same_new nt))⟩⟩
    have c2 := fun z => hc (decide_eq_true z)
    clear hc
    refine and_dec (p := x = wDrop ∨ x = wCut) (q := r.length = 2) (fun R kk => ⟨_, rfl, two, fun u nu => ⟨u, _, rfl, .inr (SqT.of upd_same), rfl, rfl, _, rfl, ?_⟩⟩) (fun _ Hx sx R kk => ⟨_, rfl, b, _, rfl, .inl (SqL.of (sx _ _ er)), rfl, _, rfl, to_dec len_dec (kk _ same_refl)⟩) fun Hx sx => ite2 (fun hc => ?_) (fun hc => ?_)
    · rw [if_neg Bool.false_ne_true]
      refine to_dec ?_ (kk _ (same_new nu))
      rw [in_two, kw_dec kw_drop, kw_dec kw_cut]
      exact (Bool.decide_or _ _).symm
    · have t1 := t1.same sx
      have er := sx _ _ er
      obtain ⟨h0, h1⟩ := of_decide_eq_true hc
      obtain ⟨y, z, rfl⟩ : ∃ y z, r = [y, z] := two_of h1
      have ly := hl y List.mem_cons_self
      have lz := hl z (List.mem_cons_of_mem _ List.mem_cons_self)
      refine ⟨_, rfl, _, rfl, b, _, _, _, rfl, rfl, SqL.of er, atI_nat (j := 0) rfl, ?_⟩
      dsimp only [tNil, tCons, tC, List.cons_append, List.nil_append]
      refine rvo ly t1.tg fun H2 fv t2 hf => ⟨_, rfl, b, _, _, _, rfl, rfl, SqL.of (t2.lst t1.tg er), atI_nat (j := 1) rfl, ?_⟩
      dsimp only [tNil, tCons, tC, List.cons_append, List.nil_append]
      have t12 := t1.trans t2
      refine rso lz t2.tg fun H3 xv t3 hx => ⟨by show 3 ≤ sizeLine; omega, fun t nt => ?_⟩
      rcases h0 with rfl | rfl
      · exact q _ _ ((t12.trans t3).same (same_new nt)) ⟨t, fv, xv, rfl, by rw [← kw_drop]; exact upd_same, hf.vts ((t3.ts t2.tg).trans (Same.ts (same_new nt))), (hx.imp fun b n => t12.none b n).lf (Same.lf (same_new nt))⟩
      · exact q _ _ ((t12.trans t3).same (same_new nt)) ⟨t, fv, xv, rfl, by rw [← kw_cut]; exact upd_same, hf.vts ((t3.ts t2.tg).trans (Same.ts (same_new nt))), (hx.imp fun b n => t12.none b n).lf (Same.lf (same_new nt))⟩
    have t1 := t1.same sx
    have er := sx _ _ er
    have c3 := fun z => hc (decide_eq_true z)
    try dsimp only [tNext, tSeq, tIfS, tAsg, gName, tC]
    try clear hc
    refine and_dec (p := x = wMove) (q := r.length = 3) (fun R kk => ⟨_, rfl, rfl, _, rfl, to_dec (kw_dec kw_move) (kk _ same_refl)⟩) (fun _ Hx sx R kk => ⟨_, rfl, b, _, rfl, .inl (SqL.of (sx _ _ er)), rfl, _, rfl, to_dec len_dec (kk _ same_refl)⟩) fun Hx sx => ?_
    have t1 := t1.same sx
    have er := sx _ _ er
    clear sx
    refine ite2 (fun hc => ?_) (fun hc => ?_)
    · obtain ⟨rfl, h1⟩ := of_decide_eq_true hc
      obtain ⟨y, z, u, rfl⟩ : ∃ y z u, r = [y, z, u] := three_of h1
      have ly := hl y List.mem_cons_self
      have lz := hl z (by simp)
      have lu := hl u (by simp)
      refine ⟨_, rfl, _, rfl, b, _, _, _, rfl, rfl, SqL.of er, atI_nat (j := 0) rfl, ?_⟩
      dsimp only [tNil, tCons, tC, List.cons_append, List.nil_append]
      refine rvo ly t1.tg fun H2 fv t2 hf => ⟨_, rfl, b, _, _, _, rfl, rfl, SqL.of (t2.lst t1.tg er), atI_nat (j := 1) rfl, ?_⟩
      dsimp only [tNil, tCons, tC, List.cons_append, List.nil_append]
      have t12 := t1.trans t2
      refine rpo lz t2.tg fun H3 pv t3 hp => ⟨_, rfl, b, _, _, _, rfl, rfl, SqL.of (t3.lst t2.tg (t2.lst t1.tg er)), atI_nat (j := 2) rfl, ?_⟩
      dsimp only [tNil, tCons, tC, List.cons_append, List.nil_append]
      have t13 := t12.trans t3
      refine rso lu t3.tg fun H4 xv t4 hx => ⟨by show 4 ≤ sizeLine; omega, fun t nt => ?_⟩
      exact q _ _ ((t13.trans t4).same (same_new nt)) ⟨t, fv, pv, xv, rfl, by rw [← kw_move]; exact upd_same, hf.vts (((t3.trans t4).ts t2.tg).trans (Same.ts (same_new nt))), hp.pts ((t4.ts t3.tg).trans (Same.ts (same_new nt))), (hx.imp fun b n => t13.none b n).lf (Same.lf (same_new nt))⟩
    have c4 := fun z => hc (decide_eq_true z)
    try dsimp only [tNext, tSeq, tIfS, tAsg, gName, tC]
    try clear hc
    refine and_dec (p := x = wOrder) (q := r.length = 3) (fun R kk => ⟨_, rfl, rfl, _, rfl, to_dec (kw_dec kw_order) (kk _ same_refl)⟩) (fun _ Hx sx R kk => ⟨_, rfl, b, _, rfl, .inl (SqL.of (sx _ _ er)), rfl, _, rfl, to_dec len_dec (kk _ same_refl)⟩) fun Hx sx => ?_
    have t1 := t1.same sx
    have er := sx _ _ er
    clear sx
    refine ite2 (fun hc => ?_) (fun hc => ?_)
    · obtain ⟨rfl, h1⟩ := of_decide_eq_true hc
      obtain ⟨y, z, u, rfl⟩ : ∃ y z u, r = [y, z, u] := three_of h1
      have ly := hl y List.mem_cons_self
      have lz := hl z (by simp)
      have lu := hl u (by simp)
      refine ⟨_, rfl, _, rfl, b, _, _, _, rfl, rfl, SqL.of er, atI_nat (j := 0) rfl, ?_⟩
      dsimp only [tNil, tCons, tC, List.cons_append, List.nil_append]
      refine rvo ly t1.tg fun H2 fv t2 hf => ⟨_, rfl, b, _, _, _, rfl, rfl, SqL.of (t2.lst t1.tg er), atI_nat (j := 1) rfl, ?_⟩
      dsimp only [tNil, tCons, tC, List.cons_append, List.nil_append]
      have t12 := t1.trans t2
      refine rvo lz t2.tg fun H3 pv t3 hp => ⟨_, rfl, b, _, _, _, rfl, rfl, SqL.of (t3.lst t2.tg (t2.lst t1.tg er)), atI_nat (j := 2) rfl, ?_⟩
      dsimp only [tNil, tCons, tC, List.cons_append, List.nil_append]
      have t13 := t12.trans t3
      refine rvo lu t3.tg fun H4 xv t4 hx => ⟨by show 4 ≤ sizeLine; omega, fun t nt => ?_⟩
      exact q _ _ ((t13.trans t4).same (same_new nt)) ⟨t, fv, pv, xv, rfl, by rw [← kw_order]; exact upd_same, hf.vts (((t3.trans t4).ts t2.tg).trans (Same.ts (same_new nt))), hp.vts ((t4.ts t3.tg).trans (Same.ts (same_new nt))), hx.vts (Same.ts (same_new nt))⟩
    have c5 := fun z => hc (decide_eq_true z)
    try dsimp only [tNext, tSeq, tIfS, tAsg, gName, tC]
    try clear hc
    refine and_dec (p := x = wLines) (q := r.length = 4) (fun R kk => ⟨_, rfl, rfl, _, rfl, to_dec (kw_dec kw_lines) (kk _ same_refl)⟩) (fun _ Hx sx R kk => ⟨_, rfl, b, _, rfl, .inl (SqL.of (sx _ _ er)), rfl, _, rfl, to_dec len_dec (kk _ same_refl)⟩) fun Hx sx => ?_
    have t1 := t1.same sx
    have er := sx _ _ er
    clear sx
    refine ite2 (fun hc => ?_) (fun hc => ?_)
    · obtain ⟨rfl, h1⟩ := of_decide_eq_true hc
      obtain ⟨y, z, u, o, rfl⟩ : ∃ y z u o, r = [y, z, u, o] := by
        match r, h1 with
        | [y, z, u, o], _ => exact ⟨y, z, u, o, rfl⟩
      have ly := hl y List.mem_cons_self
      have lz := hl z (by simp)
      have lu := hl u (by simp)
      have lo := hl o (by simp)
      refine ⟨_, rfl, b, _, _, _, rfl, rfl, SqL.of er, atI_nat (j := 3) rfl, ?_⟩
      dsimp only [tNil, tCons, tC, List.cons_append, List.nil_append]
      refine ⟨Sg o, 200, rfl, by show o.length ≤ _; omega, by decide, t1.tg T1 hT1, fun H2 t2' => ?_⟩
      have t2 : Tbs Ts _ H2 := (Tbs.refl t1.tg).tab t2' hT1
      have er2 := t2.lst t1.tg er
      rw [show readNum (tl (Sg o)) 200 = readNum o 200 from rfl]
      refine ⟨_, rfl, _, rfl, b, _, _, _, rfl, rfl, SqL.of er2, atI_nat (j := 0) rfl, ?_⟩
      dsimp only [tNil, tCons, tC, List.cons_append, List.nil_append]
      have t12 := t1.trans t2
      refine rvo ly t2.tg fun H3 fv t3 hf => ⟨_, rfl, b, _, _, _, rfl, rfl, SqL.of (t3.lst t2.tg er2), atI_nat (j := 1) rfl, ?_⟩
      dsimp only [tNil, tCons, tC, List.cons_append, List.nil_append]
      have er3 := t3.lst t2.tg er2
      have t13 := t12.trans t3
      refine rso lz t3.tg fun H4 xv t4 hx => ⟨_, rfl, b, _, _, _, rfl, rfl, SqL.of (t4.lst t3.tg er3), atI_nat (j := 2) rfl, ?_⟩
      dsimp only [tNil, tCons, tC, List.cons_append, List.nil_append]
      have t14 := t13.trans t4
      refine rso lu t4.tg fun H5 yv t5 hy => ⟨by show 1 ≤ sizeLine; omega, fun l nl => ?_⟩
      have t15 := t14.trans t5
      have el : (upd H5 l (.lst [.str ""])) l = some (.lst [.str ""]) := upd_same
      have s7 : Same H5 (upd H5 l (.lst [.str ""])) := same_new nl
      generalize upd H5 l (.lst [.str ""]) = H7 at el s7
      cases eo : readNum o 200 with
      | none =>
        have hk : (readNum o 200).getD 0 = 0 := by rw [eo]; rfl
        refine ⟨_, rfl, _, rfl, iteF ?_⟩
        obtain ⟨k, k0⟩ : ∃ k : Nat, k = 0 := ⟨0, rfl⟩
        rw [show V.int 0 = V.int ((k : Nat) : Int) by rw [k0]; rfl]
        have hk : (readNum o 200).getD 0 = k := hk.trans k0.symm
        refine ⟨l, _, _, rfl, rfl, el, by omega, by omega, ?_, fun m nm => ?_⟩
        · show 1 * ((k : Nat) : Int).toNat ≤ sizeLine
          omega
        rw [rep_one]
        refine ⟨by show 5 ≤ sizeLine; omega, fun t nt => ?_⟩
        have em : (List.replicate ((k : Nat) : Int).toNat (V.str "")) = strV (List.replicate k []) := by
          unfold strV
          rw [Int.toNat_natCast, List.map_replicate, show (V.str "") = V.str (Sg []) from congrArg V.str (by decide +kernel)]
        rw [em] at nt ⊢
        have s8 : Same H7 (upd H7 m (.lst (strV (List.replicate k [])))) := same_new nm
        have s9 := same_trans (same_trans s7 s8) (same_new (o := .tup [.str (Sg wLines), fv, xv, yv, .ref m]) nt)
        have nm0 : H5 m = none := same_none s7 nm
        refine q _ _ (t15.same s9) ?_
        rw [show readC [wLines, y, z, u, o] = .lines (readVx y) (readVs z) (readVs u) k by rw [← hk]; rfl]
        refine ⟨t, fv, xv, yv, .ref m, rfl, by rw [← kw_lines]; exact upd_same, hf.vts (((t4.trans t5).ts t3.tg).trans (Same.ts s9)), ?_, (hy.imp fun b n => t14.none b n).lf (Same.lf s9), m, rfl, t15.none m nm0, same_new nt _ _ upd_same⟩
        exact ((hx.imp fun b n => t13.none b n).lf (Tbs.lf t5 t4.tg)).lf (Same.lf s9)
      | some k =>
        have hk : (readNum o 200).getD 0 = k := by rw [eo]; rfl
        have l200 := (readNum_some eo).2
        refine ⟨_, rfl, _, rfl, ?_⟩
        rw [bne_nat]
        by_cases hz : k = 0
        · rw [decide_eq_false (by omega)]
          refine iteF ?_
          rw [show V.int 0 = V.int ((k : Nat) : Int) by rw [hz]; rfl]
          refine ⟨l, _, _, rfl, rfl, el, by omega, by omega, ?_, fun m nm => ?_⟩
          · show 1 * ((k : Nat) : Int).toNat ≤ sizeLine
            omega
          rw [rep_one]
          refine ⟨by show 5 ≤ sizeLine; omega, fun t nt => ?_⟩
          have em : (List.replicate ((k : Nat) : Int).toNat (V.str "")) = strV (List.replicate k []) := by
            unfold strV
            rw [Int.toNat_natCast, List.map_replicate, show (V.str "") = V.str (Sg []) from congrArg V.str (by decide +kernel)]
          rw [em] at nt ⊢
          have s8 : Same H7 (upd H7 m (.lst (strV (List.replicate k [])))) := same_new nm
          have s9 := same_trans (same_trans s7 s8) (same_new (o := .tup [.str (Sg wLines), fv, xv, yv, .ref m]) nt)
          have nm0 : H5 m = none := same_none s7 nm
          refine q _ _ (t15.same s9) ?_
          rw [show readC [wLines, y, z, u, o] = .lines (readVx y) (readVs z) (readVs u) k by rw [← hk]; rfl]
          refine ⟨t, fv, xv, yv, .ref m, rfl, by rw [← kw_lines]; exact upd_same, hf.vts (((t4.trans t5).ts t3.tg).trans (Same.ts s9)), ?_, (hy.imp fun b n => t14.none b n).lf (Same.lf s9), m, rfl, t15.none m nm0, same_new nt _ _ upd_same⟩
          exact ((hx.imp fun b n => t13.none b n).lf (Tbs.lf t5 t4.tg)).lf (Same.lf s9)
        · rw [decide_eq_true (by omega)]
          refine iteT ?_
          refine ⟨l, _, _, rfl, rfl, el, by omega, by omega, ?_, fun m nm => ?_⟩
          · show 1 * ((k : Nat) : Int).toNat ≤ sizeLine
            omega
          rw [rep_one]
          refine ⟨by show 5 ≤ sizeLine; omega, fun t nt => ?_⟩
          have em : (List.replicate ((k : Nat) : Int).toNat (V.str "")) = strV (List.replicate k []) := by
            unfold strV
            rw [Int.toNat_natCast, List.map_replicate, show (V.str "") = V.str (Sg []) from congrArg V.str (by decide +kernel)]
          rw [em] at nt ⊢
          have s8 : Same H7 (upd H7 m (.lst (strV (List.replicate k [])))) := same_new nm
          have s9 := same_trans (same_trans s7 s8) (same_new (o := .tup [.str (Sg wLines), fv, xv, yv, .ref m]) nt)
          have nm0 : H5 m = none := same_none s7 nm
          refine q _ _ (t15.same s9) ?_
          rw [show readC [wLines, y, z, u, o] = .lines (readVx y) (readVs z) (readVs u) k by rw [← hk]; rfl]
          refine ⟨t, fv, xv, yv, .ref m, rfl, by rw [← kw_lines]; exact upd_same, hf.vts (((t4.trans t5).ts t3.tg).trans (Same.ts s9)), ?_, (hy.imp fun b n => t14.none b n).lf (Same.lf s9), m, rfl, t15.none m nm0, same_new nt _ _ upd_same⟩
          exact ((hx.imp fun b n => t13.none b n).lf (Tbs.lf t5 t4.tg)).lf (Same.lf s9)
    have c6 := fun z => hc (decide_eq_true z)
    exact q _ _ t1 (by rw [readC_none c1 c2 c3 c4 c5 c6]; rfl)
end
end K20
namespace K20
open PySem PySem.Spec PyProof.Rows L2 TL TR QR
open GxR (TabB TabG Tabbed)
open PySem.W (EachIs)
def VsGood (xs : List (Option Vx)) : Prop := (∀ x, some x ∈ xs → VxOk x) ∧ xs.length ≤ 100000
def RcGood : RC → Prop
  | .none => True
  | .add p => ∀ x, p = some x → okPath x = true
  | .back n => ∀ x, n = some x → NmOk x
  | .drop f xs => (∀ x, f = some x → VxOk x) ∧ VsGood xs
  | .move f p xs => (∀ x, f = some x → VxOk x) ∧ (∀ x, p = some x → okPath x = true) ∧ VsGood xs
  | .cut f xs => (∀ x, f = some x → VxOk x) ∧ VsGood xs
  | .order f a b => (∀ x, f = some x → VxOk x) ∧ (∀ x, a = some x → VxOk x) ∧ ∀ x, b = some x → VxOk x
  | .lines f xs ys k => (∀ x, f = some x → VxOk x) ∧ VsGood xs ∧ VsGood ys ∧ k ≤ 200
theorem vs_good {t : List Nat} (h : t.length ≤ 70000) : VsGood (readVs t) := ⟨fun x hx => readVs_ok hx, by
  unfold readVs
  split
  · exact Nat.zero_le _
  · have := (cut_len 44 t).1
    rw [List.length_map]
    omega⟩
theorem vx_good {t : List Nat} : ∀ x, readVx t = some x → VxOk x := fun x e => (readVx_back e).1
theorem rc_good {w : List Nat} {r : Path} (hl : ∀ l ∈ r, l.length ≤ 70000) : RcGood (readC (w :: r)) := by
  match r with
  | [] => trivial
  | [a] =>
    dsimp only [readC]
    split
    · exact fun x e => (readPath_back e).1
    · split
      · exact fun x e => (readNm_back e).1
      · trivial
  | [a, b] =>
    have lb := hl b (by simp)
    dsimp only [readC]
    split
    · exact ⟨vx_good, vs_good lb⟩
    · split
      · exact ⟨vx_good, vs_good lb⟩
      · trivial
  | [a, b, c] =>
    have lc := hl c (by simp)
    dsimp only [readC]
    split
    · exact ⟨vx_good, fun x e => (readPath_back e).1, vs_good lc⟩
    · split
      · exact ⟨vx_good, vx_good, vx_good⟩
      · trivial
  | [a, b, c, d] =>
    have lb := hl b (by simp)
    have lc := hl c (by simp)
    dsimp only [readC]
    split
    · refine ⟨vx_good, vs_good lb, vs_good lc, ?_⟩
      cases e : readNum d 200 with
      | none => exact Nat.zero_le _
      | some k => exact (readNum_some e).2
    · trivial
  | _ :: _ :: _ :: _ :: _ :: _ => trivial
theorem not_it {b : Bool} (n : (!b) = true) : ¬ b = true := fun z => by
  rw [z] at n
  cases n
theorem is_it {b : Bool} (n : ¬ (!b) = true) : b = true := by
  cases b with
  | true => rfl
  | false => exact absurd rfl n
section
variable {P : Program} {w : World} {K : PySem.W.Frag} {mg : Str → Option Value} {base : Heap} {Ts : List Addr} {H : Hp} {v : V} {Q : VK} {E : XK}
theorem ii_of {o : Option Nm} (hx : OptR NmAt H v o) (ok : ∀ x, o = some x → NmOk x) (g : TG Ts H) (q : ∀ H', Tbs Ts H H' → Q (.bl o.isSome) H') : spII Ts [v] H Q E := by
  cases o with
  | none =>
    have hx : v = .non := hx
    subst hx
    exact ⟨_, rfl, g, .inl ⟨rfl, q⟩⟩
  | some x =>
    have ok := ok x rfl
    obtain ⟨na, lv, rfl, e1, e2⟩ := hx
    refine ⟨_, rfl, g, .inr ⟨na, lv, x.2.1, some x.2.2, some x.1, rfl, e1, Nat.le_trans ok.sm.2.1 (by decide), e2, fun l e => by cases e; exact ok.sm.1.2.1, fun H' t => ?_⟩⟩
    have : idB (some x.1) x.2.1 (some x.2.2) = true := nm_ok.mpr ok
    rw [this]
    exact q H' t
theorem ip_of {o : Option Path} (hx : OptR PathAt H v o) (ok : ∀ x, o = some x → okPath x = true) (g : TG Ts H) (q : ∀ H', Tbs Ts H H' → Q (.bl o.isSome) H') : spIPo Ts [v] H Q E := by
  cases o with
  | none =>
    have hx : v = .non := hx
    subst hx
    exact .inr ⟨rfl, g, q⟩
  | some x =>
    have ok := ok x rfl
    obtain ⟨a, rfl, e1⟩ := hx
    obtain ⟨l1, l2⟩ := path_sm ok
    refine .inl ⟨a, x, rfl, e1, by omega, fun l hl => by have := l2 l hl; omega, g, fun H' t => ?_⟩
    rw [ok]
    exact q H' t
theorem rs_of {N : Addr → Prop} {xs : List (Option Vx)} {l : Nat} {a b : Int} (hx : OVsAt N H v xs) (ok : VsGood xs) (ea : a = (l : Int)) (m : Nat) (eb : b = (m : Int)) (g : TG Ts H) (q : ∀ (b : Bool) H', (b = true ↔ RisP l m xs) → Tbs Ts H H' → Q (.bl b) H') : spRS Ts [v, .int a, .int b] H Q E := by
  obtain ⟨c, ws, rfl, _, e1, e2⟩ := hx
  subst ea
  subst eb
  exact ⟨c, ws, xs, l, m, rfl, e1, e2, ok.1, ok.2, g, q⟩
theorem not_true {b : Bool} {p : Prop} (h : b = true ↔ p) (n : ¬ b = true) : ¬ p := fun z => n (h.mpr z)
def spIC (Ts : List Addr) : Sp := fun vs H Q _ => ∃ (v : V) (c : RC), vs = [v] ∧ RcAt (fun _ => True) H v c ∧ c ≠ .none ∧ RcGood c ∧ TG Ts H ∧ ∀ (b : Bool) H', (b = true ↔ RcOk c) → Tbs Ts H H' → Q (.bl b) H'
theorem ok_IC {f fTO fIP fII fIV fRS fAT Z : Addr} {Ts : List Addr} {fd fdTO fdIP fdII fdIV fdRS fdAT : FuncData} (SZ : SzF K w mg Z) (F : Fun K "is_change" "is_change" sIC f fd)
    (GTO : FnOk P w K mg base CX0 1 fTO fdTO ["value", "size"] spTO) (bTO : Binds K fdTO ["value", "size"] []) (gTO : mg "is_tuple_of" = some (.ref fTO)) (kTO : PySem.W.keepIn K (.ref fTO) = true)
    (GIP : FnOk P w K mg base CX0 3 fIP fdIP ["path"] (spIPo Ts)) (bIP : Binds K fdIP ["path"] []) (gIP : mg "is_path" = some (.ref fIP)) (kIP : PySem.W.keepIn K (.ref fIP) = true)
    (GII : FnOk P w K mg base CX0 4 fII fdII ["name"] (spII Ts)) (bII : Binds K fdII ["name"] []) (gII : mg "is_id" = some (.ref fII)) (kII : PySem.W.keepIn K (.ref fII) = true)
    (GIV : FnOk P w K mg base CX0 5 fIV fdIV ["vertex"] (spIVo Ts)) (bIV : Binds K fdIV ["vertex"] []) (gIV : mg "is_vertex" = some (.ref fIV)) (kIV : PySem.W.keepIn K (.ref fIV) = true)
    (GRS : FnOk P w K mg base CX0 7 fRS fdRS ["vertices", "least", "most"] (spRS Ts)) (bRS : Binds K fdRS ["vertices", "least", "most"] []) (gRS : mg "is_rising" = some (.ref fRS)) (kRS : PySem.W.keepIn K (.ref fRS) = true)
    (GAT : FnOk P w K mg base CX0 4 fAT fdAT ["texts"] (spAT Ts)) (bAT : Binds K fdAT ["texts"] []) (gAT : mg "are_texts" = some (.ref fAT)) (kAT : PySem.W.keepIn K (.ref fAT) = true) :
    FnOk P w K mg base CX0 8 f fd ["change"] (spIC Ts) := by
  refine F.ok scIC (fun vs H Q E h => ?_) (fun cdv A outer s H vs Q E hr h => ?_)
  · obtain ⟨v, c, rfl, _⟩ := h
    rfl
  · obtain ⟨v, c, rfl, hc, nn, ok, g, q⟩ := h
    have hu := hr.units
    have hu1 := hu_of hr
    have hr1 : Room 1 _ := hr.mono (by decide)
    have hr2 : Room 2 _ := hr.mono (by decide)
    have hr3 : Room 3 _ := hr.mono (by decide)
    have hr4 : Room 4 _ := hr.mono (by decide)
    have hr5 : Room 5 _ := hr.mono (by decide)
    have hr6 : Room 6 _ := hr.mono (by decide)
    have hr7 : Room 7 _ := hr.mono (by decide)
    have zl := zl
    refine ⟨_, (pss_cons (ps_set (i := 1) scIC.nd rfl (.inl rfl) (pe_ix ix_tup (pv 0) (pe_int) (fun _ _ => rfl)))
      (pss_cons (ps_if (pt_not (pt_val (pe_call GTO hr1 (by rfl) gTO kTO bTO .nil pass0 (pa_cons (pv 0) (pa_cons (GX.pe_kget (pe_glob (v := V.ref Z) (by rfl) SZ.g rfl) (pv 1) ⟨rfl, rfl, rfl, rfl⟩) pa_nil)))))
      (pss_one (ps_ret (pe_bl))) pss_nil)
      (pss_cons (ps_if (pt_cmpR op_eq (pv 1) (pe_str) (nomark _))
      (pss_one (ps_ret (pe_call GIP hr3 (by rfl) gIP kIP bIP .nil pass0 (pa_cons (pe_ix ix_tup (pv 0) (pe_int) (fun _ _ => rfl)) pa_nil)))) pss_nil)
      (pss_cons (ps_if (pt_cmpR op_eq (pv 1) (pe_str) (nomark _))
      (pss_one (ps_ret (pe_call GII hr4 (by rfl) gII kII bII .nil pass0 (pa_cons (pe_ix ix_tup (pv 0) (pe_int) (fun _ _ => rfl)) pa_nil)))) pss_nil)
      (pss_cons (ps_if (pt_not (pt_val (pe_call GIV hr5 (by rfl) gIV kIV bIV .nil pass0 (pa_cons (pe_ix ix_tup (pv 0) (pe_int) (fun _ _ => rfl)) pa_nil))))
      (pss_one (ps_ret (pe_bl))) pss_nil)
      (pss_cons (ps_if (pt_cmpR op_eq (pv 1) (pe_str) (nomark _))
      (pss_one (ps_ret (pe_and (pe_call GIP hr3 (by rfl) gIP kIP bIP .nil pass0 (pa_cons (pe_ix ix_tup (pv 0) (pe_int) (fun _ _ => rfl)) pa_nil)) (pe_one (pe_call GRS hr7 (by rfl) gRS kRS bRS .nil pass0 (pa_cons (pe_ix ix_tup (pv 0) (pe_int) (fun _ _ => rfl)) (pa_cons (pe_int) (pa_cons (pe_int) pa_nil)))))))) pss_nil)
      (pss_cons (ps_if (pt_cmpR op_eq (pv 1) (pe_str) (nomark _))
      (pss_one (ps_ret (pe_call GRS hr7 (by rfl) gRS kRS bRS .nil pass0 (pa_cons (pe_ix ix_tup (pv 0) (pe_int) (fun _ _ => rfl)) (pa_cons (pe_int) (pa_cons (pe_int) pa_nil)))))) pss_nil)
      (pss_cons (ps_if (pt_cmpR op_eq (pv 1) (pe_str) (nomark _))
      (pss_one (ps_ret (pe_call GRS hr7 (by rfl) gRS kRS bRS .nil pass0 (pa_cons (pe_ix ix_tup (pv 0) (pe_int) (fun _ _ => rfl)) (pa_cons (pe_int) (pa_cons (pe_int) pa_nil)))))) pss_nil)
      (pss_cons (ps_if (pt_cmpR op_eq (pv 1) (pe_str) (nomark _))
      (pss_one (ps_ret (pe_and (pe_call GIV hr5 (by rfl) gIV kIV bIV .nil pass0 (pa_cons (pe_ix ix_tup (pv 0) (pe_int) (fun _ _ => rfl)) pa_nil)) (pe_and (pe_call GIV hr5 (by rfl) gIV kIV bIV .nil pass0 (pa_cons (pe_ix ix_tup (pv 0) (pe_int) (fun _ _ => rfl)) pa_nil)) (pe_one (pe_cmpR (op_neP hu) (pe_ix ix_tup (pv 0) (pe_int) (fun _ _ => rfl)) (pe_ix ix_tup (pv 0) (pe_int) (fun _ _ => rfl)) (nomark _))))))) pss_nil)
      (pss_one (ps_ret (pe_and (pe_call GRS hr7 (by rfl) gRS kRS bRS .nil pass0 (pa_cons (pe_ix ix_tup (pv 0) (pe_int) (fun _ _ => rfl)) (pa_cons (pe_int) (pa_cons (pe_int) pa_nil)))) (pe_and (pe_call GRS hr7 (by rfl) gRS kRS bRS .nil pass0 (pa_cons (pe_ix ix_tup (pv 0) (pe_int) (fun _ _ => rfl)) (pa_cons (pe_int) (pa_cons (pe_int) pa_nil)))) (pe_one (pe_call GAT hr4 (by rfl) gAT kAT bAT .nil pass0 (pa_cons (pe_ix ix_tup (pv 0) (pe_int) (fun _ _ => rfl)) pa_nil)))))))))))))))), ?_⟩
    have lf : ∀ {H'}, Tbs Ts H H' → LF (fun _ => True) H H' := fun t => Tbs.lf t g
    cases c with
    | none => exact absurd rfl nn
    | add p =>
      obtain ⟨a, pv, rfl, h1, h2⟩ := hc
      refine ⟨_, rfl, a, _, _, _, rfl, rfl, SqT.of h1, atI_nat (j := 0) rfl, _, rfl, Z, rfl, SZ.d, SZ.z, _, rfl, _, _, rfl, SZ.add, _, 2, rfl, .inr ⟨a, _, rfl, h1, _, rfl, iteNS rfl ⟨_, rfl, rfl, _, rfl, word_yes ⟨_, rfl, a, _, _, _, rfl, rfl, SqT.of h1, atI_nat (j := 1) rfl, ?_⟩⟩⟩⟩
      dsimp only [tNil, tCons, tC, List.cons_append, List.nil_append]
      exact ip_of h2 ok g fun H' t => q _ H' Iff.rfl t
    | back n =>
      obtain ⟨a, pv, rfl, h1, h2⟩ := hc
      refine ⟨_, rfl, a, _, _, _, rfl, rfl, SqT.of h1, atI_nat (j := 0) rfl, _, rfl, Z, rfl, SZ.d, SZ.z, _, rfl, _, _, rfl, SZ.back, _, 2, rfl, .inr ⟨a, _, rfl, h1, _, rfl, iteNS rfl ⟨_, rfl, rfl, _, rfl, word_no (by decide +kernel) ⟨_, rfl, rfl, _, rfl, word_yes ⟨_, rfl, a, _, _, _, rfl, rfl, SqT.of h1, atI_nat (j := 1) rfl, ?_⟩⟩⟩⟩⟩
      dsimp only [tNil, tCons, tC, List.cons_append, List.nil_append]
      exact ii_of h2 ok g fun H' t => q _ H' Iff.rfl t
    | drop f xs =>
      obtain ⟨a, fv, xv, rfl, h1, h2, h3⟩ := hc
      refine ⟨_, rfl, a, _, _, _, rfl, rfl, SqT.of h1, atI_nat (j := 0) rfl, _, rfl, Z, rfl, SZ.d, SZ.z, _, rfl, _, _, rfl, SZ.drop, _, 3, rfl, .inr ⟨a, _, rfl, h1, _, rfl, iteNS rfl ⟨_, rfl, rfl, _, rfl, word_no (by decide +kernel) ⟨_, rfl, rfl, _, rfl, word_no (by decide +kernel) ⟨_, rfl, a, _, _, _, rfl, rfl, SqT.of h1, atI_nat (j := 1) rfl, ?_⟩⟩⟩⟩⟩
      dsimp only [tNil, tCons, tC, List.cons_append, List.nil_append]
      refine ivo_of h2 ok.1 g fun H1 t1 => ⟨_, rfl, ite2 (fun n => q false _ ⟨(fun z => nomatch z), fun z => absurd z.1 (not_it n)⟩ t1) (fun y => ?_)⟩
      refine ⟨_, rfl, rfl, _, rfl, word_no (by decide +kernel) ⟨_, rfl, rfl, _, rfl, word_yes ⟨_, rfl, a, _, _, _, rfl, rfl, SqT.of (t1.tup g h1), atI_nat (j := 2) rfl, ?_⟩⟩⟩
      dsimp only [tNil, tCons, tC, List.cons_append, List.nil_append]
      exact rs_of (h3.lf (lf t1)) ok.2 rfl 12 rfl t1.tg fun b H2 hb t2 => q b _ (hb.trans ⟨fun z => ⟨is_it y, z⟩, fun z => z.2⟩) (t1.trans t2)
    | move f p xs =>
      obtain ⟨a, fv, pv, xv, rfl, h1, h2, h3, h4⟩ := hc
      refine ⟨_, rfl, a, _, _, _, rfl, rfl, SqT.of h1, atI_nat (j := 0) rfl, _, rfl, Z, rfl, SZ.d, SZ.z, _, rfl, _, _, rfl, SZ.move, _, 4, rfl, .inr ⟨a, _, rfl, h1, _, rfl, iteNS rfl ⟨_, rfl, rfl, _, rfl, word_no (by decide +kernel) ⟨_, rfl, rfl, _, rfl, word_no (by decide +kernel) ⟨_, rfl, a, _, _, _, rfl, rfl, SqT.of h1, atI_nat (j := 1) rfl, ?_⟩⟩⟩⟩⟩
      dsimp only [tNil, tCons, tC, List.cons_append, List.nil_append]
      refine ivo_of h2 ok.1 g fun H1 t1 => ⟨_, rfl, ite2 (fun n => q false _ ⟨(fun z => nomatch z), fun z => absurd z.1 (not_it n)⟩ t1) (fun y => ?_)⟩
      refine ⟨_, rfl, rfl, _, rfl, word_yes ⟨_, rfl, a, _, _, _, rfl, rfl, SqT.of (t1.tup g h1), atI_nat (j := 2) rfl, ?_⟩⟩
      dsimp only [tNil, tCons, tC, List.cons_append, List.nil_append]
      refine ip_of (h3.pts (lf t1).ts) ok.2.1 t1.tg fun H2 t2 => ⟨_, rfl, ite2 (fun y2 => ?_) (fun n => q _ _ ⟨(fun z => nomatch z), fun z => absurd z.2.1 n⟩ (t1.trans t2))⟩
      refine ⟨_, rfl, a, _, _, _, rfl, rfl, SqT.of ((t1.trans t2).tup g h1), atI_nat (j := 3) rfl, ?_⟩
      dsimp only [tNil, tCons, tC, List.cons_append, List.nil_append]
      exact rs_of (h4.lf (lf (t1.trans t2))) ok.2.2 rfl 12 rfl t2.tg fun b H3 hb t3 => q b _ (hb.trans ⟨fun z => ⟨is_it y, y2, z⟩, fun z => z.2.2⟩) ((t1.trans t2).trans t3)
    | cut f xs =>
      obtain ⟨a, fv, xv, rfl, h1, h2, h3⟩ := hc
      refine ⟨_, rfl, a, _, _, _, rfl, rfl, SqT.of h1, atI_nat (j := 0) rfl, _, rfl, Z, rfl, SZ.d, SZ.z, _, rfl, _, _, rfl, SZ.cut, _, 3, rfl, .inr ⟨a, _, rfl, h1, _, rfl, iteNS rfl ⟨_, rfl, rfl, _, rfl, word_no (by decide +kernel) ⟨_, rfl, rfl, _, rfl, word_no (by decide +kernel) ⟨_, rfl, a, _, _, _, rfl, rfl, SqT.of h1, atI_nat (j := 1) rfl, ?_⟩⟩⟩⟩⟩
      dsimp only [tNil, tCons, tC, List.cons_append, List.nil_append]
      refine ivo_of h2 ok.1 g fun H1 t1 => ⟨_, rfl, ite2 (fun n => q false _ ⟨(fun z => nomatch z), fun z => absurd z.1 (not_it n)⟩ t1) (fun y => ?_)⟩
      refine ⟨_, rfl, rfl, _, rfl, word_no (by decide +kernel) ⟨_, rfl, rfl, _, rfl, word_no (by decide +kernel) ⟨_, rfl, rfl, _, rfl, word_yes ⟨_, rfl, a, _, _, _, rfl, rfl, SqT.of (t1.tup g h1), atI_nat (j := 2) rfl, ?_⟩⟩⟩⟩
      dsimp only [tNil, tCons, tC, List.cons_append, List.nil_append]
      exact rs_of (h3.lf (lf t1)) ok.2 rfl 200 rfl t1.tg fun b H2 hb t2 => q b _ (hb.trans ⟨fun z => ⟨is_it y, z⟩, fun z => z.2⟩) (t1.trans t2)
    | order f x y =>
      obtain ⟨a, fv, xv, yv, rfl, h1, h2, h3, h4⟩ := hc
      refine ⟨_, rfl, a, _, _, _, rfl, rfl, SqT.of h1, atI_nat (j := 0) rfl, _, rfl, Z, rfl, SZ.d, SZ.z, _, rfl, _, _, rfl, SZ.order, _, 4, rfl, .inr ⟨a, _, rfl, h1, _, rfl, iteNS rfl ⟨_, rfl, rfl, _, rfl, word_no (by decide +kernel) ⟨_, rfl, rfl, _, rfl, word_no (by decide +kernel) ⟨_, rfl, a, _, _, _, rfl, rfl, SqT.of h1, atI_nat (j := 1) rfl, ?_⟩⟩⟩⟩⟩
      dsimp only [tNil, tCons, tC, List.cons_append, List.nil_append]
      refine ivo_of h2 ok.1 g fun H1 t1 => ⟨_, rfl, ite2 (fun n => q false _ ⟨(fun z => nomatch z), fun z => absurd z.1 (not_it n)⟩ t1) (fun yf => ?_)⟩
      refine ⟨_, rfl, rfl, _, rfl, word_no (by decide +kernel) ⟨_, rfl, rfl, _, rfl, word_no (by decide +kernel) ⟨_, rfl, rfl, _, rfl, word_no (by decide +kernel) ⟨_, rfl, rfl, _, rfl, word_yes ⟨_, rfl, a, _, _, _, rfl, rfl, SqT.of (t1.tup g h1), atI_nat (j := 2) rfl, ?_⟩⟩⟩⟩⟩
      dsimp only [tNil, tCons, tC, List.cons_append, List.nil_append]
      refine ivo_of (h3.vts (lf t1).ts) ok.2.1 t1.tg fun H2 t2 => ⟨_, rfl, ite2 (fun yx => ?_) (fun n => q _ _ ⟨(fun z => nomatch z), fun z => absurd z.2.1 n⟩ (t1.trans t2))⟩
      refine ⟨_, rfl, a, _, _, _, rfl, rfl, SqT.of ((t1.trans t2).tup g h1), atI_nat (j := 3) rfl, ?_⟩
      dsimp only [tNil, tCons, tC, List.cons_append, List.nil_append]
      refine ivo_of (h4.vts (lf (t1.trans t2)).ts) ok.2.2 t2.tg fun H3 t3 => ⟨_, rfl, ite2 (fun yy => ?_) (fun n => q _ _ ⟨(fun z => nomatch z), fun z => absurd z.2.2.1 n⟩ ((t1.trans t2).trans t3))⟩
      have t13 := (t1.trans t2).trans t3
      obtain ⟨x', ex⟩ := Option.isSome_iff_exists.mp yx
      obtain ⟨y', ey⟩ := Option.isSome_iff_exists.mp yy
      subst ex
      subst ey
      have h3' : VxAt H xv x' := h3
      have h4' : VxAt H yv y' := h4
      refine ⟨_, rfl, a, _, _, _, rfl, rfl, SqT.of (t13.tup g h1), atI_nat (j := 2) rfl, _, rfl, a, _, _, _, rfl, rfl, SqT.of (t13.tup g h1), atI_nat (j := 3) rfl, _, _, dp_vx (h3'.ts (lf t13).ts), dp_vx (h4'.ts (lf t13).ts), solid_plain _ (solid_vx _), solid_plain _ (solid_vx _), by rw [vx_depth]; decide, ?_⟩
      refine q _ _ ?_ t13
      rw [Bool.not_eq_true', Bool.eq_false_iff]
      refine ⟨fun z => ⟨is_it yf, rfl, rfl, fun e => z ((eqv_iff (solid_vx _) (solid_vx _)).mpr (by rw [Option.some.inj e]))⟩, fun z e => z.2.2.2 ?_⟩
      rw [vx_inj ((eqv_iff (solid_vx x') (solid_vx y')).mp e)]
    | lines f xs ys k =>
      obtain ⟨a, fv, xv, yv, tv, rfl, h1, h2, h3, h4, h5⟩ := hc
      refine ⟨_, rfl, a, _, _, _, rfl, rfl, SqT.of h1, atI_nat (j := 0) rfl, _, rfl, Z, rfl, SZ.d, SZ.z, _, rfl, _, _, rfl, SZ.lines, _, 5, rfl, .inr ⟨a, _, rfl, h1, _, rfl, iteNS rfl ⟨_, rfl, rfl, _, rfl, word_no (by decide +kernel) ⟨_, rfl, rfl, _, rfl, word_no (by decide +kernel) ⟨_, rfl, a, _, _, _, rfl, rfl, SqT.of h1, atI_nat (j := 1) rfl, ?_⟩⟩⟩⟩⟩
      dsimp only [tNil, tCons, tC, List.cons_append, List.nil_append]
      refine ivo_of h2 ok.1 g fun H1 t1 => ⟨_, rfl, ite2 (fun n => q false _ ⟨(fun z => nomatch z), fun z => absurd z.1 (not_it n)⟩ t1) (fun yf => ?_)⟩
      refine ⟨_, rfl, rfl, _, rfl, word_no (by decide +kernel) ⟨_, rfl, rfl, _, rfl, word_no (by decide +kernel) ⟨_, rfl, rfl, _, rfl, word_no (by decide +kernel) ⟨_, rfl, rfl, _, rfl, word_no (by decide +kernel) ⟨_, rfl, a, _, _, _, rfl, rfl, SqT.of (t1.tup g h1), atI_nat (j := 2) rfl, ?_⟩⟩⟩⟩⟩
      dsimp only [tNil, tCons, tC, List.cons_append, List.nil_append]
      refine rs_of (h3.lf (lf t1)) ok.2.1 rfl 12 rfl t1.tg fun b2 H2 hb2 t2 => ⟨_, rfl, ite2 (fun y2 => ?_) (fun n => q _ _ ⟨(fun z => nomatch z), fun z => absurd (hb2.mpr z.2.1) n⟩ (t1.trans t2))⟩
      refine ⟨_, rfl, a, _, _, _, rfl, rfl, SqT.of ((t1.trans t2).tup g h1), atI_nat (j := 3) rfl, ?_⟩
      dsimp only [tNil, tCons, tC, List.cons_append, List.nil_append]
      refine rs_of (h4.lf (lf (t1.trans t2))) ok.2.2.1 rfl 12 rfl t2.tg fun b3 H3 hb3 t3 => ⟨_, rfl, ite2 (fun y3 => ?_) (fun n => q _ _ ⟨(fun z => nomatch z), fun z => absurd (hb3.mpr z.2.2.1) n⟩ ((t1.trans t2).trans t3))⟩
      have t13 := (t1.trans t2).trans t3
      obtain ⟨b, rfl, _, e5⟩ := h5.lf (lf t13)
      have lk := ok.2.2.2
      refine ⟨_, rfl, a, _, _, _, rfl, rfl, SqT.of (t13.tup g h1), atI_nat (j := 4) rfl, b, List.replicate k [], rfl, e5, by rw [List.length_replicate]; omega, blank_ok, t13.tg, fun H4 t4 => q _ _ ?_ (t13.trans t4)⟩
      rw [List.length_replicate, decide_eq_true_eq]
      exact ⟨fun z => ⟨is_it yf, hb2.mp y2, hb3.mp y3, z⟩, fun z => z.2.2.2⟩
end
end K20
namespace GX
open PySem PySem.Spec PyProof.Rows L2
theorem lcx_range {lo : Int} {n : Nat} {g : TG} {te : TE} {vs : List Nat} {σ : L2.St} {H1 : Hp} {D : Addr} {Qd : Hp → Prop} (Pv : Nat → Hp → Prop) (h0 : Pv 0 (upd H1 D (.lst [])))
    (hs : ∀ i H, i < n → Pv i H → g (.int (lo + i)) (wipe σ vs) H fun σ2 H2 => wipe σ2 vs = wipe σ vs ∧ te σ2 H2 fun y H4 => ∃ acc, H4 D = some (.lst acc) ∧ acc.length < sizeLine ∧ Pv (i + 1) (upd H4 D (.lst (acc ++ [y])))) (hd : ∀ H, Pv n H → Qd H) :
    ∃ Wd : Nat → Nat → Hp → Prop, (∃ m, Wd 0 m (upd H1 D (.lst []))) ∧ ∀ i m H, Wd i m H → ((Itr lo n).stop i H ∧ Qd H) ∨ ((Itr lo n).go i H ∧ ∃ Nx : Hp → Prop, (∀ H', Nx H' → ∃ m', m' < m ∧ Wd (i + 1) m' H') ∧
      ∀ x H', (Itr lo n).yld i H x H' → g x (wipe σ vs) H' fun σ2 H2 => wipe σ2 vs = wipe σ vs ∧ te σ2 H2 fun y H4 => ∃ acc, H4 D = some (.lst acc) ∧ acc.length < sizeLine ∧ Nx (upd H4 D (.lst (acc ++ [y])))) := by
  refine ⟨fun i m H => n = m + i ∧ Pv i H, ⟨n, rfl, h0⟩, fun i m H ⟨e, p⟩ => ?_⟩
  cases m with
  | zero =>
    have e : n = i := by omega
    exact .inl ⟨Nat.le_of_eq e, hd H (e ▸ p)⟩
  | succ m =>
    have hlt : i < n := by omega
    refine .inr ⟨hlt, Pv (i + 1), fun H' p' => ⟨m, Nat.lt_succ_self m, by omega, p'⟩, ?_⟩
    rintro x H' ⟨rfl, rfl⟩
    exact hs i _ hlt p
end GX
namespace K20
open PySem PySem.Spec PyProof.Rows L2 TL TR QR
open GxR (TabB TabG Tabbed)
open PySem.W (EachIs)
abbrev sRC : Stmt := topS 39
abbrev nRC : List Str := ["lines", "at", "change", "behind", "k"]
theorem scRC : FnScope nRC ["lines", "at"] (defScope sRC) := ⟨rfl, rfl, rfl, by decide +kernel, rfl, by decide +kernel, by decide +kernel⟩
theorem up_up {α β γ : Type} {i j : Nat} {f : α → β} {g : β → γ} (x : Rs α) : (x.up j f).up i g = x.up (i + j) fun a => g (f a) := by
  cases x with
  | bad k => show Rs.bad _ = Rs.bad _; rw [Nat.add_assoc]
  | good a k => show Rs.good _ _ = Rs.good _ _; rw [Nat.add_assoc]
theorem each_some {H : Hp} : ∀ {ws : List V} {xs : List Vx}, OVs H ws (xs.map some) → EachIs (VxAt H) ws xs
  | _, [], h => by
    have h : EachIs (OptR VxAt H) _ [] := h
    cases h
    exact .nil
  | _, x :: xs, h => by
    have h : EachIs (OptR VxAt H) _ (some x :: xs.map some) := h
    cases h with
    | cons a b => exact .cons a (each_some b)
theorem ovs_vs {N : Addr → Prop} {H : Hp} {v : V} {xs : List Vx} (h : OVsAt N H v (xs.map some)) : VsAt N H v xs := by
  obtain ⟨a, ws, e, n, e1, e2⟩ := h
  exact ⟨a, ws, e, n, e1, each_some e2⟩
theorem rc_chg {N : Addr → Prop} {H : Hp} {v : V} {c : Chg} (e : raw c = c) (h : RcAt N H v (rcOf c)) : ChgAt N H v c := by
  cases c with
  | add p => exact h
  | back p => exact h
  | drop f xs => exact let ⟨a, fv, xv, e, h1, h2, h3⟩ := h; ⟨a, fv, xv, e, h1, h2, ovs_vs h3⟩
  | move f p xs => exact let ⟨a, fv, pv, xv, e, h1, h2, h3, h4⟩ := h; ⟨a, fv, pv, xv, e, h1, h2, h3, ovs_vs h4⟩
  | cut f xs => exact let ⟨a, fv, xv, e, h1, h2, h3⟩ := h; ⟨a, fv, xv, e, h1, h2, ovs_vs h3⟩
  | order f x y => exact h
  | lines f xs ys ts =>
    have e : List.replicate ts.length [] = ts := by
      dsimp only [raw] at e
      injection e
    refine let ⟨a, fv, xv, yv, tv, e, h1, h2, h3, h4, h5⟩ := h; ⟨a, fv, xv, yv, tv, e, h1, h2, ovs_vs h3, ovs_vs h4, ?_⟩
    rw [← ‹List.replicate ts.length [] = ts›]
    exact h5
theorem rc_ref {N : Addr → Prop} {H : Hp} {v : V} {c : RC} (n : c ≠ .none) (h : RcAt N H v c) : ∃ a, v = .ref a := by
  cases c with
  | none => exact absurd rfl n
  | add p => exact let ⟨a, pv, e, _⟩ := h; ⟨a, e⟩
  | back p => exact let ⟨a, pv, e, _⟩ := h; ⟨a, e⟩
  | drop f xs => exact let ⟨a, fv, xv, e, _⟩ := h; ⟨a, e⟩
  | move f p xs => exact let ⟨a, fv, pv, xv, e, _⟩ := h; ⟨a, e⟩
  | cut f xs => exact let ⟨a, fv, xv, e, _⟩ := h; ⟨a, e⟩
  | order f x y => exact let ⟨a, fv, pv, xv, e, _⟩ := h; ⟨a, e⟩
  | lines f xs ys k => exact let ⟨a, fv, xv, yv, tv, e, _⟩ := h; ⟨a, e⟩
theorem RcAt.lf {N : Addr → Prop} {H H' : Hp} {v : V} {c : RC} (s : LF N H H') (h : RcAt N H v c) : RcAt N H' v c := by
  cases c with
  | none => exact h
  | add p => exact let ⟨a, pv, e, h1, h2⟩ := h; ⟨a, pv, e, s.ts _ _ h1, h2.pts s.ts⟩
  | back p => exact let ⟨a, pv, e, h1, h2⟩ := h; ⟨a, pv, e, s.ts _ _ h1, h2.nts s.ts⟩
  | drop f xs => exact let ⟨a, fv, xv, e, h1, h2, h3⟩ := h; ⟨a, fv, xv, e, s.ts _ _ h1, h2.vts s.ts, h3.lf s⟩
  | move f p xs => exact let ⟨a, fv, pv, xv, e, h1, h2, h3, h4⟩ := h; ⟨a, fv, pv, xv, e, s.ts _ _ h1, h2.vts s.ts, h3.pts s.ts, h4.lf s⟩
  | cut f xs => exact let ⟨a, fv, xv, e, h1, h2, h3⟩ := h; ⟨a, fv, xv, e, s.ts _ _ h1, h2.vts s.ts, h3.lf s⟩
  | order f x y => exact let ⟨a, fv, pv, xv, e, h1, h2, h3, h4⟩ := h; ⟨a, fv, pv, xv, e, s.ts _ _ h1, h2.vts s.ts, h3.vts s.ts, h4.vts s.ts⟩
  | lines f xs ys k => exact let ⟨a, fv, xv, yv, tv, e, h1, h2, h3, h4, h5⟩ := h; ⟨a, fv, xv, yv, tv, e, s.ts _ _ h1, h2.vts s.ts, h3.lf s, h4.lf s, h5.lf s⟩
theorem RcAt.imp {N N' : Addr → Prop} {H : Hp} {v : V} {c : RC} (k : ∀ b, N b → N' b) (h : RcAt N H v c) : RcAt N' H v c := by
  cases c with
  | none => exact h
  | add p => exact h
  | back p => exact h
  | drop f xs => exact let ⟨a, fv, xv, e, h1, h2, h3⟩ := h; ⟨a, fv, xv, e, h1, h2, h3.imp k⟩
  | move f p xs => exact let ⟨a, fv, pv, xv, e, h1, h2, h3, h4⟩ := h; ⟨a, fv, pv, xv, e, h1, h2, h3, h4.imp k⟩
  | cut f xs => exact let ⟨a, fv, xv, e, h1, h2, h3⟩ := h; ⟨a, fv, xv, e, h1, h2, h3.imp k⟩
  | order f x y => exact h
  | lines f xs ys k' => exact let ⟨a, fv, xv, yv, tv, e, h1, h2, h3, h4, h5⟩ := h; ⟨a, fv, xv, yv, tv, e, h1, h2, h3.imp k, h4.imp k, h5.imp k⟩
theorem drop_cons {α : Type} {ls : List α} {n : Nat} {l : α} (h : ls[n]? = some l) : ls.drop n = l :: ls.drop (n + 1) := by
  obtain ⟨hn, e⟩ := List.getElem?_eq_some_iff.mp h
  rw [List.drop_eq_getElem_cons hn, e]
theorem drop_nil {ls : Path} {n : Nat} (h : ∀ r, ls[n]? ≠ some r) : ls.drop n = [] := by
  cases e : ls[n]? with
  | none => exact List.drop_eq_nil_of_le (List.getElem?_eq_none_iff.mp e)
  | some r => exact absurd e (h r)
theorem rdT_step {k : Nat} {l t : List Nat} {r : Path} (h : txLine l = some t) : rdT (k + 1) (l :: r) = (rdT k r).up 1 (t :: ·) := by
  show (match txLine l with | none => Rs.bad 0 | some t => (rdT k r).up 1 (t :: ·)) = _
  rw [h]
theorem rdT_bad {k : Nat} {r : Path} (h : ∀ l, r.head? = some l → txLine l = none) : rdT (k + 1) r = .bad 0 := by
  cases r with
  | nil => rfl
  | cons l r =>
    show (match txLine l with | none => Rs.bad 0 | some t => (rdT k r).up 1 (t :: ·)) = _
    rw [h l rfl]
theorem LsAt.tbs {Ts : List Addr} {H H' : Hp} {a : Addr} {ls : Path} (h : LsAt H a ls) (g : TG Ts H) (t : Tbs Ts H H') : LsAt H' a ls := ⟨t.lst g h.at_, h.len, h.ll⟩
theorem te_nil : tl (Str.ofString "") = [] := by decide +kernel
section
variable {P : Program} {w : World} {K : PySem.W.Frag} {mg : Str → Option Value} {base : Heap} {C fI : Addr}
def spRC (Ts : List Addr) (C : Addr) : Sp := fun vs H Q E => ∃ (a : Addr) (ls : Path) (n : Nat), vs = [.ref a, .int (n : Int)] ∧ LsAt H a ls ∧ TG Ts H ∧
  (∀ c j, rdC (ls.drop n) = .good c j → ∀ H' t v, Tbs Ts H H' → H' t = some (.tup [v, .int ((n + j : Nat) : Int)]) → ChgAt (fun b => H b = none) H' v c → Q (.ref t) H') ∧ (∀ j, rdC (ls.drop n) = .bad j → ∀ H', Tbs Ts H H' → Out C E (n + j) H')
theorem ok_RC {f fCO fIC fOL fTL : Addr} {fd fdCO fdIC fdOL fdTL : FuncData} (F : Fun K "read_change" "read_change" sRC f fd) (L : PySem.TextX.TextTxt K mg C fI)
    (GCO : FnOk P w K mg base CX0 8 fCO fdCO ["words"] (spCO Ts)) (bCO : Binds K fdCO ["words"] []) (gCO : mg "change_of" = some (.ref fCO)) (kCO : PySem.W.keepIn K (.ref fCO) = true)
    (GIC : FnOk P w K mg base CX0 8 fIC fdIC ["change"] (spIC Ts)) (bIC : Binds K fdIC ["change"] []) (gIC : mg "is_change" = some (.ref fIC)) (kIC : PySem.W.keepIn K (.ref fIC) = true)
    (GOL : FnOk P w K mg base (L2.CX P w) 1 fOL fdOL ["lines", "at", "start"] (spOL C)) (bOL : Binds K fdOL ["lines", "at", "start"] []) (gOL : mg "rest_of_line" = some (.ref fOL)) (kOL : PySem.W.keepIn K (.ref fOL) = true)
    (GTL : FnOk P w K mg base (L2.CX P w) 3 fTL fdTL ["lines", "at", "start"] (spTL Ts C)) (bTL : Binds K fdTL ["lines", "at", "start"] []) (gTL : mg "read_text_line" = some (.ref fTL)) (kTL : PySem.W.keepIn K (.ref fTL) = true)
    (m_len : mg "len" = none) (m_range : mg "range" = none) : FnOk P w K mg base (L2.CX P w) 9 f fd ["lines", "at"] (spRC Ts C) := by
  refine F.okX scRC (fun vs H Q E h => ?_) (fun cdv A outer s H vs Q E hr h => ?_)
  · obtain ⟨a, ls, n, rfl, _⟩ := h
    rfl
  · obtain ⟨a, ls, n, rfl, hL, g, q1, q2⟩ := h
    have hu := hr.units
    have hu1 := hu_of hr
    have hr1 : Room 1 _ := hr.mono (by decide)
    have hr2 : Room 2 _ := hr.mono (by decide)
    have hr3 : Room 3 _ := hr.mono (by decide)
    have hr4 : Room 4 _ := hr.mono (by decide)
    have hr5 : Room 5 _ := hr.mono (by decide)
    have hr6 : Room 6 _ := hr.mono (by decide)
    have hr7 : Room 7 _ := hr.mono (by decide)
    have hr8 : Room 8 _ := hr.mono (by decide)
    have zl := zl
    refine ⟨_, (pss_cons (ps_set (i := 2) scRC.nd rfl (.inl rfl) (pe_call GCO hr8 (by rfl) gCO kCO bCO .nil pass0 (pa_cons (pe_split (pe_call GOL hr1 (by rfl) gOL kOL bOL .nil (passes_call (takes_of rfl rfl rfl rfl) (fun _ _ _ _ h => h)) (pa_cons (pv 0) (pa_cons (pv 1) (pa_cons (pe_str) pa_nil)))) (pe_str)) pa_nil)))
      (pss_cons (ps_if (PW.pt (pw_or (pt_cmpR op_isN (pv 2) (pe_non) (nomark _)) (pw_or1 (pt_not (pt_val (pe_call GIC hr8 (by rfl) gIC kIC bIC .nil pass0 (pa_cons (pv 2) pa_nil)))))))
      (pss_one (ps_raiseText rfl L hr (takes_of rfl rfl rfl rfl) (by exact (pa_cons (pv 1) pa_nil)))) pss_nil)
      (pss_cons (ps_if (pt_cmpR op_ne (pe_ix ix_tup (pv 2) (pe_int) (fun _ _ => rfl)) (pe_str) (nomark _))
      (pss_one (ps_ret (pe_tup (pa_cons (pv 2) (pa_cons (pe_op op_add (pv 1) (pe_int)) pa_nil))))) pss_nil)
      (pss_cons (ps_set (i := 3) scRC.nd rfl (.inl rfl) (pe_op op_add (pe_op op_add (pv 1) (pe_int)) (pe_callB call_len_seq (by rfl) m_len PySem.boot_len (pa_cons (pe_ix ix_tup (pv 2) (pe_int) (fun _ _ => rfl)) pa_nil))))
      (pss_one (ps_ret (pe_tup (pa_cons (pe_op op_catT (pe_slice sl_tupA (pv 2) (po_none) (po_some (pe_int))) (pe_tup (pa_cons (GX.pe_lcX (own := [("k", 4)]) (g := gName 4) (te := tCallS (spTL Ts C) (fun _ => E) (tCons (tVar 0) (tCons (tVar 4) (tCons (tC (.str "|")) tNil)))) rfl scRC.nd (pi_range2 (by rfl) m_range (pa_cons (pe_op op_add (pv 1) (pe_int)) (pa_cons (pv 3) pa_nil))) (blkOk_by (N := nRC) (sc := defScope sRC) (by decide +kernel)) (takes_of rfl rfl rfl rfl) (fun _ _ _ _ h => h) rfl rfl (fun _ _ _ _ _ => by exact pg_name (i := 4) scRC.nd rfl (.inl rfl)) (fun _ _ _ _ _ => by exact pe_callS GTL hr3 (by rfl) gTL kTL bTL (fun σ => GX.xb_passes σ) (pa_cons (pv 0) (pa_cons (pv 4) (pa_cons (pe_str) pa_nil))))) pa_nil))) (pa_cons (pv 3) pa_nil))))))))), ?_⟩
    refine ⟨_, rfl, _, rfl, a, ls, n, Str.ofString "", rfl, hL, by decide +kernel, fun l hn => ?_, fun no => ?_⟩
    rotate_left
    · have e : ls.drop n = [] := drop_nil fun r z => no r (by rw [te_nil]; exact z)
      exact q2 0 (by rw [e]; rfl) H (Tbs.refl g)
    rw [te_nil, List.nil_append] at hn
    have hd := drop_cons hn
    have ll := hL.ll _ (List.mem_of_getElem? hn)
    have lS : (Sg l).length = l.length := rfl
    have nl : n < ls.length := (List.getElem?_eq_some_iff.mp hn).1
    have nl2 := hL.len
    obtain ⟨c1, c2⟩ := cut_len 32 l
    have cw := chg_words l
    refine ⟨⟨_, rfl⟩, _, _, rfl, rfl, by decide +kernel, by omega, fun p np => ?_⟩
    rw [show (Txt.split (Sg l) (Str.ofString " ")).map V.str = strV (cutAt 32 l) by
      rw [show Str.ofString " " = ⟨#[32]⟩ by decide +kernel, split_words]]
    obtain ⟨x, r, ec⟩ : ∃ x r, cutAt 32 l = x :: r := by
      cases e : cutAt 32 l with
      | nil => exact absurd e (cut_ne 32 l)
      | cons x r => exact ⟨x, r, rfl⟩
    rw [ec] at c1 c2 cw ⊢
    have s1 : Same H (upd H p (.lst (strV (x :: r)))) := same_new np
    have ep : (upd H p (.lst (strV (x :: r)))) p = some (.lst (strV (x :: r))) := upd_same
    generalize upd H p (.lst (strV (x :: r))) = H1 at s1 ep
    have t1 := (Tbs.refl g).same s1
    have lr : ∀ y ∈ r, y.length ≤ 70000 := fun y hy => Nat.le_trans (c2 y (List.mem_cons_of_mem _ hy)) ll
    refine ⟨p, x, r, rfl, ep, lr, by rw [List.length_cons] at c1; omega, t1.tg, fun H2 v t2 hc => ?_⟩
    have t12 := t1.trans t2
    have hc : RcAt (fun b => H b = none) H2 v (readC (x :: r)) := hc.imp fun b z => same_none s1 z
    rcases cw with ⟨c, gd, eh, er, rok⟩ | ⟨eh, nok⟩
    rotate_left
    · have out : ∀ H', Tbs Ts H H' → Out C E n H' := fun H' t => q2 0 (by
        rw [hd]
        show (match chgOf l with | none => Rs.bad 0 | some c => (rdT (left c) (ls.drop (n + 1))).up 1 (setTs c)) = _
        rw [eh]) H' t
      by_cases hz : readC (x :: r) = .none
      · rw [hz] at hc
        have ev : v = .non := hc
        subst ev
        exact ⟨_, rfl, rfl, _, rfl, yes_if (by simp) ⟨_, rfl, _, rfl, out H2 t12⟩⟩
      · obtain ⟨y, rfl⟩ := rc_ref hz hc
        refine ⟨_, rfl, rfl, _, rfl, no_if (by simp) ⟨_, rfl, .ref y, readC (x :: r), rfl, hc.imp fun _ _ => trivial, hz, rc_good lr, t2.tg, fun b H3 hb t3 => ⟨_, rfl, ?_⟩⟩⟩
        have : b = false := Bool.eq_false_iff.mpr fun z => nok (hb.mp z)
        subst this
        exact yes_if rfl ⟨_, rfl, _, rfl, out H3 (t12.trans t3)⟩
    have hz : readC (x :: r) ≠ .none := fun z => by rw [z] at rok; exact rok
    obtain ⟨y, rfl⟩ := rc_ref hz hc
    refine ⟨_, rfl, rfl, _, rfl, no_if (by simp) ⟨_, rfl, .ref y, readC (x :: r), rfl, hc.imp fun _ _ => trivial, hz, rc_good lr, t2.tg, fun b H3 hb t3 => ⟨_, rfl, ?_⟩⟩⟩
    have : b = true := hb.mpr rok
    subst this
    refine no_if (by decide) ?_
    have t13 := t12.trans t3
    have hc3 := hc.lf (Tbs.lf t3 t2.tg)
    rw [er] at hc3
    have hc3 := rc_chg gd.raw hc3
    have eR : rdC (ls.drop n) = (rdT (left c) (ls.drop (n + 1))).up 1 (setTs c) := by
      rw [hd]
      show (match chgOf l with | none => Rs.bad 0 | some c => (rdT (left c) (ls.drop (n + 1))).up 1 (setTs c)) = _
      rw [eh]
    obtain ⟨y', ws, ey', ex3⟩ := chg_tup hc3
    cases ey'
    have ok := gd.ok
    rcases chg_kind c with ⟨f, xs, ys, ts, rfl⟩ | ⟨nk, er', et⟩
    · obtain ⟨x', fv, xv, yv, tv, e0, h1, h2, h3, h4, b, e5, nb, h5⟩ := hc3
      cases e0
      subst e5
      have l200 := ok.2.2.2.2.1
      have l1 := ok.2.2.2.1
      have lrep : (strV ts).length = ts.length := List.length_map _
      refine ⟨_, rfl, y, _, _, _, rfl, rfl, SqT.of h1, atI_nat (j := 0) rfl, rfl, _, rfl, no_if (by simp) ?_⟩
      refine ⟨_, rfl, _, _, rfl, rfl, _, rfl, y, _, _, _, rfl, rfl, SqT.of h1, atI_nat (j := 4) rfl, b, _, rfl, .inl (SqL.of h5), _, _, rfl, rfl, ?_⟩
      rw [lrep]
      refine ⟨_, rfl, _, rfl, y, _, rfl, SqT.of h1, (fun z => absurd z.2 (show ¬ HT.sIx 5 5 (some 4) = 5 by decide)), fun _ y ny => ?_⟩
      rw [cutV_four]
      have s4 : Same H3 (upd H3 y (.tup [.str "lines", fv, xv, yv])) := same_new ny
      have ey : (upd H3 y (.tup [.str "lines", fv, xv, yv])) y = some (.tup [.str "lines", fv, xv, yv]) := upd_same
      generalize upd H3 y (.tup [.str "lines", fv, xv, yv]) = H4 at s4 ey
      have t14 := t13.same s4
      refine ⟨_, rfl, _, _, rfl, rfl, _, rfl, _, _, rfl, ⟨by omega, by omega, by omega, by omega⟩, fun D nD => ?_⟩
      obtain ⟨nD0, nDT⟩ := t14.isNew nD
      have elo : ((n : Int) + 1 + (ts.length : Int) - ((n : Int) + 1)).toNat = ts.length := by omega
      refine GX.lcx_range (lo := (n : Int) + 1) (n := ((n : Int) + 1 + (ts.length : Int) - ((n : Int) + 1)).toNat) (fun i H' => Tbs Ts H H' ∧ (∀ b o, b ∉ Ts → b ≠ D → H4 b = some o → H' b = some o) ∧ ∃ pre : Path, H' D = some (.lst (strV pre)) ∧ pre.length = i ∧ i ≤ ts.length ∧
        rdT ts.length (ls.drop (n + 1)) = (rdT (ts.length - i) (ls.drop (n + 1 + i))).up i (pre ++ ·)) ⟨t14.updN nD0 nDT, fun b o _ nb e => by rw [upd_ne nb]; exact e, [], upd_same, rfl, Nat.zero_le _, ?_⟩ ?_ ?_
      · rw [Nat.sub_zero, Nat.add_zero]
        cases rdT ts.length (ls.drop (n + 1)) with
        | bad j => show _ = Rs.bad _; rw [Nat.zero_add]
        | good x j => show _ = Rs.good _ _; rw [Nat.zero_add]; rfl
      · rintro i H5 hi ⟨t5, ou, pre, eD, lp, li, ep⟩
        rw [elo] at hi
        have ek : ts.length - i = (ts.length - (i + 1)) + 1 := by omega
        rw [show (n : Int) + 1 + (i : Int) = ((n + 1 + i : Nat) : Int) by omega]
        refine ⟨rfl, _, rfl, _, rfl, a, ls, n + 1 + i, Str.ofString "|", rfl, hL.tbs g t5, by decide +kernel, t5.tg, fun t hk okt H6 t6 => ?_, fun no H6 t6 => ?_⟩
        · rw [t_bar] at hk
          have hd6 := drop_cons hk
          have etx : txLine ([124] ++ t) = some t := if_pos ⟨rfl, okt⟩
          have eD6 := t6.lst t5.tg eD
          refine ⟨_, eD6, ?_, (t5.trans t6).updN nD0 nDT, fun b o n1 n2 e => ?_, pre ++ [t], ?_, by rw [List.length_append, lp]; rfl, by omega, ?_⟩
          · rw [List.length_map]
            omega
          · rw [upd_ne n2]
            exact t6.sm _ _ n1 (ou b o n1 n2 e)
          · rw [upd_same]
            unfold strV
            rw [List.map_append]
            rfl
          · rw [ep, hd6, ek, rdT_step etx, up_up]
            have : (fun a => pre ++ (t :: a)) = fun a => pre ++ [t] ++ a := by
              funext a
              rw [List.append_assoc]
              rfl
            rw [this]
            rfl
        · have eb : rdT (ts.length - i) (ls.drop (n + 1 + i)) = .bad 0 := by
            rw [ek]
            refine rdT_bad fun l' e => ?_
            rw [List.head?_drop] at e
            cases l' with
            | nil => rfl
            | cons s t =>
              refine if_neg fun z => ?_
              rw [z.1] at e
              exact no t (by rw [t_bar]; exact e) z.2
          rw [eb] at ep
          have := q2 (1 + (i + 0)) (by rw [eR]; show (rdT ts.length (ls.drop (n + 1))).up 1 _ = _; rw [ep]; rfl) H6 (t5.trans t6)
          rwa [show n + (1 + (i + 0)) = n + 1 + i by omega] at this
      · rintro H5 ⟨t5, ou, pre, eD, lp, li, ep⟩
        rw [elo] at lp ep
        rw [Nat.sub_self] at ep
        have eR2 : rdC (ls.drop n) = .good (.lines f xs ys pre) (1 + (ts.length + 0)) := by
          rw [eR]
          show (rdT ts.length (ls.drop (n + 1))).up 1 _ = _
          rw [ep]
          show Rs.good (setTs (.lines f xs ys ts) (pre ++ [])) _ = _
          rw [List.append_nil]
          rfl
        have ts4 : TS H4 H5 := fun b o e => ou b _ (fun z => tab_ne (t14.tg b z) e (fun _ w => nomatch w) rfl) (fun z => by rw [z, nD] at e; cases e) e
        have lf4 : LF (fun b => H b = none ∧ b ≠ D) H4 H5 := ⟨ts4, fun b o n1 e => ou b _ (fun z => tab_ne (t14.tg b z) e (fun _ w => nomatch w) rfl) n1.2 e⟩
        refine ⟨by show 1 ≤ sizeLine; omega, fun u nu => ?_⟩
        have s6 : Same H5 (upd H5 u (.tup [.ref D])) := same_new nu
        have eu : (upd H5 u (.tup [.ref D])) u = some (.tup [.ref D]) := upd_same
        generalize upd H5 u (.tup [.ref D]) = H6 at s6 eu
        refine ⟨y, u, _, _, rfl, rfl, SqT.of (s6 _ _ (ts4 _ _ ey)), SqT.of eu, by simp, by show 4 + 1 ≤ _; omega, (fun z => by cases z), fun _ m nm => ⟨_, rfl, ?_⟩⟩
        have em : (upd H6 m (.tup ([.str "lines", fv, xv, yv] ++ [.ref D]))) m = some (.tup [.str "lines", fv, xv, yv, .ref D]) := upd_same
        have s7 : Same H6 (upd H6 m (.tup ([.str "lines", fv, xv, yv] ++ [.ref D]))) := same_new nm
        generalize upd H6 m (.tup ([.str "lines", fv, xv, yv] ++ [.ref D])) = H7 at s7 em
        refine ⟨by show 2 ≤ sizeLine; omega, fun t nt => ?_⟩
        have s8 : Same H5 (upd H7 t (.tup [.ref m, .int ((n : Int) + 1 + (ts.length : Int))])) := same_trans (same_trans s6 s7) (same_new nt)
        have nbD : ∀ {b : Addr} {xs : List V}, H3 b = some (.lst xs) → b ≠ D := fun e z => by rw [z] at e; rw [s4 _ _ e] at nD; cases nD
        have vsD : ∀ {u : V} {xs : List Vx}, VsAt (fun b => H b = none) H3 u xs → VsAt (fun b => H b = none) (upd H7 t (.tup [.ref m, .int ((n : Int) + 1 + (ts.length : Int))])) u xs := fun ⟨b, ws, e, nb, hb, he⟩ => by
          have k4 : VsAt (fun b => H b = none ∧ b ≠ D) H4 _ _ := ⟨b, ws, e, ⟨nb, nbD hb⟩, s4 _ _ hb, each_vx (Same.ts s4) he⟩
          exact VsAt.imp (fun _ z => z.1) (VsAt.lf (Same.lf s8) (VsAt.lf lf4 k4))
        refine q1 _ _ eR2 _ t (.ref m) (t5.same s8) ?_ ⟨m, fv, xv, yv, .ref D, rfl, same_new nt _ _ em, (h2.ts (Same.ts s4)).ts (ts4.trans (Same.ts s8)), vsD h3, vsD h4, D, rfl, nD0, s8 _ _ eD⟩
        rw [upd_same]
        exact congrArg (fun z => some (HO.tup [V.ref m, V.int z])) (by omega)
    · have eR2 : rdC (ls.drop n) = .good c (1 + 0) := by
        rw [eR]
        cases c <;> first | rfl | exact absurd rfl nk
      refine ⟨_, rfl, y, _, _, _, rfl, rfl, SqT.of ex3, atI_nat (j := 0) rfl, rfl, _, rfl, yes_if (by rw [Bool.not_eq_true', decide_eq_false_iff_not]; exact fun z => nk (V.str.inj z)) ⟨_, rfl, _, rfl, _, _, rfl, rfl, by show 2 ≤ sizeLine; omega, fun t nt => ?_⟩⟩
      refine q1 _ _ eR2 _ t (.ref y) (t13.same (same_new nt)) ?_ (hc3.lf (Same.lf (same_new nt)))
      rw [upd_same]
      exact congrArg (fun z => some (HO.tup [V.ref y, V.int z])) (by omega)
end
end K20
namespace K20
open PySem PySem.Spec PyProof.Rows L2 TL TR QR
open GxR (TabB TabG Tabbed)
open PySem.W (EachIs)
abbrev sRF : Stmt := topS 40
abbrev nRF : List Str := ["lines", "at", "name", "note", "changes", "behind", "change"]
theorem scRF : FnScope nRF ["lines", "at"] (defScope sRF) := ⟨rfl, rfl, rfl, by decide +kernel, rfl, by decide +kernel, by decide +kernel⟩
theorem up_nil {α : Type} (x : Rs (List α)) : x = x.up 0 ([] ++ ·) := by
  cases x with
  | bad j => show _ = Rs.bad _; rw [Nat.zero_add]
  | good x j => show _ = Rs.good _ _; rw [Nat.zero_add]; rfl
theorem take_pat {l : List Nat} (h : l.take 6 = wPatch) : l = wPatch ++ l.drop 6 := by rw [← h, List.take_append_drop]
theorem take_note {l : List Nat} (h : l.take 5 = wNote) : l = wNote ++ l.drop 5 := by rw [← h, List.take_append_drop]
theorem rdF_bad0 {r : Path} (h : ∀ l, r.head? = some l → patLine l = none) : rdF r = .bad 0 := by
  match r with
  | [] => rfl
  | [l] =>
    show (match patLine l with | none => Rs.bad 0 | some _ => Rs.bad 1) = _
    rw [h l rfl]
  | l :: m :: r =>
    show (match patLine l with | none => Rs.bad 0 | some n => match noteLine m with | none => Rs.bad 1 | some t => (rdCs 12 false r).up 2 fun cs => (⟨n, cs, t⟩ : Pat)) = _
    rw [h l rfl]
theorem rdF_bad1 {l : List Nat} {r : Path} {n : Nm} (h : patLine l = some n) (h2 : ∀ m, r.head? = some m → noteLine m = none) : rdF (l :: r) = .bad 1 := by
  match r with
  | [] =>
    show (match patLine l with | none => Rs.bad 0 | some _ => Rs.bad 1) = _
    rw [h]
  | m :: r =>
    show (match patLine l with | none => Rs.bad 0 | some n => match noteLine m with | none => Rs.bad 1 | some t => (rdCs 12 false r).up 2 fun cs => (⟨n, cs, t⟩ : Pat)) = _
    rw [h, h2 m rfl]
theorem rdF_go {l m t : List Nat} {r : Path} {n : Nm} (h : patLine l = some n) (h2 : noteLine m = some t) : rdF (l :: m :: r) = (rdCs 12 false r).up 2 fun cs => ⟨n, cs, t⟩ := by
  show (match patLine l with | none => Rs.bad 0 | some n => match noteLine m with | none => Rs.bad 1 | some t => (rdCs 12 false r).up 2 fun cs => (⟨n, cs, t⟩ : Pat)) = _
  rw [h, h2]
theorem rdCs_end {f : Nat} {r : Path} (h : r.head? = some wEnd) : rdCs f true r = .good [] 1 := by
  cases f with
  | zero => exact if_pos ⟨rfl, h⟩
  | succ f => exact if_pos ⟨rfl, h⟩
theorem rdCs_full {ne : Bool} {r : Path} (h : ¬ (ne = true ∧ r.head? = some wEnd)) : rdCs 0 ne r = .bad 0 := if_neg h
theorem rdCs_bad {f : Nat} {ne : Bool} {r : Path} {j : Nat} (h : ¬ (ne = true ∧ r.head? = some wEnd)) (e : rdC r = .bad j) : rdCs (f + 1) ne r = .bad j := by
  show (if ne = true ∧ r.head? = some wEnd then _ else match rdC r with | .bad j => Rs.bad j | .good c j => (rdCs f true (r.drop j)).up j (c :: ·)) = _
  rw [if_neg h, e]
theorem rdCs_go {f : Nat} {ne : Bool} {r : Path} {j : Nat} {c : Chg} (h : ¬ (ne = true ∧ r.head? = some wEnd)) (e : rdC r = .good c j) : rdCs (f + 1) ne r = (rdCs f true (r.drop j)).up j (c :: ·) := by
  show (if ne = true ∧ r.head? = some wEnd then _ else match rdC r with | .bad j => Rs.bad j | .good c j => (rdCs f true (r.drop j)).up j (c :: ·)) = _
  rw [if_neg h, e]
theorem rdCs_nil {f : Nat} {ne : Bool} : rdCs f ne [] = .bad 0 := by
  cases f with
  | zero => exact rdCs_full fun z => nomatch z.2
  | succ f => exact rdCs_bad (fun z => nomatch z.2) rfl
section
variable {P : Program} {w : World} {K : PySem.W.Frag} {mg : Str → Option Value} {base : Heap} {C fI : Addr} {kMC : Tok}
def spRF (Ts : List Addr) (C : Addr) : Sp := fun vs H Q E => ∃ (a : Addr) (ls : Path) (n : Nat), vs = [.ref a, .int (n : Int)] ∧ LsAt H a ls ∧ TG Ts H ∧
  (∀ P j, rdF (ls.drop n) = .good P j → ∀ H' t v, Tbs Ts H H' → H' t = some (.tup [v, .int ((n + j : Nat) : Int)]) → PatAt (fun b => H b = none) H' v P → Q (.ref t) H') ∧ (∀ j, rdF (ls.drop n) = .bad j → ∀ H', Tbs Ts H H' → Out C E (n + j) H')
theorem ok_RF {f fRI fOL fTL fRC : Addr} {Ts : List Addr} {fd fdRI fdOL fdTL fdRC : FuncData} (F : Fun K "read_from" "read_from" sRF f fd) (L : PySem.TextX.TextTxt K mg C fI)
    (GRI : FnOk P w K mg base CX0 5 fRI fdRI ["text"] (spRI Ts)) (bRI : Binds K fdRI ["text"] []) (gRI : mg "read_id" = some (.ref fRI)) (kRI : PySem.W.keepIn K (.ref fRI) = true)
    (GOL : FnOk P w K mg base (L2.CX P w) 1 fOL fdOL ["lines", "at", "start"] (spOL C)) (bOL : Binds K fdOL ["lines", "at", "start"] []) (gOL : mg "rest_of_line" = some (.ref fOL)) (kOL : PySem.W.keepIn K (.ref fOL) = true)
    (GTL : FnOk P w K mg base (L2.CX P w) 3 fTL fdTL ["lines", "at", "start"] (spTL Ts C)) (bTL : Binds K fdTL ["lines", "at", "start"] []) (gTL : mg "read_text_line" = some (.ref fTL)) (kTL : PySem.W.keepIn K (.ref fTL) = true)
    (GRC : FnOk P w K mg base (L2.CX P w) 9 fRC fdRC ["lines", "at"] (spRC Ts C)) (bRC : Binds K fdRC ["lines", "at"] []) (gRC : mg "read_change" = some (.ref fRC)) (kRC : PySem.W.keepIn K (.ref fRC) = true)
    (gMC : mg "MOST_CHANGES" = some (.int 12 kMC)) (m_len : mg "len" = none) : FnOk P w K mg base (L2.CX P w) 10 f fd ["lines", "at"] (spRF Ts C) := by
  refine F.okX scRF (fun vs H Q E h => ?_) (fun cdv A outer s H vs Q E hr h => ?_)
  · obtain ⟨a, ls, n, rfl, _⟩ := h
    rfl
  · obtain ⟨a, ls, n, rfl, hL, g, q1, q2⟩ := h
    have hu := hr.units
    have hu1 := hu_of hr
    have hr1 : Room 1 _ := hr.mono (by decide)
    have hr2 : Room 2 _ := hr.mono (by decide)
    have hr3 : Room 3 _ := hr.mono (by decide)
    have hr4 : Room 4 _ := hr.mono (by decide)
    have hr5 : Room 5 _ := hr.mono (by decide)
    have hr6 : Room 6 _ := hr.mono (by decide)
    have hr7 : Room 7 _ := hr.mono (by decide)
    have hr8 : Room 8 _ := hr.mono (by decide)
    have hr9 : Room 9 _ := hr.mono (by decide)
    have zl := zl
    refine ⟨_, (pss_cons (ps_set (i := 2) scRF.nd rfl (.inl rfl) (pe_call GRI hr5 (by rfl) gRI kRI bRI .nil pass0 (pa_cons (pe_call GOL hr1 (by rfl) gOL kOL bOL .nil (passes_call (takes_of rfl rfl rfl rfl) (fun _ _ _ _ h => h)) (pa_cons (pv 0) (pa_cons (pv 1) (pa_cons (pe_str) pa_nil)))) pa_nil)))
      (pss_cons (ps_if (pt_cmpR op_isN (pv 2) (pe_non) (nomark _))
      (pss_one (ps_raiseText rfl L hr (takes_of rfl rfl rfl rfl) (by exact (pa_cons (pv 1) pa_nil)))) pss_nil)
      (pss_cons (ps_set (i := 3) scRF.nd rfl (.inl rfl) (pe_call GTL hr3 (by rfl) gTL kTL bTL .nil (passes_call (takes_of rfl rfl rfl rfl) (fun _ _ _ _ h => h)) (pa_cons (pv 0) (pa_cons (pe_op op_add (pv 1) (pe_int)) (pa_cons (pe_str) pa_nil)))))
      (pss_cons (ps_par (i := 4) (j := 5) (by rfl) scRF.nd rfl rfl (by decide) rfl rfl (pa_cons (pe_lst (pa_nil)) (pa_cons (pe_op op_add (pv 1) (pe_int)) pa_nil)) (by rfl))
      (pss_cons (ps_while (passes_of rfl) (PW.pt (pw_or (pt_not (pt_truth (pv 4) (by intro _; rfl))) (pw_or1 (pt_cmpR op_ne (pe_call GOL hr1 (by rfl) gOL kOL bOL .nil (passes_call (takes_of rfl rfl rfl rfl) (fun _ _ _ _ h => h)) (pa_cons (pv 0) (pa_cons (pv 5) (pa_cons (pe_str) pa_nil)))) (pe_str) (nomark _)))))
      (pss_cons (ps_if (pt_cmpR op_eq (pe_callB call_len_seq (by rfl) m_len PySem.boot_len (pa_cons (pv 4) pa_nil)) (pe_glob (v := V.int 12) (by rfl) gMC ⟨_, rfl⟩) (nomark _))
      (pss_one (ps_raiseText rfl L hr (takes_of rfl rfl rfl rfl) (by exact (pa_cons (pv 5) pa_nil)))) pss_nil)
      (pss_cons (ps_asg (pe_call GRC hr9 (by rfl) gRC kRC bRC .nil (passes_call (takes_of rfl rfl rfl rfl) (fun _ _ _ _ h => h)) (pa_cons (pv 0) (pa_cons (pv 5) pa_nil))) (pg_tup (by rfl) (pgs_cons (pg_name (i := 6) scRF.nd rfl (.inl rfl)) (pgs_cons (pg_name (i := 5) scRF.nd rfl (.inl rfl)) pgs_nil))))
      (pss_one (ps_expr (pe_bm PySem.F.plainAttrs_list PySem.F.slot_list_append PySem.F.type_list_append mt_append (pv 4) (pa_cons (pv 6) pa_nil)))))))
      (pss_one (ps_ret (pe_tup (pa_cons (pe_tup (pa_cons (pe_str) (pa_cons (pv 2) (pa_cons (pv 4) (pa_cons (pv 3) pa_nil))))) (pa_cons (pe_op op_add (pv 5) (pe_int)) pa_nil)))))))))), ?_⟩
    have nl2 := hL.len
    refine ⟨_, rfl, _, rfl, a, ls, n, Str.ofString "patch ", rfl, hL, by decide +kernel, fun r h0 => ?_, fun no => ?_⟩
    rotate_left
    · refine q2 0 (rdF_bad0 fun l e => ?_) H (Tbs.refl g)
      rw [List.head?_drop] at e
      refine if_neg fun z => no (l.drop 6) ?_
      rw [t_pt]
      show ls[n]? = some (wPatch ++ l.drop 6)
      rw [← take_pat z]
      exact e
    rw [t_pt] at h0
    have hd := drop_cons h0
    have lr : r.length ≤ 70000 := by
      have := hL.ll _ (List.mem_of_getElem? h0)
      rw [List.length_append] at this
      omega
    have nl : n < ls.length := (List.getElem?_eq_some_iff.mp h0).1
    have epl : patLine (wPatch ++ r) = readNm r := if_pos rfl
    dsimp only [tNil, tCons, tC, List.cons_append, List.nil_append]
    refine rio lr g fun H1 nv t1 hn => ?_
    cases en : readNm r with
    | none =>
      rw [en] at hn epl
      have hn : nv = .non := hn
      subst hn
      refine ⟨_, rfl, rfl, _, rfl, yes_if (by simp) ⟨_, rfl, _, rfl, q2 0 (rdF_bad0 fun l e => ?_) H1 t1⟩⟩
      rw [hd] at e
      rw [← Option.some.inj e]
      exact epl
    | some nm =>
    rw [en] at hn epl
    obtain ⟨na, lv, en', e1, e2⟩ := hn
    have hn : NmAt H1 nv nm := ⟨na, lv, en', e1, e2⟩
    refine ⟨_, rfl, rfl, _, rfl, no_if (by rw [en']; simp) ?_⟩
    refine ⟨_, rfl, _, rfl, _, _, rfl, rfl, a, ls, n + 1, Str.ofString "note ", rfl, hL.tbs g t1, by decide +kernel, t1.tg, fun nt h1 okn H2 t2 => ?_, fun no H2 t2 => ?_⟩
    rotate_left
    · refine q2 1 ?_ H2 (t1.trans t2)
      rw [hd]
      refine rdF_bad1 epl fun m e => if_neg fun z => ?_
      rw [List.head?_drop] at e
      exact no (m.drop 5) (by rw [t_nt]; show ls[n + 1]? = some (wNote ++ m.drop 5); rw [← take_note z.1]; exact e) z.2
    rw [t_nt] at h1
    have enl : noteLine (wNote ++ nt) = some nt := if_pos ⟨rfl, okn⟩
    have eF : rdF (ls.drop n) = (rdCs 12 false (ls.drop (n + 2))).up 2 fun cs => ⟨nm, cs, nt⟩ := by
      rw [hd, drop_cons h1]
      exact rdF_go epl enl
    have t12 := t1.trans t2
    refine ⟨by show 0 ≤ sizeLine; omega, fun D nD => ⟨_, rfl, _, _, rfl, rfl, _, _, rfl, ?_⟩⟩
    obtain ⟨nD0, nDT⟩ := t12.isNew nD
    have hn2 := hn.ts (t2.ts t1.tg)
    refine ⟨fun m σ H' => ∃ (i j : Nat) (acc : List V) (pre : List Chg) (y : Option V), m = 13 - i ∧ i ≤ 12 ∧ pre.length = i ∧ σ = [some (.ref a), some (.int (n : Int)), some nv, some (.str (Sg nt)), some (.ref D), some (.int ((n + 2 + j : Nat) : Int)), y] ∧
      rdCs 12 false (ls.drop (n + 2)) = (rdCs (12 - i) (decide (0 < i)) (ls.drop (n + 2 + j))).up j (pre ++ ·) ∧
      Tbs Ts H H' ∧ NmAt H' nv nm ∧ H' D = some (.lst acc) ∧ EachIs (ChgAt (fun b => H b = none ∧ b ≠ D) H') acc pre, ⟨13, 0, 0, [], [], none, rfl, Nat.zero_le _, rfl, rfl, ?_, t12.updN nD0 nDT, hn2.ts (Same.ts (same_new nD)), upd_same, .nil⟩, ?_⟩
    · exact up_nil _
    rintro m σ H3 ⟨i, j, acc, pre, y, rfl, hi, lp, rfl, eC, t3, hn3, eD, he⟩
    have la := he.length
    have hL3 := hL.tbs g t3
    have bad : ∀ k, rdCs (12 - i) (decide (0 < i)) (ls.drop (n + 2 + j)) = .bad k → ∀ H', Tbs Ts H H' → Out C E (n + 2 + j + k) H' := fun k e H' t => by
      have := q2 (2 + (j + k)) (by rw [eF, eC, e]; rfl) H' t
      rwa [show n + (2 + (j + k)) = n + 2 + j + k by omega] at this
    refine ⟨_, rfl, !acc.isEmpty, .inl ⟨acc, SqL.of eD, rfl⟩, ?_⟩
    have emp : acc.isEmpty = decide (i = 0) := by
      cases acc with
      | nil =>
        have : i = 0 := by rw [← lp, ← la]; rfl
        rw [decide_eq_true this]
        rfl
      | cons _ _ =>
        have : i ≠ 0 := fun z => by rw [← lp, ← la] at z; cases z
        rw [decide_eq_false this]
        rfl
    by_cases i0 : i = 0
    · have hb : (!acc.isEmpty) = false := by rw [emp, decide_eq_true i0]; rfl
      rw [hb]
      refine yes_if (by decide) (iteT ?_)
      have ne : ¬ ((decide (0 < i)) = true ∧ (ls.drop (n + 2 + j)).head? = some wEnd) := fun z => by
        have := of_decide_eq_true z.1
        omega
      refine ⟨_, fun σ' H' z => z, ?_⟩
      refine ⟨_, rfl, D, _, rfl, .inl (SqL.of eD), rfl, _, rfl, ite2 (fun h12 => ?_) (fun h12 => ?_)⟩
      · have h12 := V.int.inj (of_decide_eq_true h12)
        have i12 : i = 12 := by omega
        refine ⟨_, rfl, _, rfl, bad 0 ?_ H3 t3⟩
        rw [show 12 - i = 0 by omega]
        exact rdCs_full ne
      · have h12 : ¬ i = 12 := fun z => h12 (decide_eq_true (congrArg V.int (by omega)))
        have ef : 12 - i = (12 - (i + 1)) + 1 := by omega
        refine ⟨_, rfl, _, rfl, a, ls, n + 2 + j, rfl, hL3, t3.tg, fun c k eG H4 t v t4 et hc => ?_, fun k eB H4 t4 => bad k (by rw [ef]; exact rdCs_bad ne eB) H4 (t3.trans t4)⟩
        have eD4 := t4.lst t3.tg eD
        refine ⟨t, _, rfl, SqT.of et, rfl, _, _, rfl, _, _, rfl, rfl, _, rfl, .inl ⟨rfl, _, .inl (.inl eD4)⟩, _, rfl, D, acc, v, rfl, rfl, eD4, by omega, 13 - (i + 1), by omega, i + 1, j + k, acc ++ [v], pre ++ [c], some v, rfl, by omega, by rw [List.length_append, lp]; rfl, by rw [← Nat.add_assoc]; rfl, ?_, (t3.trans t4).updN nD0 nDT, hn3.ts ((t4.ts t3.tg).trans (lf_upd (N := fun b => b ≠ D) eD4 fun z => z rfl).ts), upd_same, ?_⟩
        · rw [eC, ef, rdCs_go ne eG, up_up, List.drop_drop]
          rw [show n + 2 + j + k = n + 2 + (j + k) from Nat.add_assoc _ _ _, show decide (0 < i + 1) = true from decide_eq_true (Nat.succ_pos i)]
          have : (fun a => pre ++ (c :: a)) = fun a => pre ++ [c] ++ a := by
            funext a
            rw [List.append_assoc]
            rfl
          rw [this]
        · have lfD : LF (fun b => H b = none ∧ b ≠ D) H4 (upd H4 D (.lst (acc ++ [v]))) := lf_upd eD4 fun z => z.2 rfl
          exact each_snoc (he.mono fun _ _ z => (z.lf (Tbs.lf t4 t3.tg)).lf lfD) ((hc.imp fun b z => ⟨t3.none b z, fun e => by rw [e, eD] at z; cases z⟩).lf lfD)
    · have hb : (!acc.isEmpty) = true := by rw [emp, decide_eq_false i0]; rfl
      rw [hb]
      refine no_if (by decide) ?_
      have hi0 : decide (0 < i) = true := decide_eq_true (by omega)
      refine ⟨_, rfl, _, rfl, a, ls, _, Str.ofString "", rfl, hL3, by decide +kernel, fun l hk => ?_, fun no => ?_⟩
      rotate_left
      · refine bad 0 ?_ H3 t3
        rw [drop_nil fun r z => no r (by rw [te_nil]; exact z)]
        exact rdCs_nil
      rw [te_nil, List.nil_append] at hk
      refine ⟨rfl, _, rfl, ?_⟩
      by_cases hend : l = wEnd
      · have hne : (!decide (V.str (Sg l) = V.str "end")) = false := by
          rw [hend, end_sg]
          exact congrArg Bool.not (decide_eq_true rfl)
        rw [hne]
        refine iteF ?_
        have eE : rdF (ls.drop n) = .good ⟨nm, pre ++ [], nt⟩ (2 + (j + 1)) := by
          rw [eF, eC, hi0, rdCs_end (by rw [List.head?_drop, hk, hend])]
          rfl
        rw [List.append_nil] at eE
        refine ⟨_, rfl, _, rfl, _, rfl, by show 4 ≤ sizeLine; omega, fun u nu => ⟨_, rfl, _, _, rfl, rfl, by show 2 ≤ sizeLine; omega, fun t nt' => ?_⟩⟩
        have s4 : Same H3 (upd H3 u (.tup [.str "patch", nv, .ref D, .str (Sg nt)])) := same_new nu
        have eu : (upd H3 u (.tup [.str "patch", nv, .ref D, .str (Sg nt)])) u = some (.tup [.str "patch", nv, .ref D, .str (Sg nt)]) := upd_same
        generalize upd H3 u (.tup [.str "patch", nv, .ref D, .str (Sg nt)]) = H4 at s4 eu nt'
        refine q1 _ _ eE _ t (.ref u) (t3.same (same_trans s4 (same_new nt'))) ?_ ?_
        · rw [upd_same]
          exact congrArg (fun z => some (HO.tup [V.ref u, V.int z])) (by omega)
        · have s5 := same_trans s4 (same_new (o := .tup [.ref u, .int (((n + 2 + j : Nat) : Int) + 1)]) nt')
          exact ⟨u, nv, D, acc, rfl, same_new nt' _ _ eu, hn3.ts (Same.ts s5), nD0, s5 _ _ eD, he.mono fun _ _ z => (z.imp fun _ y => y.1).lf (Same.lf s5)⟩
      · have hne : (!decide (V.str (Sg l) = V.str "end")) = true := by
          rw [Bool.not_eq_true', decide_eq_false_iff_not, end_sg]
          exact fun z => hend (sg_inj (V.str.inj z))
        rw [hne]
        refine iteT ?_
        have ne : ¬ ((decide (0 < i)) = true ∧ (ls.drop (n + 2 + j)).head? = some wEnd) := fun z => by
          have := z.2
          rw [List.head?_drop, hk] at this
          exact hend (Option.some.inj this)
        refine ⟨_, fun σ' H' z => z, ?_⟩
        refine ⟨_, rfl, D, _, rfl, .inl (SqL.of eD), rfl, _, rfl, ite2 (fun h12 => ?_) (fun h12 => ?_)⟩
        · have h12 := V.int.inj (of_decide_eq_true h12)
          have i12 : i = 12 := by omega
          refine ⟨_, rfl, _, rfl, bad 0 ?_ H3 t3⟩
          rw [show 12 - i = 0 by omega]
          exact rdCs_full ne
        · have h12 : ¬ i = 12 := fun z => h12 (decide_eq_true (congrArg V.int (by omega)))
          have ef : 12 - i = (12 - (i + 1)) + 1 := by omega
          refine ⟨_, rfl, _, rfl, a, ls, n + 2 + j, rfl, hL3, t3.tg, fun c k eG H4 t v t4 et hc => ?_, fun k eB H4 t4 => bad k (by rw [ef]; exact rdCs_bad ne eB) H4 (t3.trans t4)⟩
          have eD4 := t4.lst t3.tg eD
          refine ⟨t, _, rfl, SqT.of et, rfl, _, _, rfl, _, _, rfl, rfl, _, rfl, .inl ⟨rfl, _, .inl (.inl eD4)⟩, _, rfl, D, acc, v, rfl, rfl, eD4, by omega, 13 - (i + 1), by omega, i + 1, j + k, acc ++ [v], pre ++ [c], some v, rfl, by omega, by rw [List.length_append, lp]; rfl, by rw [← Nat.add_assoc]; rfl, ?_, (t3.trans t4).updN nD0 nDT, hn3.ts ((t4.ts t3.tg).trans (lf_upd (N := fun b => b ≠ D) eD4 fun z => z rfl).ts), upd_same, ?_⟩
          · rw [eC, ef, rdCs_go ne eG, up_up, List.drop_drop]
            rw [show n + 2 + j + k = n + 2 + (j + k) from Nat.add_assoc _ _ _, show decide (0 < i + 1) = true from decide_eq_true (Nat.succ_pos i)]
            have : (fun a => pre ++ (c :: a)) = fun a => pre ++ [c] ++ a := by
              funext a
              rw [List.append_assoc]
              rfl
            rw [this]
          · have lfD : LF (fun b => H b = none ∧ b ≠ D) H4 (upd H4 D (.lst (acc ++ [v]))) := lf_upd eD4 fun z => z.2 rfl
            exact each_snoc (he.mono fun _ _ z => (z.lf (Tbs.lf t4 t3.tg)).lf lfD) ((hc.imp fun b z => ⟨t3.none b z, fun e => by rw [e, eD] at z; cases z⟩).lf lfD)
end
end K20
namespace K20
open PySem PySem.Spec PyProof.Rows L2 TL TR QR
open GxR (TabB TabG Tabbed)
open PySem.W (EachIs)
abbrev sRQ : Stmt := topS 41
abbrev nRQ : List Str := ["lines", "patch", "behind"]
theorem scRQ : FnScope nRQ ["lines"] (defScope sRQ) := ⟨rfl, rfl, rfl, by decide +kernel, rfl, by decide +kernel, by decide +kernel⟩
abbrev sRR : Stmt := topS 42
abbrev nRR : List Str := ["lines", "rows", "at", "patch"]
theorem scRR : FnScope nRR ["lines"] (defScope sRR) := ⟨rfl, rfl, rfl, by decide +kernel, rfl, by decide +kernel, by decide +kernel⟩
theorem rdF_pos {r : Path} {P : Pat} {k : Nat} (h : rdF r = .good P k) : 0 < k := by
  match r with
  | [] => cases h
  | [l] =>
    have h : (match patLine l with | none => Rs.bad 0 | some _ => Rs.bad 1) = Rs.good P k := h
    split at h <;> cases h
  | l :: m :: r =>
    have h : (match patLine l with | none => Rs.bad 0 | some n => match noteLine m with | none => Rs.bad 1 | some t => (rdCs 12 false r).up 2 fun cs => (⟨n, cs, t⟩ : Pat)) = Rs.good P k := h
    split at h
    · cases h
    · split at h
      · cases h
      · cases e : rdCs 12 false r with
        | bad j =>
          rw [e] at h
          cases h
        | good x j =>
          rw [e] at h
          have h : Rs.good _ (2 + j) = Rs.good P k := h
          injection h with _ h
          omega
theorem rdA_go {f : Nat} {r : Path} (hn : r ≠ []) (hf : r.length ≤ f) : ∃ f', f = f' + 1 ∧ (∀ j, rdF r = .bad j → rdA f r = .bad j) ∧ ∀ P j, rdF r = .good P j → rdA f r = (rdA f' (r.drop j)).up j (P :: ·) := by
  cases r with
  | nil => exact absurd rfl hn
  | cons l ls =>
    cases f with
    | zero => cases hf
    | succ f =>
      refine ⟨f, rfl, fun j e => ?_, fun P j e => ?_⟩
      · show (match rdF (l :: ls) with | .bad j => Rs.bad j | .good P j => (rdA f ((l :: ls).drop j)).up j (P :: ·)) = _
        rw [e]
      · show (match rdF (l :: ls) with | .bad j => Rs.bad j | .good P j => (rdA f ((l :: ls).drop j)).up j (P :: ·)) = _
        rw [e]
theorem rdA_nil {f : Nat} : rdA f [] = .good [] 0 := by
  cases f <;> rfl
section
variable {P : Program} {w : World} {K : PySem.W.Frag} {mg : Str → Option Value} {base : Heap} {C fI : Addr}
def spRQ (Ts : List Addr) (C : Addr) : Sp := fun vs H Q E => ∃ (a : Addr) (ls : Path), vs = [.ref a] ∧ LsAt H a ls ∧ TG Ts H ∧
  (∀ P j, rdF ls = .good P j → ls.length ≤ j → ∀ H' v, Tbs Ts H H' → PatAt (fun b => H b = none) H' v P → Q v H') ∧ (∀ P j, rdF ls = .good P j → j < ls.length → ∀ H', Tbs Ts H H' → Out C E j H') ∧ (∀ j, rdF ls = .bad j → ∀ H', Tbs Ts H H' → Out C E j H')
theorem ok_RQ {f fRF : Addr} {fd fdRF : FuncData} (F : Fun K "read_patch" "read_patch" sRQ f fd) (L : PySem.TextX.TextTxt K mg C fI)
    (GRF : FnOk P w K mg base (L2.CX P w) 10 fRF fdRF ["lines", "at"] (spRF Ts C)) (bRF : Binds K fdRF ["lines", "at"] []) (gRF : mg "read_from" = some (.ref fRF)) (kRF : PySem.W.keepIn K (.ref fRF) = true)
    (m_len : mg "len" = none) : FnOk P w K mg base (L2.CX P w) 11 f fd ["lines"] (spRQ Ts C) := by
  refine F.okX scRQ (fun vs H Q E h => ?_) (fun cdv A outer s H vs Q E hr h => ?_)
  · obtain ⟨a, ls, rfl, _⟩ := h
    rfl
  · obtain ⟨a, ls, rfl, hL, g, q1, q2, q3⟩ := h
    have hu := hr.units
    have hu1 := hu_of hr
    have hr1 : Room 1 _ := hr.mono (by decide)
    have hr2 : Room 2 _ := hr.mono (by decide)
    have hr3 : Room 3 _ := hr.mono (by decide)
    have hr4 : Room 4 _ := hr.mono (by decide)
    have hr5 : Room 5 _ := hr.mono (by decide)
    have hr6 : Room 6 _ := hr.mono (by decide)
    have hr7 : Room 7 _ := hr.mono (by decide)
    have hr8 : Room 8 _ := hr.mono (by decide)
    have hr9 : Room 9 _ := hr.mono (by decide)
    have hr10 : Room 10 _ := hr.mono (by decide)
    have zl := zl
    refine ⟨_, (pss_cons (ps_asg (pe_call GRF hr10 (by rfl) gRF kRF bRF .nil (passes_call (takes_of rfl rfl rfl rfl) (fun _ _ _ _ h => h)) (pa_cons (pv 0) (pa_cons (pe_int) pa_nil))) (pg_tup (by rfl) (pgs_cons (pg_name (i := 1) scRQ.nd rfl (.inl rfl)) (pgs_cons (pg_name (i := 2) scRQ.nd rfl (.inl rfl)) pgs_nil))))
      (pss_cons (ps_if (pt_cmpR op_lt (pv 2) (pe_callB call_len_seq (by rfl) m_len PySem.boot_len (pa_cons (pv 0) pa_nil)) (nomark _))
      (pss_one (ps_raiseText rfl L hr (takes_of rfl rfl rfl rfl) (by exact (pa_cons (pv 2) pa_nil)))) pss_nil)
      (pss_one (ps_ret (pv 1))))), ?_⟩
    have lls : (strV ls).length = ls.length := List.length_map _
    refine ⟨_, rfl, a, ls, 0, rfl, hL, g, fun R j e H1 t v t1 et hp => ?_, fun j e H1 t1 => by rw [Nat.zero_add]; exact q3 j e H1 t1⟩
    rw [Nat.zero_add] at et
    refine ⟨t, _, rfl, SqT.of et, rfl, _, _, rfl, _, _, rfl, rfl, _, rfl, _, rfl, a, _, rfl, .inl (SqL.of (t1.lst g hL.at_)), _, _, rfl, rfl, _, rfl, ite2 (fun h1 => ?_) (fun h1 => ?_)⟩
    · have h1 := of_decide_eq_true h1
      exact ⟨_, rfl, _, rfl, q2 R j e (by omega) H1 t1⟩
    · have h1 : ¬ (j : Int) < ((strV ls).length : Int) := fun z => h1 (decide_eq_true z)
      exact ⟨_, rfl, q1 R j e (by omega) H1 v t1 hp⟩
def spRR (Ts : List Addr) (C : Addr) : Sp := fun vs H Q E => ∃ (a : Addr) (ls : Path), vs = [.ref a] ∧ LsAt H a ls ∧ TG Ts H ∧
  (∀ Ps j, rdA ls.length ls = .good Ps j → ∀ H' p ws, Tbs Ts H H' → H p = none → H' p = some (.lst ws) → EachIs (PatAt (fun b => H b = none ∧ b ≠ p) H') ws Ps → Q (.ref p) H') ∧ (∀ j, rdA ls.length ls = .bad j → ∀ H', Tbs Ts H H' → Out C E j H')
theorem ok_RR {f fRF : Addr} {fd fdRF : FuncData} (F : Fun K "read_patches" "read_patches" sRR f fd) (L : PySem.TextX.TextTxt K mg C fI)
    (GRF : FnOk P w K mg base (L2.CX P w) 10 fRF fdRF ["lines", "at"] (spRF Ts C)) (bRF : Binds K fdRF ["lines", "at"] []) (gRF : mg "read_from" = some (.ref fRF)) (kRF : PySem.W.keepIn K (.ref fRF) = true)
    (m_len : mg "len" = none) : FnOk P w K mg base (L2.CX P w) 11 f fd ["lines"] (spRR Ts C) := by
  refine F.okX scRR (fun vs H Q E h => ?_) (fun cdv A outer s H vs Q E hr h => ?_)
  · obtain ⟨a, ls, rfl, _⟩ := h
    rfl
  · obtain ⟨a, ls, rfl, hL, g, q1, q2⟩ := h
    have hu := hr.units
    have hu1 := hu_of hr
    have hr1 : Room 1 _ := hr.mono (by decide)
    have hr2 : Room 2 _ := hr.mono (by decide)
    have hr3 : Room 3 _ := hr.mono (by decide)
    have hr4 : Room 4 _ := hr.mono (by decide)
    have hr5 : Room 5 _ := hr.mono (by decide)
    have hr6 : Room 6 _ := hr.mono (by decide)
    have hr7 : Room 7 _ := hr.mono (by decide)
    have hr8 : Room 8 _ := hr.mono (by decide)
    have hr9 : Room 9 _ := hr.mono (by decide)
    have hr10 : Room 10 _ := hr.mono (by decide)
    have zl := zl
    refine ⟨_, (pss_cons (ps_par (i := 1) (j := 2) (by rfl) scRR.nd rfl rfl (by decide) rfl rfl (pa_cons (pe_lst (pa_nil)) (pa_cons (pe_int) pa_nil)) (by rfl))
      (pss_cons (ps_while (passes_of rfl) (pt_cmpR op_lt (pv 2) (pe_callB call_len_seq (by rfl) m_len PySem.boot_len (pa_cons (pv 0) pa_nil)) (nomark _))
      (pss_cons (ps_asg (pe_call GRF hr10 (by rfl) gRF kRF bRF .nil (passes_call (takes_of rfl rfl rfl rfl) (fun _ _ _ _ h => h)) (pa_cons (pv 0) (pa_cons (pv 2) pa_nil))) (pg_tup (by rfl) (pgs_cons (pg_name (i := 3) scRR.nd rfl (.inl rfl)) (pgs_cons (pg_name (i := 2) scRR.nd rfl (.inl rfl)) pgs_nil))))
      (pss_one (ps_expr (pe_bm PySem.F.plainAttrs_list PySem.F.slot_list_append PySem.F.type_list_append mt_append (pv 1) (pa_cons (pv 3) pa_nil))))))
      (pss_one (ps_ret (pv 1))))), ?_⟩
    have lls : (strV ls).length = ls.length := List.length_map _
    have nl2 := hL.len
    refine ⟨by show 0 ≤ sizeLine; omega, fun D nD => ⟨_, _, rfl, ?_⟩⟩
    obtain ⟨nD0, nDT⟩ := (Tbs.refl g).isNew nD
    refine ⟨fun m σ H' => ∃ (j f : Nat) (acc : List V) (pre : List Pat) (y : Option V), m = ls.length - j ∧ pre.length ≤ j ∧ (ls.drop j).length ≤ f ∧ σ = [some (.ref a), some (.ref D), some (.int (j : Int)), y] ∧ rdA ls.length ls = (rdA f (ls.drop j)).up j (pre ++ ·) ∧
      Tbs Ts H H' ∧ H' D = some (.lst acc) ∧ EachIs (PatAt (fun b => H b = none ∧ b ≠ D) H') acc pre, ⟨ls.length, 0, ls.length, [], [], none, rfl, Nat.zero_le _, Nat.le_refl _, rfl, up_nil _, (Tbs.refl g).updN nD0 nDT, upd_same, .nil⟩, ?_⟩
    rintro m σ H3 ⟨j, f, acc, pre, y, rfl, hp, hf, rfl, eA, t3, eD, he⟩
    have la := he.length
    refine ⟨_, rfl, _, rfl, a, _, rfl, .inl (SqL.of (t3.lst g hL.at_)), _, _, rfl, rfl, _, rfl, ite2 (fun h1 => ?_) (fun h1 => ?_)⟩
    · have h1 := of_decide_eq_true h1
      have hj : j < ls.length := by omega
      have hne : ls.drop j ≠ [] := fun z => by
        have := congrArg List.length z
        rw [List.length_drop] at this
        have : ls.length - j = 0 := this
        omega
      obtain ⟨f', rfl, eb, eg⟩ := rdA_go hne hf
      refine ⟨_, fun σ' H' z => z, ?_⟩
      refine ⟨_, rfl, _, rfl, a, ls, j, rfl, hL.tbs g t3, t3.tg, fun R k e H4 t v t4 et hP => ?_, fun k e H4 t4 => q2 (j + k) (by rw [eA, eb k e]; rfl) H4 (t3.trans t4)⟩
      have kp := rdF_pos e
      have eD4 := t4.lst t3.tg eD
      refine ⟨t, _, rfl, SqT.of et, rfl, _, _, rfl, _, _, rfl, rfl, _, rfl, .inl ⟨rfl, _, .inl (.inl eD4)⟩, _, rfl, D, acc, v, rfl, rfl, eD4, by omega, ls.length - (j + k), by omega, j + k, f', acc ++ [v], pre ++ [R], some v, rfl, by rw [List.length_append]; show _ + 1 ≤ _; omega, ?_, rfl, ?_, (t3.trans t4).updN nD0 nDT, upd_same, ?_⟩
      · rw [List.length_drop] at hf ⊢
        omega
      · rw [eA, eg R k e, up_up, List.drop_drop]
        have : (fun a => pre ++ (R :: a)) = fun a => pre ++ [R] ++ a := by
          funext a
          rw [List.append_assoc]
          rfl
        rw [this]
      · have lfD : LF (fun b => H b = none ∧ b ≠ D) H4 (upd H4 D (.lst (acc ++ [v]))) := lf_upd eD4 fun z => z.2 rfl
        exact each_snoc (he.mono fun _ _ z => (z.lf (Tbs.lf t4 t3.tg)).lf lfD) ((hP.imp fun b z => ⟨t3.none b z, fun e => by rw [e, eD] at z; cases z⟩).lf lfD)
    · have h1 : ¬ (j : Int) < ((strV ls).length : Int) := fun z => h1 (decide_eq_true z)
      rw [List.drop_eq_nil_of_le (by omega), rdA_nil] at eA
      refine ⟨_, rfl, q1 (pre ++ []) (j + 0) eA H3 D acc t3 nD0 eD ?_⟩
      rw [List.append_nil]
      exact he
end
end K20
namespace K20
open PySem PySem.Spec PyProof.Rows L2 TL TR QR
def numB (t : List Nat) (l m : Nat) : Bool := withinB (readNum t m) l m
theorem numB_eq {t : List Nat} {l m : Nat} (hm : m ≤ 99999) : numB t l m = decide (t.length ≠ 0 ∧ t.length ≤ 5 ∧ NumText.AllDigits t ∧ (l ≤ NumText.digitsVal t ∧ NumText.digitsVal t ≤ m) ∧ (t.head? ≠ some 48 ∨ t.length = 1)) := by
  have l5 := num_five hm
  by_cases h : t.length ≠ 0 ∧ t.length ≤ 5 ∧ NumText.AllDigits t ∧ (l ≤ NumText.digitsVal t ∧ NumText.digitsVal t ≤ m) ∧ (t.head? ≠ some 48 ∨ t.length = 1)
  · rw [decide_eq_true h]
    obtain ⟨h0, h5, hd, ⟨hl, hm2⟩, hh⟩ := h
    have ne : t ≠ [] := fun z => h0 (by rw [z]; rfl)
    have zz : t.head? ≠ some 48 ∨ t = [48] := by
      rcases hh with z | z
      · exact .inl z
      · match t, z with
        | [c], _ =>
          by_cases e : c = 48
          · exact .inr (by rw [e])
          · exact .inl (fun y => e (Option.some.inj y))
    have e := num_canon _ t rfl hd ne zz
    unfold numB
    rw [← e, readNum_num hm2]
    exact decide_eq_true ⟨hl, hm2⟩
  · rw [decide_eq_false h]
    unfold numB
    cases hr : readNum t m with
    | none => rfl
    | some n =>
      obtain ⟨e, hn⟩ := readNum_some hr
      by_cases hl : l ≤ n ∧ n ≤ m
      · refine absurd ?_ h
        rw [e, numL_val]
        refine ⟨fun z => numL_ne n (List.eq_nil_of_length_eq_zero z), num_five (by omega), numL_digits n, hl, ?_⟩
        rcases Nat.eq_zero_or_pos n with z | z
        · refine .inr ?_
          rw [z, num_zero]
          rfl
        · obtain ⟨c, r, e1, ne⟩ := num_head z
          refine .inl ?_
          rw [e1]
          intro y
          exact ne (Option.some.inj y)
      · exact decide_eq_false hl
theorem readNum_one {c m : Nat} (hm : m ≤ 9) : readNum [c] m = if 48 ≤ c ∧ c ≤ 48 + m then some (c - 48) else none := by
  by_cases h : 48 ≤ c ∧ c ≤ 48 + m
  · rw [if_pos h]
    have e : numL (c - 48) = [c] := by
      rw [numL_lt (by omega), show 48 + (c - 48) = c by omega]
    rw [← e, readNum_num (by omega)]
  · rw [if_neg h]
    cases hr : readNum [c] m with
    | none => rfl
    | some n =>
      obtain ⟨e, hn⟩ := readNum_some hr
      rw [numL_lt (by omega)] at e
      have := (List.cons.inj e).1
      omega
theorem readNum_many {l : List Nat} {m : Nat} (hm : m ≤ 9) (h : l.length ≠ 1) : readNum l m = none := by
  cases hr : readNum l m with
  | none => rfl
  | some n =>
    obtain ⟨e, hn⟩ := readNum_some hr
    rw [numL_lt (by omega)] at e
    rw [e] at h
    exact absurd rfl h
def ascN (b : List Nat) : Bool := (List.range (b.length - 1)).all fun k => decide (b.getD k 0 < b.getD (k + 1) 0)
def digB (m : Nat) (c : Nat) : Bool := decide (48 ≤ c ∧ c ≤ m)
theorem rd5_all (b : List Nat) : ((rd5 b).all fun m => withinB m 0 5) = b.all (digB 53) := by
  unfold rd5
  rw [List.all_map]
  refine List.all_congr rfl ?_ 
  intro c
  show withinB (readNum [c] 5) 0 5 = _
  rw [readNum_one (by decide)]
  unfold digB
  by_cases h : 48 ≤ c ∧ c ≤ 48 + 5
  · rw [if_pos h, decide_eq_true (show 48 ≤ c ∧ c ≤ 53 from h)]
    exact decide_eq_true ⟨Nat.zero_le _, by omega⟩
  · rw [if_neg h, decide_eq_false (show ¬ (48 ≤ c ∧ c ≤ 53) from h)]
    rfl
theorem rd5_asc {b : List Nat} (h : b.all (digB 53) = true) : ascB (rd5 b) = ascN b := by
  unfold ascB ascN
  have lb : (rd5 b).length = b.length := List.length_map _
  rw [lb, Bool.eq_iff_iff, List.all_eq_true, List.all_eq_true]
  have e : ∀ j, j < b.length → ((rd5 b).getD j none).getD 0 = b.getD j 0 - 48 ∧ 48 ≤ b.getD j 0 := fun j hj => by
    have hc := of_decide_eq_true (List.all_eq_true.mp h _ (List.getElem_mem hj))
    unfold rd5
    rw [List.getD_eq_getElem?_getD, List.getElem?_map, List.getElem?_eq_getElem hj, List.getD_eq_getElem?_getD, List.getElem?_eq_getElem hj]
    show (readNum [b[j]] 5).getD 0 = b[j] - 48 ∧ 48 ≤ b[j]
    rw [readNum_one (by decide), if_pos (show 48 ≤ b[j] ∧ b[j] ≤ 48 + 5 from hc)]
    exact ⟨rfl, hc.1⟩
  refine forall_congr' fun k => ?_
  refine imp_congr_right fun hk => ?_
  have hk := List.mem_range.mp hk
  obtain ⟨e1, e2⟩ := e k (by omega)
  obtain ⟨e3, e4⟩ := e (k + 1) (by omega)
  rw [e1, e3, decide_eq_true_eq, decide_eq_true_eq]
  omega
/-- the law's own test of a label's text -/
def lawLab : List Nat → Bool
  | [] => false
  | [c] => digB 55 c
  | c :: d :: ms => digB 55 c && (decide (d = 58) && (!ms.isEmpty && (ms.all (digB 53) && ascN ms)))
theorem labOf_isSome (a : Option Nat) (ms : List (Option Nat)) : (labOf a ms).isSome = labB a ms := by
  unfold labOf
  cases h : labB a ms with
  | true => rfl
  | false => rfl
theorem seven {l : List Nat} {c : Nat} (e : l = [c]) : withinB (readNum l 7) 0 7 = digB 55 c := by
  rw [e, readNum_one (by decide)]
  unfold digB
  by_cases h : 48 ≤ c ∧ c ≤ 48 + 7
  · rw [if_pos h, decide_eq_true (show 48 ≤ c ∧ c ≤ 55 from h)]
    exact decide_eq_true ⟨Nat.zero_le _, by omega⟩
  · rw [if_neg h, decide_eq_false (show ¬ (48 ≤ c ∧ c ≤ 55) from h)]
    rfl
theorem lawLab_eq (t : List Nat) : lawLab t = (readLab t).isSome := by
  unfold readLab
  rcases brk_cases t with ⟨h1, e⟩ | ⟨a, b, e1, h1, e⟩
  · rw [e]
    show _ = (labOf (readNum t 7) []).isSome
    rw [labOf_isSome]
    match t, h1 with
    | [], _ => rfl
    | [c], _ =>
      unfold labB
      rw [seven rfl]
      show digB 55 c = (digB 55 c && (true && true))
      rw [Bool.and_true, Bool.and_true]
    | c :: d :: ms, h1 =>
      have hd : d ≠ 58 := fun z => h1 (by rw [z]; simp)
      rw [readNum_many (by decide) (by simp)]
      show (digB 55 c && (decide (d = 58) && _)) = _
      rw [decide_eq_false hd, Bool.false_and, Bool.and_false]
      rfl
  · rw [e, e1]
    show _ = (if b = [] then none else labOf (readNum a 7) (rd5 b)).isSome
    match a, h1 with
    | [], _ =>
      rw [readNum_many (by decide) (by simp)]
      have : (if b = [] then none else labOf none (rd5 b)).isSome = false := by
        split <;> rfl
      rw [this]
      cases b with
      | nil => rfl
      | cons d ms => rfl
    | [c], _ =>
      show (digB 55 c && (true && (!b.isEmpty && (b.all (digB 53) && ascN b)))) = _
      cases b with
      | nil =>
        rw [if_pos rfl]
        cases digB 55 c <;> rfl
      | cons x r =>
        rw [if_neg (by simp), labOf_isSome]
        unfold labB
        rw [seven rfl, rd5_all]
        cases hb : (x :: r).all (digB 53) with
        | true => rw [rd5_asc hb]; rfl
        | false => rfl
    | c :: d :: r, h1 =>
      have hd : d ≠ 58 := fun z => h1 (by rw [z]; simp)
      rw [readNum_many (by decide) (by simp)]
      have : (if b = [] then none else labOf none (rd5 b)).isSome = false := by
        split <;> rfl
      rw [this]
      show (digB 55 c && (decide (d = 58) && _)) = _
      rw [decide_eq_false hd, Bool.false_and, Bool.and_false]
def lawPath (t : List Nat) : Bool := okPath (cutAt 47 t)
theorem lawPath_eq (t : List Nat) : lawPath t = (readPath t).isSome := by
  unfold lawPath readPath
  cases h : okPath (cutAt 47 t) with
  | true => rfl
  | false => rfl
/-- the law's own test of an id's parts -/
def lawId : List (List Nat) → Bool
  | [a, b, c] => okWord b && (lawLab a && numB c 1 99999)
  | _ => false
theorem lawId_eq (P : List (List Nat)) : lawId P = (readNmP P).isSome := by
  match P with
  | [] => rfl
  | [_] => rfl
  | [_, _] => rfl
  | _ :: _ :: _ :: _ :: _ => rfl
  | [a, b, c] =>
    show (okWord b && (lawLab a && numB c 1 99999)) = (nmOf (readLab a) b (readNum c 99999)).isSome
    rw [lawLab_eq]
    have e : (nmOf (readLab a) b (readNum c 99999)).isSome = idB (readLab a) b (readNum c 99999) := by
      unfold nmOf
      cases h : idB (readLab a) b (readNum c 99999) with
      | true => rfl
      | false => rfl
    rw [e]
    unfold idB numB
    cases hl : readLab a with
    | none => cases okWord b <;> rfl
    | some l =>
      show _ = (okLab l && _)
      rw [lab_ok.mpr (readLab_back hl).1]
      cases okWord b <;> rfl
/-- the law's own test of a vertex' parts -/
def lawVx : List (List Nat) → Bool
  | [a, b, c, d, e] => lawId [a, b, c] && (numB d 0 11 && numB e 0 199)
  | _ => false
theorem lawVx_eq (P : List (List Nat)) : lawVx P = (readVxP P).isSome := by
  match P with
  | [] => rfl
  | [_] => rfl
  | [_, _] => rfl
  | [_, _, _] => rfl
  | [_, _, _, _] => rfl
  | _ :: _ :: _ :: _ :: _ :: _ :: _ => rfl
  | [a, b, c, d, e] =>
    show (lawId [a, b, c] && (numB d 0 11 && numB e 0 199)) = (vxOf (readNmP [a, b, c]) (readNum d 11) (readNum e 199)).isSome
    rw [lawId_eq]
    have e1 : (vxOf (readNmP [a, b, c]) (readNum d 11) (readNum e 199)).isSome = vxB (readNmP [a, b, c]) (readNum d 11) (readNum e 199) := by
      unfold vxOf
      cases h : vxB (readNmP [a, b, c]) (readNum d 11) (readNum e 199) with
      | true => rfl
      | false => rfl
    rw [e1]
    unfold vxB numB
    cases hn : readNmP [a, b, c] with
    | none => rfl
    | some n =>
      show _ = (okNm n && _)
      rw [nm_ok.mpr (readNmP_back hn).1]
      rfl
end K20
namespace K20
open PySem PySem.Spec PyProof.Rows L2 TL TR QR
open GxR (TabB TabG Tabbed)
abbrev sGN : Stmt := topS 60
abbrev nGN : List Str := ["text", "least", "most", "char", "value"]
theorem scGN : FnScope nGN ["text", "least", "most"] (defScope sGN) := ⟨rfl, rfl, rfl, by decide +kernel, rfl, by decide +kernel, by decide +kernel⟩
abbrev sGL : Stmt := topS 61
abbrev nGL : List Str := ["text", "marks", "k", "char"]
theorem scGL : FnScope nGL ["text"] (defScope sGL) := ⟨rfl, rfl, rfl, by decide +kernel, rfl, by decide +kernel, by decide +kernel⟩
theorem lc_flt {x : Str} (p : Nat → Bool) {g : L2.TG} {tt : TT} {te : TE} {vs : List Nat} {σ : L2.St} {H : Hp} {D : Addr} {Qd : Hp → Prop} (nD : H D = none) (hx : x.length ≤ 100000)
    (hs : ∀ c H' (Z : V → Hp → Prop) (N : Hp → Prop), (p c = true → Z (.str ⟨#[c]⟩) H') → (p c = false → N H') → g (.str ⟨#[c]⟩) (wipe σ vs) H' fun σ2 H2 => wipe σ2 vs = wipe σ vs ∧ tt σ2 H2 fun b H3 => if b = true then te σ2 H3 Z else N H3)
    (hd : ∀ H', Same H H' → H' D = some (.lst (((tl x).filter p).map fun c => V.str ⟨#[c]⟩)) → Qd H') :
    ∃ W : Nat → Nat → Hp → Prop, (∃ m, W 0 m (upd H D (.lst []))) ∧ ∀ i m H, W i m H →
      ((Its x).stop i H ∧ Qd H) ∨ ((Its x).go i H ∧ ∃ Nx : Hp → Prop, (∀ H', Nx H' → ∃ m', m' < m ∧ W (i + 1) m' H') ∧ ∀ v H', (Its x).yld i H v H' → g v (wipe σ vs) H' fun σ2 H2 => wipe σ2 vs = wipe σ vs ∧ tt σ2 H2 fun b H3 =>
        if b = true then te σ2 H3 fun y H4 => ∃ acc, H4 D = some (.lst acc) ∧ acc.length < sizeLine ∧ Nx (upd H4 D (.lst (acc ++ [y]))) else Nx H3) := by
  have zl := zl
  have lx := len_tl x
  refine lc_it (walk_str (z := x)) (fun i H' => Same H H' ∧ H' D = some (.lst ((((tl x).take i).filter p).map fun c => V.str ⟨#[c]⟩))) ⟨same_new nD, upd_same⟩ (fun _ _ _ _ => trivial) ?_ ?_
  · rintro i v H3 H4 hi ⟨s3, eD⟩ ⟨rfl, c, hc, rfl⟩
    have hc' : (tl x)[i]? = some c := by rw [Array.getElem?_toList]; exact hc
    have li := (List.getElem?_eq_some_iff.mp hc').1
    have et : (tl x).take (i + 1) = (tl x).take i ++ [c] := by rw [List.take_add_one, hc']; rfl
    refine hs c _ _ _ (fun h => ⟨_, eD, ?_, same_upd nD s3, ?_⟩) (fun h => ⟨s3, ?_⟩)
    · have := List.length_filter_le p ((tl x).take i)
      rw [List.length_map]
      rw [List.length_take] at this
      omega
    · rw [upd_same, et, List.filter_append, List.map_append, List.filter_cons, if_pos h]
      rfl
    · rw [eD, et, List.filter_append, List.filter_cons, if_neg (by rw [h]; decide), List.filter_nil, List.append_nil]
  · rintro H3 ⟨s3, eD⟩
    rw [List.take_of_length_le (by exact Nat.le_refl _)] at eD
    exact hd H3 s3 eD
theorem flt_len {l : List Nat} {p : Nat → Bool} {f : Nat → V} : decide ((0 : Int) < ((((l.filter p).map f).length : Nat) : Int)) = !(l.all fun c => !p c) := by
  rw [List.length_map]
  cases h : l.all fun c => !p c with
  | true =>
    have : l.filter p = [] := List.filter_eq_nil_iff.mpr fun c hc => by
      have := List.all_eq_true.mp h c hc
      simpa using this
    rw [this]
    rfl
  | false =>
    obtain ⟨c, hc, hp⟩ := List.all_eq_false.mp h
    have : c ∈ l.filter p := List.mem_filter.mpr ⟨hc, by simpa using hp⟩
    have := List.length_pos_of_mem this
    exact decide_eq_true (by omega)
theorem ni_if {c : Nat} {z : Str} {A B : Prop} (h1 : decide (c ∉ tl z) = true → A) (h0 : decide (c ∉ tl z) = false → B) : if (!(!(Builtin.Str.occurrences z ⟨#[c]⟩ 0 z.length 1).isEmpty)) = true then A else B := by
  rw [StrLaws.found_one, ← decide_not]
  exact ite2 h1 (fun h => h0 (Bool.eq_false_iff.mpr h))
theorem chr_is {c k : Nat} {z : Str} (hz : tl z = [k]) : V.str ⟨#[c]⟩ = V.str z ↔ c = k := by
  constructor
  · intro e
    have e2 : (⟨#[c]⟩ : Str) = z := V.str.inj e
    have e3 : [c] = tl z := congrArg tl e2
    rw [hz] at e3
    exact (List.cons.inj e3).1
  · intro e
    exact congrArg V.str (ext_tl (show [c] = tl z by rw [hz, e]))
section
variable {P : Program} {w : World} {K : PySem.W.Frag} {mg : Str → Option Value} {base : Heap}
def spGN : Sp := fun vs H Q _ => ∃ (x : Str) (l m : Nat), vs = [.str x, .int (l : Int), .int (m : Int)] ∧ x.length ≤ 100000 ∧ m ≤ 99999 ∧ ∀ H', Same H H' → Q (.bl (numB (tl x) l m)) H'
theorem dig_all (t : List Nat) : (t.all fun c => !decide (c ∉ tl digitsS)) = decide (NumText.AllDigits t) := by
  rw [Bool.eq_iff_iff, List.all_eq_true, decide_eq_true_eq]
  refine forall_congr' fun c => imp_congr_right fun _ => ?_
  rw [Bool.not_eq_true', decide_eq_false_iff_not, Classical.not_not]
  exact digit_mem c
theorem dig_index {c : Nat} (h : 48 ≤ c ∧ c ≤ 57) : ∃ r, Builtin.Str.occurrences digitsS ⟨#[c]⟩ 0 digitsS.length 1 = (c - 48) :: r := by
  have : ∀ k, k < 10 → Builtin.Str.occurrences digitsS ⟨#[48 + k]⟩ 0 digitsS.length 1 = [k] := by decide +kernel
  refine ⟨[], ?_⟩
  have e := this (c - 48) (by omega)
  rw [show 48 + (c - 48) = c by omega] at e
  exact e
theorem ok_GN {f : Addr} {fd : FuncData} (F : Fun K "_law_is_number" "_law_is_number" sGN f fd) (m_len : mg "len" = none) : FnOk P w K mg base CX0 1 f fd ["text", "least", "most"] spGN := by
  refine F.ok scGN (fun vs H Q E h => ?_) (fun cdv A outer s H vs Q E hr h => ?_)
  · obtain ⟨x, l, m, rfl, _⟩ := h
    rfl
  · obtain ⟨x, l, m, rfl, hx, hm, q⟩ := h
    have hu := hr.units
    have hu1 := hu_of hr
    have zl := zl
    refine ⟨_, (pss_cons (ps_if (PW.pt (pw_or (pt_cmpR op_eq (pe_callB call_len_str (by rfl) m_len PySem.boot_len (pa_cons (pv 0) pa_nil)) (pe_int) (nomark _)) (pw_or (pt_cmpR op_gt (pe_callB call_len_str (by rfl) m_len PySem.boot_len (pa_cons (pv 0) pa_nil)) (pe_int) (nomark _)) (pw_or1 (pt_cmpR op_gt (pe_callB call_len_seq (by rfl) m_len PySem.boot_len (pa_cons (pe_lc (own := [("char", 3)]) (g := gName 3) (tt := tTest (tOp (fun x y H Q => ∃ i j, x = .str i ∧ y = .str j ∧ Q (.bl (!(!(Builtin.Str.occurrences j i 0 j.length 1).isEmpty))) H) (tVar 3) (tC (.str "0123456789")))) (te := tVar 3) rfl scGN.nd (pi_str (pv 0)) (blkOk_by (N := nGN) (sc := defScope sGN) (by decide +kernel)) (fun _ _ _ _ _ => by exact pg_name (i := 3) scGN.nd rfl (.inl rfl)) (fun _ _ _ _ _ => by exact pts_one (pt_cmpR op_notIn_str (pv 3) (pe_str) (by rfl))) (fun _ _ _ _ _ => by exact pv 3)) pa_nil)) (pe_int) (nomark _))))))
      (pss_one (ps_ret (pe_bl))) pss_nil)
      (pss_cons (ps_set (i := 4) scGN.nd rfl (.inl rfl) (pe_int))
      (pss_cons (ps_for PassesOwn.never rfl (pi_str (pv 0)) (pg_name (i := 3) scGN.nd rfl (.inl rfl))
      (pss_one (ps_set (i := 4) scGN.nd rfl (.inl rfl) (pe_op op_add (pe_op op_mul (pv 4) (pe_int)) (pe_m1 PySem.F.slot_str_index PySem.F.type_str_index mt_sindex (pe_str) (pv 3))))))
      (pss_one (ps_ret (pe_and (pe_chain op_le op_le (pv 1) (pv 4) (pv 2)) (pe_one (pe_or (pe_cmpR op_ne (pe_ix ix_str (pv 0) (pe_int) (fun _ _ => rfl)) (pe_str) (nomark _)) (pe_one (pe_cmpR op_eq (pe_callB call_len_str (by rfl) m_len PySem.boot_len (pa_cons (pv 0) pa_nil)) (pe_int) (nomark _))))))))))), ?_⟩
    have zl := zl
    have lx := len_tl x
    have hnum := numB_eq (t := tl x) (l := l) hm
    rw [hnum] at q
    have no : ∀ H', Same H H' → ¬ ((tl x).length ≠ 0 ∧ (tl x).length ≤ 5 ∧ NumText.AllDigits (tl x)) → Q (.bl false) H' := fun H' s1 z => by
      have := q H' s1
      rw [decide_eq_false (fun y => z ⟨y.1, y.2.1, y.2.2.1⟩)] at this
      exact this
    dsimp only [tNext, tSeq, tIfS, tAsg, gName, tC]
    refine or_dec (p := (tl x).length = 0) (q := 5 < (tl x).length ∨ ¬ NumText.AllDigits (tl x)) (fun R k => ⟨_, rfl, x, rfl, by omega, rfl, _, rfl, to_dec ?_ (k _ same_refl)⟩)
      (fun _ H1 s1 R k => or_dec (p := 5 < (tl x).length) (q := ¬ NumText.AllDigits (tl x)) (fun R k => ⟨_, rfl, x, rfl, by omega, _, _, rfl, rfl, _, rfl, to_dec ?_ (k _ same_refl)⟩)
        (fun _ H2 s2 R k => ⟨_, rfl, x, rfl, fun D nD => lc_flt (fun c => decide (c ∉ tl digitsS)) nD hx (fun c H' Z N hy hn => ⟨rfl, _, rfl, _, _, rfl, rfl, _, rfl, ni_if (fun h => ⟨_, rfl, hy h⟩) hn⟩)
          fun H3 s3 eD => ⟨D, _, rfl, .inl (SqL.of eD), _, _, rfl, rfl, _, rfl, to_dec ?_ (k _ s3)⟩⟩) k) fun H1 s1 => ite2 (fun h => ?_) (fun h => ?_)
    · exact (dec_nat (i := x.length) (j := 0)).trans (decide_eq_decide.mpr (by omega))
    · exact decide_eq_decide.mpr (by omega)
    · rw [flt_len, dig_all, ← decide_not]
    · have h := of_decide_eq_true h
      exact no H1 s1 (by
        rintro ⟨a, b, c⟩
        rcases h with h | h | h
        · exact a h
        · omega
        · exact h c)
    · have h : ¬ ((tl x).length = 0 ∨ 5 < (tl x).length ∨ ¬ NumText.AllDigits (tl x)) := fun z => h (decide_eq_true z)
      have h0 : (tl x).length ≠ 0 := fun z => h (.inl z)
      have h5 : (tl x).length ≤ 5 := Decidable.byContradiction fun z => h (.inr (.inl (by omega)))
      have hd : NumText.AllDigits (tl x) := Decidable.byContradiction fun z => h (.inr (.inr z))
      refine ⟨_, rfl, x, rfl, for_it (walk_str (z := x)) (fun i σ H' => ∃ y : Option V, σ = [some (.str x), some (.int (l : Int)), some (.int (m : Int)), y, some (.int ((NumText.digitsVal ((tl x).take i) : Nat) : Int))] ∧ H' = H1 ∧ NumText.digitsVal ((tl x).take i) < 10 ^ i) ⟨_, rfl, rfl, (by show NumText.digitsVal [] < 1; decide)⟩ (fun _ _ _ _ _ => trivial) ?_ ?_⟩
      · rintro i v σ H2 H3 hi ⟨y, rfl, rfl, lt⟩ ⟨rfl, c, hc, rfl⟩
        have hc' : (tl x)[i]? = some c := by rw [Array.getElem?_toList]; exact hc
        have hcd := hd c (List.mem_of_getElem? hc')
        have li := (List.getElem?_eq_some_iff.mp hc').1
        obtain ⟨r, er⟩ := dig_index hcd
        have et : (tl x).take (i + 1) = (tl x).take i ++ [c] := by rw [List.take_add_one, hc']; rfl
        have p5 : 10 ^ i ≤ 10 ^ 5 := Nat.pow_le_pow_right (by decide) (by omega)
        have ps : 10 ^ (i + 1) = 10 ^ i * 10 := Nat.pow_succ _ _
        refine ⟨_, rfl, _, _, rfl, rfl, .inr ⟨by decide, by decide⟩, ⟨_, rfl⟩, _, rfl, _, _, _, r, rfl, rfl, er, _, _, rfl, rfl, some (.str ⟨#[c]⟩), ?_, rfl, ?_⟩
        · rw [et, val_snoc]
          have e : (((NumText.digitsVal ((tl x).take i) * 10 + (c - 48) : Nat)) : Int) = ((NumText.digitsVal ((tl x).take i) : Nat) : Int) * 10 + ((c - 48 : Nat) : Int) := by omega
          rw [e]
          rfl
        · rw [et, val_snoc]
          omega
      · rintro σ H2 ⟨y, rfl, rfl, lt⟩
        rw [List.take_of_length_le (by exact Nat.le_refl _)] at lt ⊢
        have fin : ∀ b : Bool, b = decide ((l ≤ NumText.digitsVal (tl x) ∧ NumText.digitsVal (tl x) ≤ m) ∧ ((tl x).head? ≠ some 48 ∨ (tl x).length = 1)) → Q (.bl b) H2 := fun b e => by
          have := q H2 s1
          rw [show decide ((tl x).length ≠ 0 ∧ (tl x).length ≤ 5 ∧ NumText.AllDigits (tl x) ∧ (l ≤ NumText.digitsVal (tl x) ∧ NumText.digitsVal (tl x) ≤ m) ∧ ((tl x).head? ≠ some 48 ∨ (tl x).length = 1)) = b from by
            rw [e]
            exact decide_eq_decide.mpr ⟨fun z => z.2.2.2, fun z => ⟨h0, h5, hd, z⟩⟩] at this
          exact this
        obtain ⟨c, hc⟩ : ∃ c, (tl x)[0]? = some c := ⟨_, List.getElem?_eq_getElem (by omega)⟩
        have hh : (tl x).head? = some c := by rw [List.head?_eq_getElem?, hc]
        refine ⟨_, rfl, _, rfl, _, _, rfl, rfl, _, rfl, ite2 (fun h1 => ⟨_, rfl, _, _, rfl, rfl, _, rfl, ite2 (fun h2 => ?_) (fun h2 => ?_)⟩) (fun h1 => ⟨_, rfl, ite2 (fun z => absurd z (by decide)) (fun _ => ?_)⟩)⟩
        · have h1 := of_decide_eq_true h1
          have h2 := of_decide_eq_true h2
          refine ⟨_, rfl, x, 0, c, rfl, rfl, by omega, atI_nat (j := 0) hc, rfl, _, rfl, ite2 (fun h3 => ?_) (fun h3 => ?_)⟩
          · have h4 : c ≠ 48 := fun z => by
              rw [decide_eq_true ((chr_is (z := Str.ofString "0") (by decide +kernel)).mpr z)] at h3
              cases h3
            exact fin true (decide_eq_true ⟨⟨by omega, by omega⟩, .inl (by rw [hh]; exact fun z => h4 (Option.some.inj z))⟩).symm
          · have h4 : c = 48 := Decidable.byContradiction fun z => h3 (by
              rw [decide_eq_false (fun y => z ((chr_is (z := Str.ofString "0") (by decide +kernel)).mp y))]
              rfl)
            refine ⟨_, rfl, x, rfl, by omega, rfl, fin _ ?_⟩
            refine (dec_nat (i := x.length) (j := 1)).trans (decide_eq_decide.mpr ⟨fun z => ⟨⟨by omega, by omega⟩, .inr (by omega)⟩, fun z => ?_⟩)
            rcases z.2 with y | y
            · rw [hh, h4] at y
              exact absurd rfl y
            · omega
        · refine fin _ (decide_eq_false fun z => h2 (decide_eq_true ?_)).symm
          have := z.1.2
          omega
        · refine fin _ (decide_eq_false fun z => h1 (decide_eq_true ?_)).symm
          have := z.1.1
          omega
end
end K20
namespace K20
open PySem PySem.Spec PyProof.Rows L2 TL TR QR
open GxR (TabB TabG Tabbed)
theorem dig7 (c : Nat) : decide (c ∉ tl (Str.ofString "01234567")) = decide (digB 55 c = false) := by
  refine decide_eq_decide.mpr ?_
  have e : tl (Str.ofString "01234567") = [48, 49, 50, 51, 52, 53, 54, 55] := by decide +kernel
  rw [e]
  unfold digB
  simp only [List.mem_cons, List.not_mem_nil, or_false, decide_eq_false_iff_not]
  omega
theorem dig5 (c : Nat) : (!decide (c ∉ tl (Str.ofString "012345"))) = digB 53 c := by
  have e : tl (Str.ofString "012345") = [48, 49, 50, 51, 52, 53] := by decide +kernel
  unfold digB
  rw [e, ← decide_not]
  refine decide_eq_decide.mpr ?_
  simp only [List.mem_cons, List.not_mem_nil, or_false]
  omega
theorem ni_val {c : Nat} {z : Str} : (!(!(Builtin.Str.occurrences z ⟨#[c]⟩ 0 z.length 1).isEmpty)) = decide (c ∉ tl z) := by
  rw [StrLaws.found_one, ← decide_not]
theorem lt_one (a b : Nat) : decide ((#[a] : Array Nat).toList < (#[b] : Array Nat).toList) = decide (a < b) := by
  refine decide_eq_decide.mpr ?_
  show [a] < [b] ↔ a < b
  constructor
  · intro h
    cases h with
    | rel h => exact h
    | cons h => cases h
  · intro h
    exact .rel h
section
variable {P : Program} {w : World} {K : PySem.W.Frag} {mg : Str → Option Value} {base : Heap}
def spGL : Sp := fun vs H Q _ => ∃ (x : Str), vs = [.str x] ∧ x.length ≤ 100000 ∧ ∀ H', Same H H' → Q (.bl (lawLab (tl x))) H'
theorem ok_GL {f : Addr} {fd : FuncData} (F : Fun K "_law_is_label" "_law_is_label" sGL f fd) (m_len : mg "len" = none) (m_range : mg "range" = none) : FnOk P w K mg base CX0 1 f fd ["text"] spGL := by
  refine F.ok scGL (fun vs H Q E h => ?_) (fun cdv A outer s H vs Q E hr h => ?_)
  · obtain ⟨x, rfl, _⟩ := h
    rfl
  · obtain ⟨x, rfl, hx, q⟩ := h
    have hu := hr.units
    have hu1 := hu_of hr
    have zl := zl
    refine ⟨_, (pss_cons (ps_if (PW.pt (pw_or (pt_cmpR op_eq (pe_callB call_len_str (by rfl) m_len PySem.boot_len (pa_cons (pv 0) pa_nil)) (pe_int) (nomark _)) (pw_or1 (pt_cmpR op_notIn_str (pe_ix ix_str (pv 0) (pe_int) (fun _ _ => rfl)) (pe_str) (by rfl)))))
      (pss_one (ps_ret (pe_bl))) pss_nil)
      (pss_cons (ps_if (pt_cmpR op_eq (pe_callB call_len_str (by rfl) m_len PySem.boot_len (pa_cons (pv 0) pa_nil)) (pe_int) (nomark _))
      (pss_one (ps_ret (pe_bl))) pss_nil)
      (pss_cons (ps_set (i := 1) scGL.nd rfl (.inr rfl) (pe_slice sl_str (pv 0) (po_some (pe_int)) (po_none)))
      (pss_cons (ps_if (PW.pt (pw_or (pt_cmpR op_ne (pe_ix ix_str (pv 0) (pe_int) (fun _ _ => rfl)) (pe_str) (nomark _)) (pw_or (pt_cmpR op_eq (pe_callB call_len_str (by rfl) m_len PySem.boot_len (pa_cons (pv 1) pa_nil)) (pe_int) (nomark _)) (pw_or1 (pt_cmpR op_gt (pe_callB call_len_seq (by rfl) m_len PySem.boot_len (pa_cons (pe_lc (own := [("char", 3)]) (g := gName 3) (tt := tTest (tOp (fun x y H Q => ∃ i j, x = .str i ∧ y = .str j ∧ Q (.bl (!(!(Builtin.Str.occurrences j i 0 j.length 1).isEmpty))) H) (tVar 3) (tC (.str "012345")))) (te := tVar 3) rfl scGL.nd (pi_str (pv 1)) (blkOk_by (N := nGL) (sc := defScope sGL) (by decide +kernel)) (fun _ _ _ _ _ => by exact pg_name (i := 3) scGL.nd rfl (.inl rfl)) (fun _ _ _ _ _ => by exact pts_one (pt_cmpR op_notIn_str (pv 3) (pe_str) (by rfl))) (fun _ _ _ _ _ => by exact pv 3)) pa_nil)) (pe_int) (nomark _))))))
      (pss_one (ps_ret (pe_bl))) pss_nil)
      (pss_one (ps_ret (pe_cmpR op_eq (pe_callB call_len_seq (by rfl) m_len PySem.boot_len (pa_cons (pe_lc (own := [("k", 2)]) (g := gName 2) (tt := tTest (tOp (fun x y H Q => ∃ i j, x = .str i ∧ y = .str j ∧ Q (.bl (!decide (i.cps.toList < j.cps.toList))) H) (tOp (rIxS) (tVar 1) (tOp (rI0 fun i j => .int (i - j)) (tVar 2) (tC (.int 1)))) (tOp (rIxS) (tVar 1) (tVar 2)))) (te := tVar 2) rfl scGL.nd (pi_range2 (by rfl) m_range (pa_cons (pe_int) (pa_cons (pe_callB call_len_str (by rfl) m_len PySem.boot_len (pa_cons (pv 1) pa_nil)) pa_nil))) (blkOk_by (N := nGL) (sc := defScope sGL) (by decide +kernel)) (fun _ _ _ _ _ => by exact pg_name (i := 2) scGL.nd rfl (.inl rfl)) (fun _ _ _ _ _ => by exact pts_one (pt_cmpR op_ge_str (pe_ix ix_str (pv 1) (pe_op op_sub (pv 2) (pe_int)) (fun _ _ => rfl)) (pe_ix ix_str (pv 1) (pv 2) (fun _ _ => rfl)) (nomark _))) (fun _ _ _ _ _ => by exact pv 2)) pa_nil)) (pe_int) (nomark _)))))))), ?_⟩
    have zl := zl
    have lx := len_tl x
    dsimp only [tNext, tSeq, tIfS, tAsg, gName, tC]
    cases ht : tl x with
    | nil =>
      rw [ht] at q lx
      have l0 : x.length = 0 := lx
      exact or_dec (p := True) (q := False) (fun R k => ⟨_, rfl, x, rfl, by omega, rfl, _, rfl, to_dec (by rw [l0]; rfl) (k _ same_refl)⟩) (fun z => absurd trivial z) fun H2 s2 => ite2 (fun _ => q H2 s2) (fun h => absurd (decide_eq_true (.inl trivial)) h)
    | cons c r =>
      rw [ht] at q lx
      have ll : x.length = r.length + 1 := lx
      refine or_dec (p := False) (q := digB 55 c = false) (fun R k => ⟨_, rfl, x, rfl, by omega, rfl, _, rfl, to_dec ((dec_nat (i := x.length) (j := 0)).trans (decide_eq_decide.mpr ⟨fun z => by omega, False.elim⟩)) (k _ same_refl)⟩)
        (fun _ H1 s1 R k => ⟨_, rfl, x, 0, c, rfl, rfl, by omega, atI_nat (j := 0) (by show (tl x)[0]? = _; rw [ht]; rfl), _, _, rfl, rfl, _, rfl, to_dec (ni_val.trans (dig7 c)) (k _ same_refl)⟩) fun H1 s1 => ite2 (fun h => ?_) (fun h => ?_)
      · have h := of_decide_eq_true h
        have h : digB 55 c = false := h.resolve_left id
        have := q H1 s1
        have e : lawLab (c :: r) = false := by
          cases r with
          | nil => exact h
          | cons d ms =>
            show (digB 55 c && _) = false
            rw [h, Bool.false_and]
        rw [e] at this
        exact this
      · have h : digB 55 c = true := by
          cases hb : digB 55 c with
          | true => rfl
          | false => exact absurd (decide_eq_true (.inr hb)) h
        refine ⟨_, rfl, x, rfl, by omega, rfl, _, rfl, ite2 (fun h1 => ?_) (fun h1 => ?_)⟩
        · have h1 : x.length = 1 := of_decide_eq_true ((dec_nat (i := x.length) (j := 1)).symm.trans h1)
          have er : r = [] := List.eq_nil_of_length_eq_zero (by omega)
          have := q H1 s1
          rw [er] at this
          have e : lawLab [c] = true := h
          rw [e] at this
          exact this
        have h1 : x.length ≠ 1 := fun z => h1 ((dec_nat (i := x.length) (j := 1)).trans (decide_eq_true z))
        cases r with
        | nil => exact absurd ll h1
        | cons d ms =>
          have em : cutS x (some 2) none = Sg ms := by
            have := cutS_from x 2
            rw [ht] at this
            exact this
          have law : lawLab (c :: d :: ms) = (decide (d = 58) && (!ms.isEmpty && (ms.all (digB 53) && ascN ms))) := by
            show (digB 55 c && _) = _
            rw [h, Bool.true_and]
          rw [law] at q
          have lms : ms.length ≤ 100000 := by
            rw [List.length_cons] at ll
            omega
          refine ⟨_, rfl, 2, rfl, x, rfl, by omega, ?_⟩
          rw [em]
          have lS : (Sg ms).length = ms.length := rfl
          refine or_dec (p := d ≠ 58) (q := ms.length = 0 ∨ ms.all (digB 53) = false) (fun R k => ⟨_, rfl, x, 1, d, rfl, rfl, by omega, atI_nat (j := 1) (by show (tl x)[1]? = _; rw [ht]; rfl), rfl, _, rfl, to_dec ?_ (k _ same_refl)⟩)
            (fun _ H2 s2 R k => or_dec (p := ms.length = 0) (q := ms.all (digB 53) = false) (fun R k => ⟨_, rfl, Sg ms, rfl, by omega, rfl, _, rfl, to_dec ?_ (k _ same_refl)⟩)
              (fun _ H3 s3 R k => ⟨_, rfl, Sg ms, rfl, fun D nD => lc_flt (fun c => decide (c ∉ tl (Str.ofString "012345"))) nD lms (fun c H' Z N hy hn => ⟨rfl, _, rfl, _, _, rfl, rfl, _, rfl, ni_if (fun h => ⟨_, rfl, hy h⟩) hn⟩)
                fun H4 s4 eD => ⟨D, _, rfl, .inl (SqL.of eD), _, _, rfl, rfl, _, rfl, to_dec ?_ (k _ s4)⟩⟩) k) fun H2 s2 => ite2 (fun h2 => ?_) (fun h2 => ?_)
          · rw [← decide_not]
            exact decide_eq_decide.mpr (not_congr (chr_is (by decide +kernel)))
          · exact dec_nat (i := ms.length) (j := 0)
          · rw [flt_len]
            have : (ms.all fun c => !decide (c ∉ tl (Str.ofString "012345"))) = ms.all (digB 53) := List.all_congr rfl dig5
            show (!(ms.all fun c => !decide (c ∉ tl (Str.ofString "012345")))) = _
            rw [this]
            cases ms.all (digB 53) <;> rfl
          · have h2 := of_decide_eq_true h2
            have := q H2 (same_trans s1 s2)
            have e : (decide (d = 58) && (!ms.isEmpty && (ms.all (digB 53) && ascN ms))) = false := by
              rcases h2 with z | z | z
              · rw [decide_eq_false z, Bool.false_and]
              · rw [List.eq_nil_of_length_eq_zero z]
                simp
              · rw [z]
                simp
            rw [e] at this
            exact this
          have hd : d = 58 := Decidable.byContradiction fun z => h2 (decide_eq_true (.inl z))
          have h0 : ms.length ≠ 0 := fun z => h2 (decide_eq_true (.inr (.inl z)))
          have ha : ms.all (digB 53) = true := by
            cases hb : ms.all (digB 53) with
            | true => rfl
            | false => exact absurd (decide_eq_true (.inr (.inr hb))) h2
          have e : (decide (d = 58) && (!ms.isEmpty && (ms.all (digB 53) && ascN ms))) = ascN ms := by
            rw [decide_eq_true hd, ha]
            cases ms with
            | nil => exact absurd rfl h0
            | cons _ _ => rfl
          rw [e] at q
          have s02 := same_trans s1 s2
          refine ⟨_, rfl, Sg ms, rfl, by omega, 1, (ms.length : Int), rfl, ⟨by decide, by decide, by omega, by omega⟩, fun D nD => ?_⟩
          refine lc_range (lo := 1) (n := ((ms.length : Int) - 1).toNat) (fun k H' => Same H2 H' ∧ ∃ acc : List V, H' D = some (.lst acc) ∧ acc.length ≤ k ∧ (acc = [] ↔ ∀ j, j < k → ms.getD j 0 < ms.getD (j + 1) 0)) ⟨same_new nD, [], upd_same, Nat.le_refl _, ⟨fun _ j hj => absurd hj (Nat.not_lt_zero j), fun _ => rfl⟩⟩ ?_ ?_
          · rintro k H3 hk ⟨s3, acc, eD, la, ea⟩
            have g1 : ms[k]? = some (ms.getD k 0) := by
              rw [List.getD_eq_getElem?_getD, List.getElem?_eq_getElem (by omega)]
              rfl
            have g2 : ms[k + 1]? = some (ms.getD (k + 1) 0) := by
              rw [List.getD_eq_getElem?_getD, List.getElem?_eq_getElem (by omega)]
              rfl
            have i1 : atI ms ((1 : Int) + (k : Int) - 1) = some (ms.getD k 0) := by
              rw [show (1 : Int) + (k : Int) - 1 = (k : Int) by omega]
              exact atI_nat g1
            have i2 : atI ms ((1 : Int) + (k : Int)) = some (ms.getD (k + 1) 0) := by
              rw [show (1 : Int) + (k : Int) = (k : Int) + 1 by omega]
              exact atI_s g2
            refine ⟨rfl, _, rfl, _, rfl, _, _, rfl, rfl, Sg ms, _, _, rfl, rfl, by omega, i1, _, rfl, _, rfl, Sg ms, _, _, rfl, rfl, by omega, i2, _, _, rfl, rfl, _, rfl, ?_⟩
            rw [lt_one]
            refine ite2 (fun h => ⟨_, rfl, _, eD, by omega, same_upd nD s3, _, upd_same, by rw [List.length_append]; show acc.length + 1 ≤ _; omega, ?_⟩) (fun h => ⟨s3, acc, eD, by omega, ?_⟩)
            · have h : ¬ ms.getD k 0 < ms.getD (k + 1) 0 := fun z => by
                rw [decide_eq_true z] at h
                cases h
              exact ⟨fun z => absurd (List.append_eq_nil_iff.mp z).2 (by simp), fun z => absurd (z k (Nat.lt_succ_self k)) h⟩
            · have h : ms.getD k 0 < ms.getD (k + 1) 0 := Decidable.byContradiction fun z => h (by
                rw [decide_eq_false z]
                rfl)
              rw [ea]
              refine ⟨fun z j hj => ?_, fun z j hj => z j (by omega)⟩
              by_cases e : j = k
              · rw [e]
                exact h
              · exact z j (by omega)
          · rintro H3 ⟨s3, acc, eD, la, ea⟩
            refine ⟨D, _, rfl, .inl (SqL.of eD), rfl, ?_⟩
            have := q H3 (same_trans s02 s3)
            have e : decide (V.int ((acc.length : Nat) : Int) = V.int 0) = ascN ms := by
              refine (dec_nat (i := acc.length) (j := 0)).trans ?_
              unfold ascN
              rw [Bool.eq_iff_iff, decide_eq_true_eq, List.length_eq_zero_iff, ea, List.all_eq_true]
              constructor
              · intro z k hk
                have := List.mem_range.mp hk
                exact decide_eq_true (z k (by omega))
              · intro z k hk
                exact of_decide_eq_true (z k (List.mem_range.mpr (by omega)))
            rw [e]
            exact this
end
end K20
namespace K20
open PySem PySem.Spec PyProof.Rows L2 TL TR QR
open GxR (TabB TabG Tabbed)
abbrev sGP : Stmt := topS 62
abbrev nGP : List Str := ["text", "parts", "letters", "wrong", "part", "char"]
theorem scGP : FnScope nGP ["text"] (defScope sGP) := ⟨rfl, rfl, rfl, by decide +kernel, rfl, by decide +kernel, by decide +kernel⟩
def lcScope : Stmt → Scope
  | .Assign _ (.ListComp _ _ sc _) _ => sc
  | _ => defScope sGP
theorem let_all (l : List Nat) : (l.all fun c => !decide (c ∉ tl (Str.ofString "abcdefghijklmnopqrstuvwxyz0123456789"))) = l.all fun c => decide (c ∈ tl letS) := by
  refine List.all_congr rfl fun c => ?_
  rw [← decide_not, show tl (Str.ofString "abcdefghijklmnopqrstuvwxyz0123456789") = tl letS by decide +kernel]
  exact decide_eq_decide.mpr Classical.not_not
theorem word_of {l : List Nat} {z : Str} : wordB (Sg l) z 8 = decide (¬ (l.length = 0 ∨ 8 < l.length ∨ (l.all fun c => decide (c ∈ tl z)) = false)) := by
  unfold wordB
  have e : (Sg l).length = l.length := rfl
  rw [e]
  show (_ && (_ && l.all fun c => decide (c ∈ tl z))) = _
  cases h : l.all fun c => decide (c ∈ tl z) with
  | true =>
    rw [Bool.and_true, Bool.eq_iff_iff, Bool.and_eq_true, decide_eq_true_eq, decide_eq_true_eq, decide_eq_true_eq]
    constructor
    · rintro ⟨a, b⟩ (z | z | z)
      · omega
      · omega
      · cases z
    · intro z
      exact ⟨Decidable.byContradiction fun y => z (.inl (by omega)), Decidable.byContradiction fun y => z (.inr (.inl (by omega)))⟩
  | false =>
    rw [Bool.and_false, Bool.and_false, decide_eq_false (fun z => z (.inr (.inr rfl)))]
section
variable {P : Program} {w : World} {K : PySem.W.Frag} {mg : Str → Option Value} {base : Heap}
def spGP : Sp := fun vs H Q _ => ∃ (x : Str), vs = [.str x] ∧ x.length ≤ 90000 ∧ ∀ H', Same H H' → Q (.bl (lawPath (tl x))) H'
theorem ok_GP {f : Addr} {fd : FuncData} (F : Fun K "_law_is_path" "_law_is_path" sGP f fd) (m_len : mg "len" = none) : FnOk P w K mg base CX0 1 f fd ["text"] spGP := by
  refine F.ok scGP (fun vs H Q E h => ?_) (fun cdv A outer s H vs Q E hr h => ?_)
  · obtain ⟨x, rfl, _⟩ := h
    rfl
  · obtain ⟨x, rfl, hx, q⟩ := h
    have hu := hr.units
    have hu1 := hu_of hr
    have zl := zl
    refine ⟨_, (pss_cons (ps_set (i := 1) scGP.nd rfl (.inl rfl) (pe_split (pv 0) (pe_str)))
      (pss_cons (ps_set (i := 2) scGP.nd rfl (.inr rfl) (pe_str))
      (pss_cons (ps_setLc (i := 3) (own := [("part", 4)]) (g := gName 4) (tt := tOr (tTest (tOp rEq (tCB (fun xs H Q => ∃ z, xs = [.str z] ∧ z.length ≤ sizeLine ∧ Q (.int z.length) H) (tCons (tVar 4) tNil)) (tC (.int 0)))) (tOr (tTest (tOp (rI0 fun i j => .bl (decide (j < i))) (tCB (fun xs H Q => ∃ z, xs = [.str z] ∧ z.length ≤ sizeLine ∧ Q (.int z.length) H) (tCons (tVar 4) tNil)) (tC (.int 8)))) (tTest (tOp (rI0 fun i j => .bl (decide (j < i))) (tCB (fun xs H Q => ∃ p ys, xs = [.ref p] ∧ (SqL K H p ys ∨ SqT K H p ys) ∧ Q (.int ys.length) H) (tCons (tLc (iStr (tVar 4)) (gName 5) (tTest (tOp (fun x y H Q => ∃ i j, x = .str i ∧ y = .str j ∧ Q (.bl (!(!(Builtin.Str.occurrences j i 0 j.length 1).isEmpty))) H) (tVar 5) (tVar 2))) (tVar 5) [5]) tNil)) (tC (.int 0)))))) (te := tVar 4) rfl scGP.nd rfl rfl (sw_true rfl rfl rfl (by decide +kernel)) (pi_list (pv 1)) (blkOk_by (N := nGP) (sc := defScope sGP) (by decide +kernel)) (fun _ _ _ _ _ => by exact pg_name (i := 4) scGP.nd rfl (.inl rfl)) (fun _ _ _ _ _ => by exact pts_one (PW.pt (pw_or (pt_cmpR op_eq (pe_callB call_len_str (by rfl) m_len PySem.boot_len (pa_cons (pv 4) pa_nil)) (pe_int) (nomark _)) (pw_or (pt_cmpR op_gt (pe_callB call_len_str (by rfl) m_len PySem.boot_len (pa_cons (pv 4) pa_nil)) (pe_int) (nomark _)) (pw_or1 (pt_cmpR op_gt (pe_callB call_len_seq (by rfl) m_len PySem.boot_len (pa_cons (pe_lc (own := [("char", 5)]) (g := gName 5) (tt := tTest (tOp (fun x y H Q => ∃ i j, x = .str i ∧ y = .str j ∧ Q (.bl (!(!(Builtin.Str.occurrences j i 0 j.length 1).isEmpty))) H) (tVar 5) (tVar 2))) (te := tVar 5) rfl scGP.nd (pi_str (pv 4)) (blkOk_by (N := nGP) (sc := relS (lcScope ((defBody sGP).getD 2 (.Pass ⟨0, 0, 0, 0⟩))) (defScope sGP)) (by decide +kernel)) (fun _ _ _ _ _ => by exact pg_name (i := 5) scGP.nd rfl (.inl rfl)) (fun _ _ _ _ _ => by exact pts_one (pt_cmpR op_notIn_str (pv 5) (pv 2) (by rfl))) (fun _ _ _ _ _ => by exact pv 5)) pa_nil)) (pe_int) (nomark _))))))) (fun _ _ _ _ _ => by exact pv 4))
      (pss_one (ps_ret (pe_and (pe_cmpR op_le (pe_callB call_len_seq (by rfl) m_len PySem.boot_len (pa_cons (pv 1) pa_nil)) (pe_int) (nomark _)) (pe_one (pe_cmpR op_eq (pe_callB call_len_seq (by rfl) m_len PySem.boot_len (pa_cons (pv 3) pa_nil)) (pe_int) (nomark _))))))))), ?_⟩
    have zl := zl
    have lx := len_tl x
    dsimp only [tNext, tSeq, tIfS, tAsg, gName, tC]
    obtain ⟨l1, l2⟩ := cut_len 47 (tl x)
    have hne := cut_ne 47 (tl x)
    unfold lawPath okPath at q
    refine ⟨_, rfl, ⟨_, rfl⟩, x, _, rfl, rfl, by decide +kernel, by omega, fun p np => ?_⟩
    rw [slash_str, split_words]
    have s1 : Same H (upd H p (.lst (strV (cutAt 47 (tl x))))) := same_new np
    have ep : (upd H p (.lst (strV (cutAt 47 (tl x))))) p = some (.lst (strV (cutAt 47 (tl x)))) := upd_same
    generalize upd H p (.lst (strV (cutAt 47 (tl x)))) = H1 at s1 ep
    generalize cutAt 47 (tl x) = ws at q l1 l2 ep hne
    have lws : (strV ws).length = ws.length := List.length_map _
    have w0 : 1 ≤ ws.length := List.length_pos_iff.mpr hne
    refine ⟨_, rfl, p, rfl, ⟨_, SqL.of ep⟩, fun D nD => ?_⟩
    refine lc_list (xs := strV ws) (fun i H' => Same H1 H' ∧ ∃ acc : List V, H' D = some (.lst acc) ∧ acc.length ≤ i ∧ (acc = [] ↔ ∀ l ∈ ws.take i, wordB (Sg l) letS 8 = true)) ⟨same_new nD, [], upd_same, Nat.le_refl _, ⟨(fun _ l hl => nomatch hl), (fun _ => rfl)⟩⟩ ?_ ?_ ?_
    · rintro i H' _ ⟨s3, _⟩
      exact SqL.of (s3 _ _ ep)
    · rintro i y H3 hy ⟨s3, acc, eD, la, ea⟩
      obtain ⟨l, gl, rfl⟩ := map_get hy
      have li := (List.getElem?_eq_some_iff.mp gl).1
      have ll := l2 l (List.mem_of_getElem? gl)
      have lS : (Sg l).length = l.length := rfl
      have et : ws.take (i + 1) = ws.take i ++ [l] := by rw [List.take_add_one, gl]; rfl
      refine ⟨rfl, or_dec (p := l.length = 0) (q := 8 < l.length ∨ (l.all fun c => decide (c ∈ tl letS)) = false) (fun R k => ⟨_, rfl, Sg l, rfl, by omega, rfl, _, rfl, to_dec ?_ (k _ same_refl)⟩)
        (fun _ H4 s4 R k => or_dec (p := 8 < l.length) (q := (l.all fun c => decide (c ∈ tl letS)) = false) (fun R k => ⟨_, rfl, Sg l, rfl, by omega, _, _, rfl, rfl, _, rfl, to_dec ?_ (k _ same_refl)⟩)
          (fun _ H5 s5 R k => ⟨_, rfl, Sg l, rfl, fun D2 nD2 => lc_flt (fun c => decide (c ∉ tl (Str.ofString "abcdefghijklmnopqrstuvwxyz0123456789"))) nD2 (by omega) (fun c H' Z N hy hn => ⟨rfl, _, rfl, _, rfl, _, _, rfl, rfl, _, rfl, ni_if (fun h => ⟨_, rfl, hy h⟩) hn⟩)
            fun H6 s6 eD2 => ⟨D2, _, rfl, .inl (SqL.of eD2), _, _, rfl, rfl, _, rfl, to_dec ?_ (k _ s6)⟩⟩) k) fun H4 s4 => ite2 (fun h => ?_) (fun h => ?_)⟩
      · exact dec_nat (i := l.length) (j := 0)
      · exact decide_eq_decide.mpr (by omega)
      · rw [flt_len]
        have e : (l.all fun c => !decide (c ∉ tl (Str.ofString "abcdefghijklmnopqrstuvwxyz0123456789"))) = l.all fun c => decide (c ∈ tl letS) := let_all l
        show (!(l.all fun c => !decide (c ∉ tl (Str.ofString "abcdefghijklmnopqrstuvwxyz0123456789")))) = _
        rw [e]
        cases l.all fun c => decide (c ∈ tl letS) <;> rfl
      · have h := of_decide_eq_true h
        refine ⟨_, rfl, _, s4 _ _ eD, by omega, same_upd nD (same_trans s3 s4), _, upd_same, by rw [List.length_append]; show acc.length + 1 ≤ _; omega, ⟨fun z => absurd (List.append_eq_nil_iff.mp z).2 (by simp), fun z => ?_⟩⟩
        have := z l (by rw [et]; simp)
        rw [word_of] at this
        exact absurd h (of_decide_eq_true this)
      · have h : ¬ (l.length = 0 ∨ 8 < l.length ∨ (l.all fun c => decide (c ∈ tl letS)) = false) := fun z => h (decide_eq_true z)
        refine ⟨same_trans s3 s4, acc, s4 _ _ eD, by omega, ?_⟩
        rw [ea, et]
        refine ⟨fun z m hm => ?_, fun z m hm => z m (List.mem_append_left _ hm)⟩
        rcases List.mem_append.mp hm with y | y
        · exact z m y
        · rw [List.mem_singleton.mp y, word_of]
          exact decide_eq_true h
    · rintro H3 ⟨s3, acc, eD, la, ea⟩
      rw [lws, List.take_length] at ea
      have s03 := same_trans s1 s3
      have fin : ∀ b : Bool, b = (decide (ws.length ≤ 4) && decide (acc = [])) → Q (.bl b) H3 := fun b e => by
        have := q H3 s03
        rw [show (decide (1 ≤ ws.length ∧ ws.length ≤ 4) && ws.all fun l => wordB (Sg l) letS 8) = b by
          rw [e]
          congr 1
          · exact decide_eq_decide.mpr (by omega)
          · rw [Bool.eq_iff_iff, List.all_eq_true, decide_eq_true_eq, ea]] at this
        exact this
      refine ⟨_, rfl, p, _, rfl, .inl (SqL.of (s3 _ _ ep)), _, _, rfl, rfl, _, rfl, ite2 (fun h => ⟨_, rfl, D, _, rfl, .inl (SqL.of eD), rfl, fin _ ?_⟩) (fun h => fin _ ?_)⟩
      · have h := of_decide_eq_true h
        rw [decide_eq_true (show ws.length ≤ 4 by omega), Bool.true_and]
        refine (dec_nat (i := acc.length) (j := 0)).trans (decide_eq_decide.mpr List.length_eq_zero_iff)
      · have h : ¬ ws.length ≤ 4 := fun z => h (decide_eq_true (by omega))
        rw [decide_eq_false h, Bool.false_and]
end
end K20
namespace K20
open PySem PySem.Spec PyProof.Rows L2 TL TR QR
open GxR (TabB TabG Tabbed)
abbrev sHI : Stmt := topS 63
abbrev nHI : List Str := ["parts", "letters", "char"]
theorem scHI : FnScope nHI ["parts"] (defScope sHI) := ⟨rfl, rfl, rfl, by decide +kernel, rfl, by decide +kernel, by decide +kernel⟩
abbrev sGV : Stmt := topS 64
abbrev nGV : List Str := ["parts"]
theorem scGV : FnScope nGV ["parts"] (defScope sGV) := ⟨rfl, rfl, rfl, by decide +kernel, rfl, by decide +kernel, by decide +kernel⟩
theorem cutV_to (xs : List V) (k : Nat) : cutV xs none (some (k : Int)) = xs.take k := by
  unfold cutV
  have e1 : HT.sIx xs.length 0 none = 0 := by
    unfold HT.sIx
    simp
  have e2 : HT.sIx xs.length xs.length (some (k : Int)) = min k xs.length := by
    unfold HT.sIx
    simp
    omega
  rw [e1, e2, List.drop_zero, Nat.sub_zero]
  by_cases h : k ≤ xs.length
  · rw [Nat.min_eq_left h]
  · rw [Nat.min_eq_right (by omega), List.take_of_length_le (Nat.le_refl _), List.take_of_length_le (by omega)]
theorem lett_all (l : List Nat) : (l.all fun c => !decide (c ∉ tl (Str.ofString "abcdefghijklmnopqrstuvwxyz"))) = l.all fun c => decide (c ∈ tl (Str.ofString "abcdefghijklmnopqrstuvwxyz")) := by
  refine List.all_congr rfl fun c => ?_
  rw [← decide_not]
  exact decide_eq_decide.mpr Classical.not_not
section
variable {P : Program} {w : World} {K : PySem.W.Frag} {mg : Str → Option Value} {base : Heap}
def spHI : Sp := fun vs H Q _ => ∃ (p : Addr) (ws : Path), vs = [.ref p] ∧ H p = some (.lst (strV ws)) ∧ (∀ l ∈ ws, l.length ≤ 100000) ∧ ∀ H', Same H H' → Q (.bl (lawId ws)) H'
theorem ok_HI {f fGL fGN : Addr} {fd fdGL fdGN : FuncData} (F : Fun K "_law_is_id" "_law_is_id" sHI f fd)
    (GGL : FnOk P w K mg base CX0 1 fGL fdGL ["text"] spGL) (bGL : Binds K fdGL ["text"] []) (gGL : mg "_law_is_label" = some (.ref fGL)) (kGL : PySem.W.keepIn K (.ref fGL) = true)
    (GGN : FnOk P w K mg base CX0 1 fGN fdGN ["text", "least", "most"] spGN) (bGN : Binds K fdGN ["text", "least", "most"] []) (gGN : mg "_law_is_number" = some (.ref fGN)) (kGN : PySem.W.keepIn K (.ref fGN) = true)
    (m_len : mg "len" = none) : FnOk P w K mg base CX0 2 f fd ["parts"] spHI := by
  refine F.ok scHI (fun vs H Q E h => ?_) (fun cdv A outer s H vs Q E hr h => ?_)
  · obtain ⟨p, ws, rfl, _⟩ := h
    rfl
  · obtain ⟨p, ws, rfl, ep, hl, q⟩ := h
    have hu := hr.units
    have hu1 := hu_of hr
    have hr1 : Room 1 _ := hr.mono (by decide)
    have zl := zl
    refine ⟨_, (pss_cons (ps_set (i := 1) scHI.nd rfl (.inr rfl) (pe_str))
      (pss_cons (ps_if (PW.pt (pw_or (pt_cmpR op_ne (pe_callB call_len_seq (by rfl) m_len PySem.boot_len (pa_cons (pv 0) pa_nil)) (pe_int) (nomark _)) (pw_or (pt_not (pt_chain op_le op_le (pe_int) (pe_callB call_len_str (by rfl) m_len PySem.boot_len (pa_cons (pe_ix ix_list (pv 0) (pe_int) (fun _ _ => rfl)) pa_nil)) (pe_int))) (pw_or1 (pt_cmpR op_gt (pe_callB call_len_seq (by rfl) m_len PySem.boot_len (pa_cons (pe_lc (own := [("char", 2)]) (g := gName 2) (tt := tTest (tOp (fun x y H Q => ∃ i j, x = .str i ∧ y = .str j ∧ Q (.bl (!(!(Builtin.Str.occurrences j i 0 j.length 1).isEmpty))) H) (tVar 2) (tVar 1))) (te := tVar 2) rfl scHI.nd (pi_str (pe_ix ix_list (pv 0) (pe_int) (fun _ _ => rfl))) (blkOk_by (N := nHI) (sc := defScope sHI) (by decide +kernel)) (fun _ _ _ _ _ => by exact pg_name (i := 2) scHI.nd rfl (.inl rfl)) (fun _ _ _ _ _ => by exact pts_one (pt_cmpR op_notIn_str (pv 2) (pv 1) (by rfl))) (fun _ _ _ _ _ => by exact pv 2)) pa_nil)) (pe_int) (nomark _))))))
      (pss_one (ps_ret (pe_bl))) pss_nil)
      (pss_one (ps_ret (pe_and (pe_call GGL hr1 (by rfl) gGL kGL bGL .nil pass0 (pa_cons (pe_ix ix_list (pv 0) (pe_int) (fun _ _ => rfl)) pa_nil)) (pe_one (pe_call GGN hr1 (by rfl) gGN kGN bGN .nil pass0 (pa_cons (pe_ix ix_list (pv 0) (pe_int) (fun _ _ => rfl)) (pa_cons (pe_int) (pa_cons (pe_int) pa_nil)))))))))), ?_⟩
    have zl := zl
    dsimp only [tNext, tSeq, tIfS, tAsg, gName, tC]
    have lws : (strV ws).length = ws.length := List.length_map _
    by_cases h3 : ws.length = 3
    · obtain ⟨a, b, c, rfl⟩ : ∃ a b c, ws = [a, b, c] := by
        match ws, h3 with
        | [a, b, c], _ => exact ⟨a, b, c, rfl⟩
      have la := hl a (by simp)
      have lb := hl b (by simp)
      have lc := hl c (by simp)
      have lS : ∀ l : List Nat, (Sg l).length = l.length := fun l => rfl
      have hw : okWord b = decide (¬ (b.length = 0 ∨ 8 < b.length ∨ (b.all fun c => decide (c ∈ tl (Str.ofString "abcdefghijklmnopqrstuvwxyz"))) = false)) := word_of
      have law : lawId [a, b, c] = (okWord b && (lawLab a && numB c 1 99999)) := rfl
      rw [law] at q
      refine or_dec (p := False) (q := (b.length = 0 ∨ 8 < b.length) ∨ (b.all fun c => decide (c ∈ tl (Str.ofString "abcdefghijklmnopqrstuvwxyz"))) = false) (fun R k => ⟨_, rfl, p, _, rfl, .inl (SqL.of ep), rfl, _, rfl, to_dec (by rfl) (k _ same_refl)⟩)
        (fun _ H1 s1 R k => or_dec (p := b.length = 0 ∨ 8 < b.length) (q := (b.all fun c => decide (c ∈ tl (Str.ofString "abcdefghijklmnopqrstuvwxyz"))) = false)
          (fun R k => ⟨_, rfl, p, _, _, _, rfl, rfl, SqL.of (s1 _ _ ep), atI_nat (j := 1) rfl, Sg b, rfl, by rw [lS]; omega, _, _, rfl, rfl, _, rfl, ite2 (fun h1 => ⟨_, _, rfl, rfl, _, rfl, ?_⟩) (fun h1 => ⟨_, rfl, ?_⟩)⟩)
          (fun _ H2 s2 R k => ⟨_, rfl, p, _, _, _, rfl, rfl, SqL.of (s2 _ _ (s1 _ _ ep)), atI_nat (j := 1) rfl, Sg b, rfl, fun D nD => lc_flt (fun c => decide (c ∉ tl (Str.ofString "abcdefghijklmnopqrstuvwxyz"))) nD lb (fun c H' Z N hy hn => ⟨rfl, _, rfl, _, rfl, _, _, rfl, rfl, _, rfl, ni_if (fun h => ⟨_, rfl, hy h⟩) hn⟩)
            fun H4 s4 eD => ⟨D, _, rfl, .inl (SqL.of eD), _, _, rfl, rfl, _, rfl, to_dec ?_ (k _ s4)⟩⟩) k) fun H1 s1 => ite2 (fun h => ?_) (fun h => ?_)
      · have h1 := of_decide_eq_true h1
        refine to_dec ?_ (k _ same_refl)
        rw [← decide_not]
        exact decide_eq_decide.mpr (by have := lS b; omega)
      · have h1 : ¬ (1 : Int) ≤ ((Sg b).length : Int) := fun z => h1 (decide_eq_true z)
        refine to_dec ?_ (k _ same_refl)
        exact (decide_eq_true (by have := lS b; omega)).symm
      · rw [flt_len]
        show (!(b.all fun c => !decide (c ∉ tl (Str.ofString "abcdefghijklmnopqrstuvwxyz")))) = _
        rw [lett_all]
        cases b.all fun c => decide (c ∈ tl (Str.ofString "abcdefghijklmnopqrstuvwxyz")) <;> rfl
      · have h := of_decide_eq_true h
        have := q H1 s1
        rw [hw, decide_eq_false (fun z => z (by
          rcases h with h | (h | h) | h
          · exact absurd h id
          · exact .inl h
          · exact .inr (.inl h)
          · exact .inr (.inr h))), Bool.false_and] at this
        exact this
      · have hq : ¬ (b.length = 0 ∨ 8 < b.length ∨ (b.all fun c => decide (c ∈ tl (Str.ofString "abcdefghijklmnopqrstuvwxyz"))) = false) := fun z => h (decide_eq_true (by
          rcases z with z | z | z
          · exact .inr (.inl (.inl z))
          · exact .inr (.inl (.inr z))
          · exact .inr (.inr z)))
        rw [hw, decide_eq_true hq] at q
        refine ⟨_, rfl, p, _, _, _, rfl, rfl, SqL.of (s1 _ _ ep), atI_nat (j := 0) rfl, Sg a, rfl, by rw [lS]; omega, fun H2 s2 => ⟨_, rfl, ite2 (fun h2 => ?_) (fun h2 => ?_)⟩⟩
        · have h2 : lawLab a = true := h2
          refine ⟨_, rfl, p, _, _, _, rfl, rfl, SqL.of (s2 _ _ (s1 _ _ ep)), atI_nat (j := 2) rfl, Sg c, 1, 99999, rfl, by rw [lS]; omega, by decide, fun H3 s3 => ?_⟩
          have := q H3 (same_trans (same_trans s1 s2) s3)
          rw [h2, Bool.true_and, Bool.true_and] at this
          exact this
        · have h2 : lawLab a = false := Bool.eq_false_iff.mpr h2
          have := q H2 (same_trans s1 s2)
          rw [h2, Bool.false_and, Bool.and_false] at this
          exact this
    · have no : lawId ws = false := by
        unfold lawId
        split
        · exact absurd rfl h3
        · rfl
      rw [no] at q
      refine or_dec (p := True) (q := False) (fun R k => ⟨_, rfl, p, _, rfl, .inl (SqL.of ep), rfl, _, rfl, to_dec ?_ (k _ same_refl)⟩) (fun z => absurd trivial z) fun H2 s2 => ite2 (fun _ => q H2 s2) (fun h => absurd (decide_eq_true (.inl trivial)) h)
      have l : (strV ws).length = ws.length := List.length_map _
      rw [l]
      have := dec_nat (i := ws.length) (j := 3)
      rw [show decide (V.int ((ws.length : Nat) : Int) = V.int 3) = decide (ws.length = 3) from this, decide_eq_false h3]
      rfl
def spGV : Sp := fun vs H Q _ => ∃ (p : Addr) (ws : Path), vs = [.ref p] ∧ H p = some (.lst (strV ws)) ∧ (∀ l ∈ ws, l.length ≤ 100000) ∧ ∀ H', Same H H' → Q (.bl (lawVx ws)) H'
theorem ok_GV {f fHI fGN : Addr} {fd fdHI fdGN : FuncData} (F : Fun K "_law_is_vertex" "_law_is_vertex" sGV f fd)
    (GHI : FnOk P w K mg base CX0 2 fHI fdHI ["parts"] spHI) (bHI : Binds K fdHI ["parts"] []) (gHI : mg "_law_is_id" = some (.ref fHI)) (kHI : PySem.W.keepIn K (.ref fHI) = true)
    (GGN : FnOk P w K mg base CX0 1 fGN fdGN ["text", "least", "most"] spGN) (bGN : Binds K fdGN ["text", "least", "most"] []) (gGN : mg "_law_is_number" = some (.ref fGN)) (kGN : PySem.W.keepIn K (.ref fGN) = true)
    (m_len : mg "len" = none) : FnOk P w K mg base CX0 3 f fd ["parts"] spGV := by
  refine F.ok scGV (fun vs H Q E h => ?_) (fun cdv A outer s H vs Q E hr h => ?_)
  · obtain ⟨p, ws, rfl, _⟩ := h
    rfl
  · obtain ⟨p, ws, rfl, ep, hl, q⟩ := h
    have hu := hr.units
    have hu1 := hu_of hr
    have hr1 : Room 1 _ := hr.mono (by decide)
    have hr2 : Room 2 _ := hr.mono (by decide)
    have zl := zl
    refine ⟨_, (pss_one (ps_ret (pe_and (pe_cmpR op_eq (pe_callB call_len_seq (by rfl) m_len PySem.boot_len (pa_cons (pv 0) pa_nil)) (pe_int) (nomark _)) (pe_and (pe_call GHI hr2 (by rfl) gHI kHI bHI .nil pass0 (pa_cons (pe_slice sl_list (pv 0) (po_none) (po_some (pe_int))) pa_nil)) (pe_and (pe_call GGN hr1 (by rfl) gGN kGN bGN .nil pass0 (pa_cons (pe_ix ix_list (pv 0) (pe_int) (fun _ _ => rfl)) (pa_cons (pe_int) (pa_cons (pe_int) pa_nil)))) (pe_one (pe_call GGN hr1 (by rfl) gGN kGN bGN .nil pass0 (pa_cons (pe_ix ix_list (pv 0) (pe_int) (fun _ _ => rfl)) (pa_cons (pe_int) (pa_cons (pe_int) pa_nil)))))))))), ?_⟩
    have zl := zl
    have lws : (strV ws).length = ws.length := List.length_map _
    have lS : ∀ l : List Nat, (Sg l).length = l.length := fun l => rfl
    have d5 : decide (V.int (((strV ws).length : Nat) : Int) = V.int 5) = decide (ws.length = 5) := by
      rw [lws]
      exact dec_nat (i := ws.length) (j := 5)
    by_cases h5 : ws.length = 5
    · obtain ⟨a, b, c, d, e, rfl⟩ : ∃ a b c d e, ws = [a, b, c, d, e] := by
        match ws, h5 with
        | [a, b, c, d, e], _ => exact ⟨a, b, c, d, e, rfl⟩
      have ld := hl d (by simp)
      have le := hl e (by simp)
      have law : lawVx [a, b, c, d, e] = (lawId [a, b, c] && (numB d 0 11 && numB e 0 199)) := rfl
      rw [law] at q
      refine ⟨_, rfl, p, _, rfl, .inl (SqL.of ep), rfl, _, rfl, ite2 (fun _ => ?_) (fun h => absurd rfl h)⟩
      refine ⟨_, rfl, 3, rfl, p, _, rfl, SqL.of ep, fun p2 np2 => ?_⟩
      have ec : cutV (strV [a, b, c, d, e]) none (some 3) = strV [a, b, c] := cutV_to _ 3
      rw [ec]
      have s1 : Same H (upd H p2 (.lst (strV [a, b, c]))) := same_new np2
      have ep2 : (upd H p2 (.lst (strV [a, b, c]))) p2 = some (.lst (strV [a, b, c])) := upd_same
      generalize upd H p2 (.lst (strV [a, b, c])) = H1 at s1 ep2
      refine ⟨p2, [a, b, c], rfl, ep2, fun l hl' => hl l (by simp only [List.mem_cons, List.not_mem_nil, or_false] at hl' ⊢; rcases hl' with z | z | z <;> simp [z]), fun H2 s2 => ⟨_, rfl, ite2 (fun h1 => ?_) (fun h1 => ?_)⟩⟩
      · have h1 : lawId [a, b, c] = true := h1
        have s02 := same_trans s1 s2
        refine ⟨_, rfl, p, _, _, _, rfl, rfl, SqL.of (s02 _ _ ep), atI_nat (j := 3) rfl, Sg d, 0, 11, rfl, by rw [lS]; omega, by decide, fun H3 s3 => ⟨_, rfl, ite2 (fun h2 => ?_) (fun h2 => ?_)⟩⟩
        · have h2 : numB d 0 11 = true := h2
          have s03 := same_trans s02 s3
          refine ⟨_, rfl, p, _, _, _, rfl, rfl, SqL.of (s03 _ _ ep), atI_nat (j := 4) rfl, Sg e, 0, 199, rfl, by rw [lS]; omega, by decide, fun H4 s4 => ?_⟩
          have := q H4 (same_trans s03 s4)
          rw [h1, h2, Bool.true_and, Bool.true_and] at this
          exact this
        · have h2 : numB d 0 11 = false := Bool.eq_false_iff.mpr h2
          have := q H3 (same_trans s02 s3)
          rw [h2, Bool.false_and, Bool.and_false] at this
          exact this
      · have h1 : lawId [a, b, c] = false := Bool.eq_false_iff.mpr h1
        have := q H2 (same_trans s1 s2)
        rw [h1, Bool.false_and] at this
        exact this
    · have no : lawVx ws = false := by
        unfold lawVx
        split
        · exact absurd rfl h5
        · rfl
      rw [no] at q
      refine ⟨_, rfl, p, _, rfl, .inl (SqL.of ep), rfl, ?_⟩
      rw [d5, decide_eq_false h5]
      exact ⟨_, rfl, ite2 (fun z => absurd z (by decide)) (fun _ => q H same_refl)⟩
end
end K20
/-! the key of a vertex: its order is the vertex's own -/
namespace K20
open PySem PySem.Spec PyProof.Rows L2 TL TR QR
def mkD (ms : List Nat) : PyData := .tuple (ms.map fun m : Nat => PyData.int (m : Int))
def keyD (x : Vx) : PyData := .tuple [.int (x.1.1.1 : Int), mkD x.1.1.2, .str (Sg x.1.2.1), .int (x.1.2.2 : Int), .int (x.2.1 : Int), .int (x.2.2 : Int)]
theorem alike_mk (a b : List Nat) : PySem.W.alike (mkD a) (mkD b) = true := by
  unfold mkD
  rw [PySem.W.alike, alike_ints]
theorem alike_key (a b : Vx) : PySem.W.alike (keyD a) (keyD b) = true := by
  unfold keyD
  simp [PySem.W.alike, PySem.W.alikeAll, alike_mk]
theorem key_lt (a b : Vx) : PySem.W.dataLt (keyD a) (keyD b) = vlt a b := by
  have ai : ∀ i j : Int, PySem.W.alike (.int i) (.int j) = true := fun i j => by rw [PySem.W.alike]
  have as : ∀ i j : Str, PySem.W.alike (.str i) (.str j) = true := fun i j => by rw [PySem.W.alike]
  have al : PySem.W.alike (labD a.1.1) (labD b.1.1) = true := by
    unfold labD
    simp [PySem.W.alike, PySem.W.alikeAll, alike_ints]
  have an : PySem.W.alike (nmD a.1) (nmD b.1) = true := by
    unfold nmD
    simp [PySem.W.alike, PySem.W.alikeAll, al]
  have el : PyData.eqv (labD a.1.1) (labD b.1.1) = (PyData.eqv (.int (a.1.1.1 : Int)) (.int (b.1.1.1 : Int)) && PyData.eqv (mkD a.1.1.2) (mkD b.1.1.2)) := by
    unfold labD mkD
    simp [PyData.eqv, PyData.eqvAll]
  have en : PyData.eqv (nmD a.1) (nmD b.1) = (PyData.eqv (labD a.1.1) (labD b.1.1) && (PyData.eqv (.str (Sg a.1.2.1)) (.str (Sg b.1.2.1)) && PyData.eqv (.int (a.1.2.2 : Int)) (.int (b.1.2.2 : Int)))) := by
    unfold nmD
    simp [PyData.eqv, PyData.eqvAll]
  have dl : PySem.W.dataLt (labD a.1.1) (labD b.1.1) = if PyData.eqv (.int (a.1.1.1 : Int)) (.int (b.1.1.1 : Int)) = true then (if PyData.eqv (mkD a.1.1.2) (mkD b.1.1.2) = true then false else PySem.W.dataLt (mkD a.1.1.2) (mkD b.1.1.2)) else PySem.W.dataLt (.int (a.1.1.1 : Int)) (.int (b.1.1.1 : Int)) := by
    show PySem.W.dataLt (.tuple [.str "label", .int (a.1.1.1 : Int), mkD a.1.1.2]) (.tuple [.str "label", .int (b.1.1.1 : Int), mkD b.1.1.2]) = _
    rw [PySem.W.dataLt_tuple, PySem.W.dataLt_cons (as _ _), if_pos (by simp [PyData.eqv]), PySem.W.dataLt_cons (ai _ _), PySem.W.dataLt_cons (alike_mk _ _), PyProof.Rows.lex_irrefl]
  have dn : PySem.W.dataLt (nmD a.1) (nmD b.1) = if PyData.eqv (labD a.1.1) (labD b.1.1) = true then (if PyData.eqv (.str (Sg a.1.2.1)) (.str (Sg b.1.2.1)) = true then (if PyData.eqv (.int (a.1.2.2 : Int)) (.int (b.1.2.2 : Int)) = true then false else PySem.W.dataLt (.int (a.1.2.2 : Int)) (.int (b.1.2.2 : Int))) else PySem.W.dataLt (.str (Sg a.1.2.1)) (.str (Sg b.1.2.1))) else PySem.W.dataLt (labD a.1.1) (labD b.1.1) := by
    show PySem.W.dataLt (.tuple [labD a.1.1, .str (Sg a.1.2.1), .int (a.1.2.2 : Int)]) (.tuple [labD b.1.1, .str (Sg b.1.2.1), .int (b.1.2.2 : Int)]) = _
    rw [PySem.W.dataLt_tuple, PySem.W.dataLt_cons al, PySem.W.dataLt_cons (as _ _), PySem.W.dataLt_cons (ai _ _), PyProof.Rows.lex_irrefl]
  unfold vlt
  show _ = PySem.W.dataLt (.tuple [nmD a.1, .int (a.2.1 : Int), .int (a.2.2 : Int)]) (.tuple [nmD b.1, .int (b.2.1 : Int), .int (b.2.2 : Int)])
  unfold keyD
  rw [PySem.W.dataLt_tuple, PySem.W.dataLt_tuple, PySem.W.dataLt_cons an, PySem.W.dataLt_cons (ai _ _), PySem.W.dataLt_cons (alike_mk _ _), PySem.W.dataLt_cons (as _ _), PySem.W.dataLt_cons (ai (a.1.2.2 : Int) (b.1.2.2 : Int)), en, dn, el, dl]
  cases PyData.eqv (.int (a.1.1.1 : Int)) (.int (b.1.1.1 : Int)) <;> cases PyData.eqv (mkD a.1.1.2) (mkD b.1.1.2) <;> cases PyData.eqv (.str (Sg a.1.2.1)) (.str (Sg b.1.2.1)) <;> cases PyData.eqv (.int (a.1.2.2 : Int)) (.int (b.1.2.2 : Int)) <;> simp
theorem key_depth (x : Vx) : (keyD x).depth = 2 := by
  unfold keyD mkD
  simp [PyData.depth, PyData.depthAll, (plain_ints x.1.1.2).2]
end K20
namespace K20
open PySem PySem.Spec PyProof.Rows L2 TL TR QR
open GxR (TabB TabG Tabbed)
open PySem.W (EachIs)
abbrev sKY : Stmt := topS 65
abbrev nKY : List Str := ["text", "parts", "marks", "char"]
theorem scKY : FnScope nKY ["text"] (defScope sKY) := ⟨rfl, rfl, rfl, by decide +kernel, rfl, by decide +kernel, by decide +kernel⟩
def KeyAt (H : Hp) (v : V) (x : Vx) : Prop := ∃ a m, v = .ref a ∧ H a = some (.tup [.int (x.1.1.1 : Int), .ref m, .str (Sg x.1.2.1), .int (x.1.2.2 : Int), .int (x.2.1 : Int), .int (x.2.2 : Int)]) ∧ H m = some (.tup (x.1.1.2.map fun k : Nat => V.int (k : Int)))
theorem KeyAt.ts {H H' : Hp} {v : V} {x : Vx} (s : TS H H') : KeyAt H v x → KeyAt H' v x := fun ⟨a, m, e, h1, h2⟩ => ⟨a, m, e, s _ _ h1, s _ _ h2⟩
theorem dp_key {K : PySem.W.Frag} {H : Hp} {v : V} {x : Vx} : KeyAt H v x → Dp K H v (keyD x) := fun ⟨a, m, e, h1, h2⟩ => by
  rw [e]
  exact .tup (SqT.of h1) (.cons (.int _) (.cons (.tup (SqT.of h2) (dp_ints _)) (.cons (.str _) (.cons (.int _) (.cons (.int _) (.cons (.int _) .nil))))))
theorem int_num {n : Nat} (h : n ≤ 99999) : PySem.intText? (Sg (numL n)) = some (n : Int) := by
  have := num_five h
  have e := PySem.intText_digits (x := Sg (numL n)) (numL_digits n) (numL_ne n) (by show (numL n).length ≤ _; omega)
  rw [e]
  exact congrArg (fun k : Nat => some (k : Int)) (numL_val n)
theorem mark_map : ∀ {ms : List Nat}, (∀ m ∈ ms, m ≤ 5) → markL ms = ms.map (48 + ·)
  | [], _ => rfl
  | m :: r, h => by
    have ih := mark_map (ms := r) fun x hx => h x (List.mem_cons_of_mem _ hx)
    have h5 := h m List.mem_cons_self
    unfold markL at ih ⊢
    rw [List.map_cons, List.flatten_cons, ih, numL_lt (by omega : m < 10)]
    rfl
theorem lab_parts {l : Lab} (ok : LabOk l) : ∃ r, labL l = (48 + l.1) :: r ∧ (labL l).drop 2 = l.2.map (48 + ·) := by
  have lv := ok.lv
  unfold labL
  rw [numL_lt (by omega : l.1 < 10)]
  by_cases h : l.2 = []
  · rw [if_pos h, h]
    exact ⟨[], rfl, rfl⟩
  · rw [if_neg h, mark_map ok.mks]
    exact ⟨_, rfl, rfl⟩
theorem int_one {m : Nat} (h : m ≤ 9) : PySem.intText? ⟨#[48 + m]⟩ = some (m : Int) := by
  have := int_num (n := m) (by omega)
  rwa [numL_lt (by omega : m < 10)] at this
section
variable {P : Program} {w : World} {K : PySem.W.Frag} {mg : Str → Option Value} {base : Heap}
def spKY : Sp := fun vs H Q _ => ∃ (x : Vx), vs = [.str (Sg (vxL x))] ∧ VxOk x ∧ ∀ H' v, Same H H' → KeyAt H' v x → Q v H'
theorem ok_KY {f : Addr} {fd : FuncData} (F : Fun K "_law_key" "_law_key" sKY f fd)
    (m_int : mg "int" = none) (m_tuple : mg "tuple" = none) : FnOk P w K mg base CX0 1 f fd ["text"] spKY := by
  refine F.ok scKY (fun vs H Q E h => ?_) (fun cdv A outer s H vs Q E hr h => ?_)
  · obtain ⟨x, rfl, _⟩ := h
    rfl
  · obtain ⟨x, rfl, ok, q⟩ := h
    have hu := hr.units
    have hu1 := hu_of hr
    have zl := zl
    refine ⟨_, (pss_cons (ps_set (i := 1) scKY.nd rfl (.inl rfl) (pe_split (pv 0) (pe_str)))
      (pss_cons (ps_setLc (i := 2) (own := [("char", 3)]) (g := gName 3) (tt := tYes) (te := _) rfl scKY.nd rfl rfl (sw_true rfl rfl rfl (by decide +kernel)) (pi_str (pe_slice sl_str (pe_ix ix_list (pv 1) (pe_int) (fun _ _ => rfl)) (po_some (pe_int)) (po_none))) (blkOk_by (N := nKY) (sc := defScope sKY) (by decide +kernel)) (fun _ _ _ _ _ => by exact pg_name (i := 3) scKY.nd rfl (.inl rfl)) (fun _ _ _ _ _ => pts_nil) (fun _ _ _ _ _ => by exact pe_callTy call_int_str (by rfl) m_int (by decide +kernel) (pa_cons (pv 3) pa_nil)))
      (pss_one (ps_ret (pe_tup (pa_cons (pe_callTy call_int_str (by rfl) m_int (by decide +kernel) (pa_cons (pe_ix ix_str (pe_ix ix_list (pv 1) (pe_int) (fun _ _ => rfl)) (pe_int) (fun _ _ => rfl)) pa_nil)) (pa_cons (pe_callTy call_tuple_of (by rfl) m_tuple (by decide +kernel) (pa_cons (pv 2) pa_nil)) (pa_cons (pe_ix ix_list (pv 1) (pe_int) (fun _ _ => rfl)) (pa_cons (pe_callTy call_int_str (by rfl) m_int (by decide +kernel) (pa_cons (pe_ix ix_list (pv 1) (pe_int) (fun _ _ => rfl)) pa_nil)) (pa_cons (pe_callTy call_int_str (by rfl) m_int (by decide +kernel) (pa_cons (pe_ix ix_list (pv 1) (pe_int) (fun _ _ => rfl)) pa_nil)) (pa_cons (pe_callTy call_int_str (by rfl) m_int (by decide +kernel) (pa_cons (pe_ix ix_list (pv 1) (pe_int) (fun _ _ => rfl)) pa_nil)) pa_nil))))))))))), ?_⟩
    have lx := vx_len1 ok
    have lS : (Sg (vxL x)).length = (vxL x).length := rfl
    obtain ⟨r, el, ed⟩ := lab_parts ok.nm.lb
    refine ⟨_, rfl, ⟨_, rfl⟩, _, _, rfl, rfl, by decide +kernel, by omega, fun p np => ?_⟩
    rw [show Str.ofString "." = ⟨#[46]⟩ by decide +kernel, split_words, show tl (Sg (vxL x)) = vxL x from rfl, vx_cut ok]
    have s1 : Same H (upd H p (.lst (strV [labL x.1.1, x.1.2.1, numL x.1.2.2, numL x.2.1, numL x.2.2]))) := same_new np
    have ep : (upd H p (.lst (strV [labL x.1.1, x.1.2.1, numL x.1.2.2, numL x.2.1, numL x.2.2]))) p = some (.lst (strV [labL x.1.1, x.1.2.1, numL x.1.2.2, numL x.2.1, numL x.2.2])) := upd_same
    generalize upd H p (.lst (strV [labL x.1.1, x.1.2.1, numL x.1.2.2, numL x.2.1, numL x.2.2])) = H1 at s1 ep
    dsimp only [tNext, tSeq, tIfS, tAsg, gName, tC]
    have lb := lab_len ok.nm.lb.sm
    have lS2 : ∀ t : List Nat, (Sg t).length = t.length := fun _ => rfl
    refine ⟨_, rfl, p, _, _, _, rfl, rfl, SqL.of ep, atI_nat (j := 0) rfl, _, rfl, Sg (labL x.1.1), rfl, by rw [lS2]; omega, ?_⟩
    have ecut : cutS (Sg (labL x.1.1)) (some 2) none = Sg (x.1.1.2.map (48 + ·)) := (cutS_from _ 2).trans (congrArg Sg ed)
    rw [ecut]
    refine ⟨_, rfl, fun D nD => ?_⟩
    have mk := ok.nm.lb.mks
    have ln6 := ok.nm.lb.ln
    generalize hms : x.1.1.2 = ms at *
    have npD : p ≠ D := fun z => by rw [← z, ep] at nD; cases nD
    refine lc_it (walk_str (z := Sg (ms.map (48 + ·)))) (fun i H' => Same H1 H' ∧ H' D = some (.lst ((ms.take i).map fun m : Nat => V.int (m : Int)))) ⟨same_new nD, upd_same⟩ (fun _ _ _ _ => trivial) ?_ ?_
    · rintro i v H3 H4 hi ⟨s3, eD⟩ ⟨rfl, c, hc, rfl⟩
      have hc' : (tl (Sg (ms.map (48 + ·))))[i]? = some c := by rw [Array.getElem?_toList]; exact hc
      have hc' : (ms.map (48 + ·))[i]? = some c := hc'
      rw [List.getElem?_map] at hc'
      obtain ⟨m, hm, rfl⟩ := Option.map_eq_some_iff.mp hc'
      have m5 := mk m (List.mem_of_getElem? hm)
      refine ⟨rfl, _, rfl, _, _, rfl, int_one (by omega), by show 1 ≤ 640; omega, _, eD, ?_, ?_, ?_⟩
      · rw [List.length_map, List.length_take]
        omega
      · intro b o e
        rw [upd_ne (fun z => by rw [z, nD] at e; cases e)]
        exact s3 b o e
      · rw [upd_same, List.take_add_one, hm, List.map_append]
        rfl
    · rintro H3 ⟨s3, eD⟩
      rw [List.take_of_length_le (by show ms.length ≤ (ms.map (48 + ·)).length; rw [List.length_map]; exact Nat.le_refl _)] at eD
      have ep3 := s3 _ _ ep
      have l5 : ∀ {k : Nat}, k ≤ 99999 → (Sg (numL k)).length ≤ 640 := fun h => by have := num_five h; rw [lS2]; omega
      have g0 : atI (Sg (labL x.1.1)).cps.toList 0 = some (48 + x.1.1.1) := atI_nat (j := 0) (by show (labL x.1.1)[0]? = _; rw [el]; rfl)
      refine ⟨_, rfl, p, _, _, _, rfl, rfl, SqL.of ep3, atI_nat (j := 0) rfl, Sg (labL x.1.1), _, _, rfl, rfl, by rw [lS2]; omega, g0, _, _, rfl, int_one (by have := ok.nm.lb.lv; omega), by show 1 ≤ 640; omega, ?_⟩
      refine ⟨_, rfl, D, _, rfl, .inl ⟨SqL.of eD, fun u nu => ?_⟩⟩
      have s4 := same_trans s3 (same_new (o := .tup (ms.map fun m : Nat => V.int (m : Int))) nu)
      have eu : (upd H3 u (.tup (ms.map fun m : Nat => V.int (m : Int)))) u = some (.tup (ms.map fun m : Nat => V.int (m : Int))) := upd_same
      generalize upd H3 u (.tup (ms.map fun m : Nat => V.int (m : Int))) = H4 at s4 eu
      have ep4 := s4 _ _ ep
      refine ⟨_, rfl, p, _, _, _, rfl, rfl, SqL.of ep4, atI_nat (j := 1) rfl, ?_⟩
      refine ⟨_, rfl, p, _, _, _, rfl, rfl, SqL.of ep4, atI_nat (j := 2) rfl, _, _, rfl, int_num ok.nm.hi, l5 ok.nm.hi, ?_⟩
      refine ⟨_, rfl, p, _, _, _, rfl, rfl, SqL.of ep4, atI_nat (j := 3) rfl, _, _, rfl, int_num (by have := ok.a; omega), l5 (by have := ok.a; omega), ?_⟩
      refine ⟨_, rfl, p, _, _, _, rfl, rfl, SqL.of ep4, atI_nat (j := 4) rfl, _, _, rfl, int_num (by have := ok.b; omega), l5 (by have := ok.b; omega), ?_⟩
      refine ⟨by show 6 ≤ sizeLine; omega, fun a na => q _ _ (same_trans s1 (same_trans s4 (same_new na))) ⟨a, u, rfl, upd_same, ?_⟩⟩
      rw [hms]
      exact same_new na _ _ eu
end
end K20
namespace K20
open PySem PySem.Spec PyProof.Rows L2 TL TR QR
open GxR (TabB TabG Tabbed)
open PySem.W (EachIs)
abbrev sAV : Stmt := topS 66
abbrev nAV : List Str := ["text", "least", "most", "parts", "keys", "part", "k"]
theorem scAV : FnScope nAV ["text", "least", "most"] (defScope sAV) := ⟨rfl, rfl, rfl, by decide +kernel, rfl, by decide +kernel, by decide +kernel⟩
section
variable {P : Program} {w : World} {K : PySem.W.Frag} {mg : Str → Option Value} {base : Heap}
def spAV : Sp := fun vs H Q _ => ∃ (t : List Nat) (l m : Nat), vs = [.str (Sg t), .int (l : Int), .int (m : Int)] ∧ l ≤ 1 ∧ t.length ≤ 70000 ∧ ∀ (b : Bool) H', (b = true ↔ RisP l m (readVs t)) → Same H H' → Q (.bl b) H'
theorem ok_AV {f fKY fGV : Addr} {fd fdKY fdGV : FuncData} (F : Fun K "_law_are_vertices" "_law_are_vertices" sAV f fd)
    (GKY : FnOk P w K mg base CX0 1 fKY fdKY ["text"] spKY) (bKY : Binds K fdKY ["text"] []) (gKY : mg "_law_key" = some (.ref fKY)) (kKY : PySem.W.keepIn K (.ref fKY) = true)
    (GGV : FnOk P w K mg base CX0 3 fGV fdGV ["parts"] spGV) (bGV : Binds K fdGV ["parts"] []) (gGV : mg "_law_is_vertex" = some (.ref fGV)) (kGV : PySem.W.keepIn K (.ref fGV) = true)
    (m_len : mg "len" = none) (m_range : mg "range" = none) : FnOk P w K mg base CX0 4 f fd ["text", "least", "most"] spAV := by
  refine F.ok scAV (fun vs H Q E h => ?_) (fun cdv A outer s H vs Q E hr h => ?_)
  · obtain ⟨t, l, m, rfl, _⟩ := h
    rfl
  · obtain ⟨t, l, m, rfl, l1, lt, q⟩ := h
    have hu := hr.units
    have hu1 := hu_of hr
    have hr1 : Room 1 _ := hr.mono (by decide)
    have hr2 : Room 2 _ := hr.mono (by decide)
    have hr3 : Room 3 _ := hr.mono (by decide)
    have zl := zl
    refine ⟨_, (pss_cons (ps_if (pt_cmpR op_eq (pv 0) (pe_str) (nomark _))
      (pss_one (ps_ret (pe_cmpR op_eq (pv 1) (pe_int) (nomark _)))) pss_nil)
      (pss_cons (ps_set (i := 3) scAV.nd rfl (.inl rfl) (pe_split (pv 0) (pe_str)))
      (pss_cons (ps_if (PW.pt (pw_or (pt_cmpR op_gt (pe_callB call_len_seq (by rfl) m_len PySem.boot_len (pa_cons (pv 3) pa_nil)) (pv 2) (nomark _)) (pw_or1 (pt_cmpR op_gt (pe_callB call_len_seq (by rfl) m_len PySem.boot_len (pa_cons (pe_lc (own := [("part", 5)]) (g := gName 5) (tt := _) (te := tVar 5) rfl scAV.nd (pi_list (pv 3)) (blkOk_by (N := nAV) (sc := defScope sAV) (by decide +kernel)) (fun _ _ _ _ _ => by exact pg_name (i := 5) scAV.nd rfl (.inl rfl)) (fun _ _ _ _ _ => by exact pts_one (pt_not (pt_val (pe_call GGV hr3 (by rfl) gGV kGV bGV .nil pass0 (pa_cons (pe_split (pv 5) (pe_str)) pa_nil))))) (fun _ _ _ _ _ => by exact pv 5)) pa_nil)) (pe_int) (nomark _)))))
      (pss_one (ps_ret (pe_bl))) pss_nil)
      (pss_cons (ps_set (i := 4) scAV.nd rfl (.inr rfl) (pe_lc (own := [("part", 5)]) (g := gName 5) (tt := tYes) (te := tCall spKY [] E0 (tCons (tVar 5) tNil)) rfl scAV.nd (pi_list (pv 3)) (blkOk_by (N := nAV) (sc := defScope sAV) (by decide +kernel)) (fun _ _ _ _ _ => by exact pg_name (i := 5) scAV.nd rfl (.inl rfl)) (fun _ _ _ _ _ => pts_nil) (fun _ _ _ _ _ => by exact pe_call GKY hr1 (by rfl) gKY kKY bKY .nil pass0 (pa_cons (pv 5) pa_nil))))
      (pss_one (ps_ret (pe_cmpR op_eq (pe_callB call_len_seq (by rfl) m_len PySem.boot_len (pa_cons (pe_lc (own := [("k", 6)]) (g := gName 6) (tt := tNot (tTest (tOp (GX.rLtP K) (tOp (rIxL K) (tVar 4) (tOp (rI0 fun i j => .int (i - j)) (tVar 6) (tC (.int 1)))) (tOp (rIxL K) (tVar 4) (tVar 6))))) (te := tVar 6) rfl scAV.nd (pi_range2 (by rfl) m_range (pa_cons (pe_int) (pa_cons (pe_callB call_len_seq (by rfl) m_len PySem.boot_len (pa_cons (pv 4) pa_nil)) pa_nil))) (blkOk_by (N := nAV) (sc := defScope sAV) (by decide +kernel)) (fun _ _ _ _ _ => by exact pg_name (i := 6) scAV.nd rfl (.inl rfl)) (fun _ _ _ _ _ => by exact pts_one (pt_not (pt_cmpR (GX.op_ltP hu) (pe_ix ix_list (pv 4) (pe_op op_sub (pv 6) (pe_int)) (fun _ _ => rfl)) (pe_ix ix_list (pv 4) (pv 6) (fun _ _ => rfl)) (nomark _)))) (fun _ _ _ _ _ => by exact pv 6)) pa_nil)) (pe_int) (nomark _)))))))), ?_⟩
    have lS : (Sg t).length = t.length := rfl
    have ek : Str.ofString "-" = Sg [45] := by decide +kernel
    obtain ⟨c1, c2⟩ := cut_len 44 t
    unfold readVs at q
    by_cases hn : t = [45]
    · rw [if_pos hn] at q
      refine ⟨_, rfl, rfl, _, rfl, yes_if (by rw [hn, ek]; exact decide_eq_true rfl) ⟨_, rfl, rfl, q _ H ?_ same_refl⟩⟩
      rw [decide_eq_true_eq]
      exact ⟨fun z => ⟨by have := V.int.inj z; exact Nat.le_of_eq (by rw [List.length_nil]; omega), Nat.zero_le _, [], rfl, fun _ _ _ h => nomatch h⟩, fun z => congrArg V.int (by have : l ≤ 0 := z.1; omega)⟩
    · rw [if_neg hn] at q
      refine ⟨_, rfl, rfl, _, rfl, no_if (by rw [decide_eq_true_eq, ek]; intro z; exact hn (sg_inj (V.str.inj z))) ?_⟩
      refine ⟨_, rfl, ⟨_, rfl⟩, _, _, rfl, rfl, by decide +kernel, by omega, fun p np => ?_⟩
      rw [show Str.ofString "," = ⟨#[44]⟩ by decide +kernel, split_words, show tl (Sg t) = t from rfl]
      have s1 : Same H (upd H p (.lst (strV (cutAt 44 t)))) := same_new np
      have ep : (upd H p (.lst (strV (cutAt 44 t)))) p = some (.lst (strV (cutAt 44 t))) := upd_same
      have pne := cut_ne 44 t
      generalize upd H p (.lst (strV (cutAt 44 t))) = H1 at s1 ep
      generalize cutAt 44 t = ps at *
      have lps : (strV ps).length = ps.length := List.length_map _
      have p1 : 1 ≤ ps.length := List.length_pos_iff.mpr pne
      dsimp only [tNext, tSeq, tIfS, tAsg, gName, tC]
      refine or_dec (p := m < ps.length) (q := ¬ ∀ x ∈ ps, (readVx x).isSome = true) (fun R k => ⟨_, rfl, p, _, rfl, .inl (SqL.of ep), _, rfl, _, _, rfl, rfl, _, rfl, to_dec (by rw [lps]; exact decide_eq_decide.mpr (by omega)) (k _ same_refl)⟩)
        (fun _ H2 s2 R k => ?_) fun H2 s2 => ite2 (fun h => ?_) (fun h => ?_)
      · refine ⟨_, rfl, p, rfl, ⟨_, SqL.of (s2 _ _ ep)⟩, fun D nD => ?_⟩
        refine lc_list (xs := strV ps) (fun i H' => Same H2 H' ∧ ∃ acc : List V, H' D = some (.lst acc) ∧ acc.length ≤ i ∧ (acc = [] ↔ ∀ l ∈ ps.take i, (readVx l).isSome = true)) ⟨same_new nD, [], upd_same, Nat.le_refl _, ⟨(fun _ l hl => nomatch hl), (fun _ => rfl)⟩⟩ ?_ ?_ ?_
        · rintro i H' _ ⟨s3, _⟩
          exact SqL.of (s3 _ _ (s2 _ _ ep))
        · rintro i y H3 hy ⟨s3, acc, eD, la, ea⟩
          obtain ⟨l, gl, rfl⟩ := map_get hy
          have li := (List.getElem?_eq_some_iff.mp gl).1
          have ll := c2 l (List.mem_of_getElem? gl)
          have lSl : (Sg l).length = l.length := rfl
          obtain ⟨d1, d2⟩ := cut_len 46 l
          have et : ps.take (i + 1) = ps.take i ++ [l] := by rw [List.take_add_one, gl]; rfl
          refine ⟨rfl, _, rfl, ⟨_, rfl⟩, _, _, rfl, rfl, by decide +kernel, by omega, fun p2 np2 => ?_⟩
          rw [show Str.ofString "." = ⟨#[46]⟩ by decide +kernel, split_words, show tl (Sg l) = l from rfl]
          refine ⟨p2, cutAt 46 l, rfl, upd_same, fun x hx => by have := d2 x hx; omega, fun H4 s4 => ⟨_, rfl, ?_⟩⟩
          have s34 := same_trans (same_new np2) s4
          rw [lawVx_eq, show readVxP (cutAt 46 l) = readVx l from rfl]
          cases hv : (readVx l).isSome with
          | false =>
            refine iteT ⟨_, rfl, acc, s34 _ _ eD, by omega, same_upd nD (same_trans s3 s34), _, upd_same, by rw [List.length_append]; show acc.length + 1 ≤ _; omega, ⟨fun z => absurd (List.append_eq_nil_iff.mp z).2 (by simp), fun z => ?_⟩⟩
            have := z l (by rw [et]; simp)
            rw [hv] at this
            cases this
          | true =>
            refine iteF ⟨same_trans s3 s34, acc, s34 _ _ eD, by omega, ?_⟩
            rw [ea, et]
            refine ⟨fun z m hm => ?_, fun z m hm => z m (List.mem_append_left _ hm)⟩
            rcases List.mem_append.mp hm with y | y
            · exact z m y
            · rw [List.mem_singleton.mp y]
              exact hv
        · rintro H3 ⟨s3, acc, eD, la, ea⟩
          rw [lps, List.take_length] at ea
          refine ⟨D, acc, rfl, .inl (SqL.of eD), _, _, rfl, rfl, _, rfl, to_dec ?_ (k _ s3)⟩
          refine (@decide_eq_decide _ _ _ _).mpr ?_
          rw [← ea]
          cases acc with
          | nil => exact ⟨fun z => absurd z (by simp), fun z => absurd rfl z⟩
          | cons _ _ => exact ⟨(fun _ z => nomatch z), fun _ => by show (0 : Int) < ((_ + 1 : Nat) : Int); omega⟩
      · refine q false H2 ⟨(fun z => nomatch z), ?_⟩ (same_trans s1 s2)
        rintro ⟨_, z2, ys, e, _⟩
        rw [List.length_map] at z2
        rcases @of_decide_eq_true _ _ h with z | z
        · omega
        · refine absurd (fun x hx => ?_) z
          have : readVx x ∈ ps.map readVx := List.mem_map.mpr ⟨x, hx, rfl⟩
          rw [e] at this
          obtain ⟨y, _, ey⟩ := List.mem_map.mp this
          rw [← ey]
          rfl
      · have h' := @of_decide_eq_false _ _ (Bool.eq_false_iff.mpr h)
        have hm : ¬ m < ps.length := fun z => h' (.inl z)
        have hall : ∀ x ∈ ps, (readVx x).isSome = true := Classical.byContradiction fun z => h' (.inr z)
        obtain ⟨ys, ey⟩ : ∃ ys : List Vx, ps.map readVx = ys.map some := by
          clear h h' hm q ep s1 s2 c1 c2 pne lps p1
          induction ps with
          | nil => exact ⟨[], rfl⟩
          | cons o r ih =>
            obtain ⟨ys, e⟩ := ih fun o ho => hall o (List.mem_cons_of_mem _ ho)
            obtain ⟨y, hy⟩ := Option.isSome_iff_exists.mp (hall o List.mem_cons_self)
            exact ⟨y :: ys, by rw [List.map_cons, e, hy]; rfl⟩
        have eps := map_vx ey
        have okv : ∀ x ∈ ys, VxOk x := fun x hx => by
          have : some x ∈ ps.map readVx := by rw [ey]; exact List.mem_map.mpr ⟨x, hx, rfl⟩
          obtain ⟨t', _, e⟩ := List.mem_map.mp this
          exact (readVx_back e).1
        have ly : ys.length = ps.length := by rw [eps, List.length_map]
        have ep2 := s2 _ _ ep
        have s02 := same_trans s1 s2
        refine ⟨_, rfl, p, rfl, ⟨_, SqL.of ep2⟩, fun D nD => ?_⟩
        refine lc_list (xs := strV ps) (fun i H' => Same H2 H' ∧ ∃ acc : List V, H' D = some (.lst acc) ∧ EachIs (KeyAt H') acc (ys.take i)) ⟨same_new nD, [], upd_same, .nil⟩ ?_ ?_ ?_
        · rintro i H' _ ⟨s3, _⟩
          exact SqL.of (s3 _ _ ep2)
        · rintro i y H3 hy ⟨s3, acc, eD, ea⟩
          obtain ⟨l, gl, rfl⟩ := map_get hy
          have gy : ∃ x, ys[i]? = some x ∧ l = vxL x := by
            rw [eps, List.getElem?_map] at gl
            obtain ⟨x, hx, e⟩ := Option.map_eq_some_iff.mp gl
            exact ⟨x, hx, e.symm⟩
          obtain ⟨x, gx, rfl⟩ := gy
          have la := ea.length
          rw [List.length_take] at la
          refine ⟨rfl, _, rfl, x, rfl, okv x (List.mem_of_getElem? gx), fun H4 v s4 hk => ⟨acc, s4 _ _ eD, by omega, same_upd nD (same_trans s3 s4), _, upd_same, ?_⟩⟩
          have ts : TS H4 (upd H4 D (.lst (acc ++ [v]))) := (lf_upd (N := fun b => b ≠ D) (s4 _ _ eD) fun z => z rfl).ts
          rw [take_snoc gx]
          exact each_snoc (ea.mono fun _ _ z => (z.ts (Same.ts s4)).ts ts) (hk.ts ts)
        · rintro H3 ⟨s3, keys, eK, ek⟩
          rw [lps, ← ly, List.take_length] at ek
          have lk := ek.length
          try dsimp only [tNext, tSeq, tIfS, tAsg, gName, tC]
          refine ⟨_, rfl, D, keys, rfl, .inl (SqL.of eK), _, _, rfl, ⟨by omega, by omega, by omega, by omega⟩, fun D2 nD2 => ?_⟩
          have en : ((keys.length : Int) - 1).toNat = ys.length - 1 := by omega
          refine lc_range (lo := 1) (n := ((keys.length : Int) - 1).toNat) (fun i H' => Same H3 H' ∧ ∃ acc : List V, H' D2 = some (.lst acc) ∧ acc.length ≤ i ∧ (acc = [] ↔ ∀ (j : Nat) (x y : Vx), j < i → ys[j]? = some x → ys[j + 1]? = some y → vlt x y = true)) ⟨same_new nD2, [], upd_same, Nat.le_refl _, ⟨(fun _ j x y z => absurd z (Nat.not_lt_zero _)), fun _ => rfl⟩⟩ ?_ ?_
          · rintro i H4 hi ⟨s4, acc, eA, la, ea⟩
            rw [en] at hi
            obtain ⟨x1, g1⟩ : ∃ x, ys[i]? = some x := ⟨ys[i]'(by omega), List.getElem?_eq_getElem _⟩
            obtain ⟨x2, g2⟩ : ∃ x, ys[i + 1]? = some x := ⟨ys[i + 1]'(by omega), List.getElem?_eq_getElem _⟩
            obtain ⟨w1, f1, r1⟩ := each_get ek g1
            obtain ⟨w2, f2, r2⟩ := each_get ek g2
            have eK4 := s4 _ _ eK
            have k1 := dp_key (K := K) (r1.ts (Same.ts s4))
            have k2 := dp_key (K := K) (r2.ts (Same.ts s4))
            rw [show (1 : Int) + (i : Int) = ((i + 1 : Nat) : Int) by omega]
            refine ⟨rfl, _, rfl, _, rfl, _, _, rfl, rfl, D, _, _, w1, rfl, rfl, SqL.of eK4, (by rw [show ((i + 1 : Nat) : Int) - 1 = (i : Int) by omega]; exact atI_nat f1), _, rfl, _, rfl, D, _, _, w2, rfl, rfl, SqL.of eK4, atI_nat f2, _, _, k1, k2, alike_key _ _, (fun z => by unfold keyD at z; cases z), by rw [key_depth]; decide, _, rfl, ?_⟩
            rw [key_lt]
            cases hv : vlt x1 x2 with
            | false =>
              refine iteT ⟨_, rfl, acc, eA, by omega, same_upd nD2 s4, _, upd_same, by rw [List.length_append]; show acc.length + 1 ≤ _; omega, ⟨fun z => absurd (List.append_eq_nil_iff.mp z).2 (by simp), fun z => ?_⟩⟩
              have := z i x1 x2 (Nat.lt_succ_self i) g1 g2
              rw [hv] at this
              cases this
            | true =>
              refine iteF ⟨s4, acc, eA, by omega, ?_⟩
              rw [ea]
              refine ⟨fun z j x y hj e1 e2 => ?_, fun z j x y hj => z j x y (by omega)⟩
              by_cases hji : j = i
              · subst hji
                rw [g1] at e1
                rw [g2] at e2
                cases e1
                cases e2
                exact hv
              · exact z j x y (by omega) e1 e2
          · rintro H4 ⟨s4, acc, eA, la, ea⟩
            rw [en] at ea
            refine ⟨D2, acc, rfl, .inl (SqL.of eA), rfl, q _ H4 ?_ (same_trans s02 (same_trans s3 s4))⟩
            rw [decide_eq_true_eq, ey]
            constructor
            · intro z
              have z := V.int.inj z
              have e0 : acc = [] := List.eq_nil_of_length_eq_zero (by omega)
              exact ⟨by rw [List.length_map]; omega, by rw [List.length_map]; omega, ys, rfl, fun j x y e1 e2 => ea.mp e0 j x y (by have := (List.getElem?_eq_some_iff.mp e2).1; omega) e1 e2⟩
            · rintro ⟨_, _, zs, e, rz⟩
              have : ys = zs := List.map_inj_right (fun _ _ z => Option.some.inj z) |>.mp e
              subst this
              rw [ea.mpr fun j x y _ e1 e2 => rz j x y e1 e2]
              rfl
end
end K20
namespace K20
open PySem PySem.Spec PyProof.Rows L2 TL TR QR
open GxR (TabB TabG Tabbed)
open PySem.W (EachIs)
abbrev sCF : Stmt := topS 67
abbrev nCF : List Str := ["words", "kind", "far", "word"]
theorem scCF : FnScope nCF ["words"] (defScope sCF) := ⟨rfl, rfl, rfl, by decide +kernel, rfl, by decide +kernel, by decide +kernel⟩
theorem path_some (t : List Nat) : lawPath t = (readPath t).isSome := lawPath_eq t
theorem id_some (t : List Nat) : lawId (cutAt 46 t) = (readNm t).isSome := lawId_eq _
theorem vx_some (t : List Nat) : lawVx (cutAt 46 t) = (readVx t).isSome := lawVx_eq _
theorem rc_len1 {r : Path} {w : List Nat} (hw : w = wAdd ∨ w = wBack) (h : r.length ≠ 1) : readC (w :: r) = .none := by
  refine readC_none (fun z => h z.2) (fun z => h z.2) (fun z => ?_) (fun z => ?_) (fun z => ?_) (fun z => ?_)
  all_goals
    rcases hw with rfl | rfl
    · exact absurd z.1 (by decide)
    · exact absurd z.1 (by decide)
theorem rc_other {r : Path} {w : List Nat} (h1 : ¬ (w = wAdd ∨ w = wBack)) (h : ¬ ((w = wDrop ∨ w = wCut) ∧ r.length = 2)) (h4 : ¬ (w = wMove ∧ r.length = 3)) (h5 : ¬ (w = wOrder ∧ r.length = 3)) (h6 : ¬ (w = wLines ∧ r.length = 4)) : ¬ RcOk (readC (w :: r)) := by
  rw [readC_none (fun z => h1 (.inl z.1)) (fun z => h1 (.inr z.1)) h h4 h5 h6]
  exact id
theorem rc_vx {r : Path} {w y : List Nat} (h1 : ¬ (w = wAdd ∨ w = wBack)) (h : ¬ (readVx y).isSome = true) : ¬ RcOk (readC (w :: y :: r)) := by
  have e1 : w ≠ wAdd := fun z => h1 (.inl z)
  have e2 : w ≠ wBack := fun z => h1 (.inr z)
  match r with
  | [] =>
    dsimp only [readC]
    rw [if_neg e1, if_neg e2]
    exact id
  | [b] =>
    dsimp only [readC]
    split
    · exact fun z => h z.1
    · split
      · exact fun z => h z.1
      · exact id
  | [b, c] =>
    dsimp only [readC]
    split
    · exact fun z => h z.1
    · split
      · exact fun z => h z.1
      · exact id
  | [b, c, d] =>
    dsimp only [readC]
    split
    · exact fun z => h z.1
    · exact id
  | _ :: _ :: _ :: _ :: _ => exact id
theorem cutV_two (x y : V) (xs : List V) : cutV (x :: y :: xs) (some 2) none = xs := by
  unfold cutV
  have e1 : HT.sIx (x :: y :: xs).length 0 (some 2) = 2 := by
    unfold HT.sIx
    simp
  have e2 : HT.sIx (x :: y :: xs).length (x :: y :: xs).length none = (x :: y :: xs).length := by
    unfold HT.sIx
    simp
  rw [e1, e2]
  show xs.take (xs.length + 1 + 1 - 2) = xs
  rw [show xs.length + 1 + 1 - 2 = xs.length by omega, List.take_length]
theorem eAdd (y : List Nat) : readC [wAdd, y] = .add (readPath y) := by dsimp only [readC]; rw [if_pos rfl]
theorem eBack (y : List Nat) : readC [wBack, y] = .back (readNm y) := by dsimp only [readC]; rw [if_neg (by decide), if_pos rfl]
theorem eDrop (y z : List Nat) : readC [wDrop, y, z] = .drop (readVx y) (readVs z) := by dsimp only [readC]; rw [if_pos rfl]
theorem eCut (y z : List Nat) : readC [wCut, y, z] = .cut (readVx y) (readVs z) := by dsimp only [readC]; rw [if_neg (by decide), if_pos rfl]
theorem eMove (y z u : List Nat) : readC [wMove, y, z, u] = .move (readVx y) (readPath z) (readVs u) := by dsimp only [readC]; rw [if_pos rfl]
theorem eOrder (y z u : List Nat) : readC [wOrder, y, z, u] = .order (readVx y) (readVx z) (readVx u) := by dsimp only [readC]; rw [if_neg (by decide), if_pos rfl]
theorem eLines (y z u o : List Nat) : readC [wLines, y, z, u, o] = .lines (readVx y) (readVs z) (readVs u) ((readNum o 200).getD 0) := by dsimp only [readC]; rw [if_pos rfl]
theorem num_fits (o : List Nat) : numB o 1 200 = true ↔ 1 ≤ (readNum o 200).getD 0 ∧ (readNum o 200).getD 0 ≤ 200 := by
  unfold numB
  cases e : readNum o 200 with
  | none => exact ⟨(fun z => nomatch z), fun z => absurd z.1 (by decide)⟩
  | some k => exact ⟨fun z => of_decide_eq_true z, fun z => decide_eq_true z⟩
section
variable {P : Program} {w : World} {K : PySem.W.Frag} {mg : Str → Option Value} {base : Heap}
def spCF : Sp := fun vs H Q _ => ∃ (a : Addr) (x : List Nat) (r : Path), vs = [.ref a] ∧ H a = some (.lst (strV (x :: r))) ∧ (∀ l ∈ r, l.length ≤ 70000) ∧ r.length ≤ 100000 ∧ ∀ (b : Bool) H', (b = true ↔ RcOk (readC (x :: r))) → Same H H' → Q (.bl b) H'
theorem ok_CF {f fGN fGV fAV fGP fHI : Addr} {fd fdGN fdGV fdAV fdGP fdHI : FuncData} (F : Fun K "_law_change_fits" "_law_change_fits" sCF f fd)
    (GGN : FnOk P w K mg base CX0 1 fGN fdGN ["text", "least", "most"] spGN) (bGN : Binds K fdGN ["text", "least", "most"] []) (gGN : mg "_law_is_number" = some (.ref fGN)) (kGN : PySem.W.keepIn K (.ref fGN) = true)
    (GGV : FnOk P w K mg base CX0 3 fGV fdGV ["parts"] spGV) (bGV : Binds K fdGV ["parts"] []) (gGV : mg "_law_is_vertex" = some (.ref fGV)) (kGV : PySem.W.keepIn K (.ref fGV) = true)
    (GAV : FnOk P w K mg base CX0 4 fAV fdAV ["text", "least", "most"] spAV) (bAV : Binds K fdAV ["text", "least", "most"] []) (gAV : mg "_law_are_vertices" = some (.ref fAV)) (kAV : PySem.W.keepIn K (.ref fAV) = true)
    (GGP : FnOk P w K mg base CX0 1 fGP fdGP ["text"] spGP) (bGP : Binds K fdGP ["text"] []) (gGP : mg "_law_is_path" = some (.ref fGP)) (kGP : PySem.W.keepIn K (.ref fGP) = true)
    (GHI : FnOk P w K mg base CX0 2 fHI fdHI ["parts"] spHI) (bHI : Binds K fdHI ["parts"] []) (gHI : mg "_law_is_id" = some (.ref fHI)) (kHI : PySem.W.keepIn K (.ref fHI) = true)
    (m_len : mg "len" = none) : FnOk P w K mg base CX0 5 f fd ["words"] spCF := by
  refine F.ok scCF (fun vs H Q E h => ?_) (fun cdv A outer s H vs Q E hr h => ?_)
  · obtain ⟨a, x, r, rfl, _⟩ := h
    rfl
  · obtain ⟨a, x, r, rfl, ha, hl, ln, q⟩ := h
    have hu := hr.units
    have hu1 := hu_of hr
    have hr1 : Room 1 _ := hr.mono (by decide)
    have hr2 : Room 2 _ := hr.mono (by decide)
    have hr3 : Room 3 _ := hr.mono (by decide)
    have hr4 : Room 4 _ := hr.mono (by decide)
    have zl := zl
    refine ⟨_, (pss_cons (ps_set (i := 1) scCF.nd rfl (.inl rfl) (pe_ix ix_list (pv 0) (pe_int) (fun _ _ => rfl)))
      (pss_cons (ps_if (PW.pt (pw_or (pt_cmpR op_eq (pv 1) (pe_str) (nomark _)) (pw_or1 (pt_cmpR op_eq (pv 1) (pe_str) (nomark _)))))
      (pss_one (ps_ret (pe_and (pe_cmpR op_eq (pe_callB call_len_seq (by rfl) m_len PySem.boot_len (pa_cons (pv 0) pa_nil)) (pe_int) (nomark _)) (pe_one (pe_ifExp (pt_cmpR op_eq (pv 1) (pe_str) (nomark _)) (pe_call GGP hr1 (by rfl) gGP kGP bGP .nil pass0 (pa_cons (pe_ix ix_list (pv 0) (pe_int) (fun _ _ => rfl)) pa_nil)) (pe_call GHI hr2 (by rfl) gHI kHI bHI .nil pass0 (pa_cons (pe_split (pe_ix ix_list (pv 0) (pe_int) (fun _ _ => rfl)) (pe_str)) pa_nil))))))) pss_nil)
      (pss_cons (ps_if (PW.pt (pw_or (pt_cmpR op_lt (pe_callB call_len_seq (by rfl) m_len PySem.boot_len (pa_cons (pv 0) pa_nil)) (pe_int) (nomark _)) (pw_or1 (pt_not (pt_val (pe_call GGV hr3 (by rfl) gGV kGV bGV .nil pass0 (pa_cons (pe_split (pe_ix ix_list (pv 0) (pe_int) (fun _ _ => rfl)) (pe_str)) pa_nil)))))))
      (pss_one (ps_ret (pe_bl))) pss_nil)
      (pss_cons (ps_if (PW.pt (pw_or (pt_cmpR op_eq (pv 1) (pe_str) (nomark _)) (pw_or1 (pt_cmpR op_eq (pv 1) (pe_str) (nomark _)))))
      (pss_one (ps_ret (pe_and (pe_cmpR op_eq (pe_callB call_len_seq (by rfl) m_len PySem.boot_len (pa_cons (pv 0) pa_nil)) (pe_int) (nomark _)) (pe_one (pe_call GAV hr4 (by rfl) gAV kAV bAV .nil pass0 (pa_cons (pe_ix ix_list (pv 0) (pe_int) (fun _ _ => rfl)) (pa_cons (pe_int) (pa_cons (pe_ifExp (pt_cmpR op_eq (pv 1) (pe_str) (nomark _)) (pe_int) (pe_int)) pa_nil)))))))) pss_nil)
      (pss_cons (ps_if (pt_cmpR op_eq (pv 1) (pe_str) (nomark _))
      (pss_one (ps_ret (pe_and (pe_cmpR op_eq (pe_callB call_len_seq (by rfl) m_len PySem.boot_len (pa_cons (pv 0) pa_nil)) (pe_int) (nomark _)) (pe_and (pe_call GGP hr1 (by rfl) gGP kGP bGP .nil pass0 (pa_cons (pe_ix ix_list (pv 0) (pe_int) (fun _ _ => rfl)) pa_nil)) (pe_one (pe_call GAV hr4 (by rfl) gAV kAV bAV .nil pass0 (pa_cons (pe_ix ix_list (pv 0) (pe_int) (fun _ _ => rfl)) (pa_cons (pe_int) (pa_cons (pe_int) pa_nil))))))))) pss_nil)
      (pss_cons (ps_if (pt_cmpR op_eq (pv 1) (pe_str) (nomark _))
      (pss_cons (ps_setLc (i := 2) (own := [("word", 3)]) (g := gName 3) (tt := _) (te := tVar 3) rfl scCF.nd rfl rfl (sw_true rfl rfl rfl (by decide +kernel)) (pi_list (pe_slice sl_list (pv 0) (po_some (pe_int)) (po_none))) (blkOk_by (N := nCF) (sc := defScope sCF) (by decide +kernel)) (fun _ _ _ _ _ => by exact pg_name (i := 3) scCF.nd rfl (.inl rfl)) (fun _ _ _ _ _ => by exact pts_one (pt_not (pt_val (pe_call GGV hr3 (by rfl) gGV kGV bGV .nil pass0 (pa_cons (pe_split (pv 3) (pe_str)) pa_nil))))) (fun _ _ _ _ _ => by exact pv 3))
      (pss_one (ps_ret (pe_and (pe_cmpR op_eq (pe_callB call_len_seq (by rfl) m_len PySem.boot_len (pa_cons (pv 0) pa_nil)) (pe_int) (nomark _)) (pe_and (pe_cmpR op_eq (pe_callB call_len_seq (by rfl) m_len PySem.boot_len (pa_cons (pv 2) pa_nil)) (pe_int) (nomark _)) (pe_one (pe_cmpR op_ne (pe_ix ix_list (pv 0) (pe_int) (fun _ _ => rfl)) (pe_ix ix_list (pv 0) (pe_int) (fun _ _ => rfl)) (nomark _)))))))) pss_nil)
      (pss_cons (ps_if (PW.pt (pw_or (pt_cmpR op_ne (pv 1) (pe_str) (nomark _)) (pw_or (pt_cmpR op_ne (pe_callB call_len_seq (by rfl) m_len PySem.boot_len (pa_cons (pv 0) pa_nil)) (pe_int) (nomark _)) (pw_or (pt_not (pt_val (pe_call GAV hr4 (by rfl) gAV kAV bAV .nil pass0 (pa_cons (pe_ix ix_list (pv 0) (pe_int) (fun _ _ => rfl)) (pa_cons (pe_int) (pa_cons (pe_int) pa_nil)))))) (pw_or1 (pt_not (pt_val (pe_call GAV hr4 (by rfl) gAV kAV bAV .nil pass0 (pa_cons (pe_ix ix_list (pv 0) (pe_int) (fun _ _ => rfl)) (pa_cons (pe_int) (pa_cons (pe_int) pa_nil)))))))))))
      (pss_one (ps_ret (pe_bl))) pss_nil)
      (pss_one (ps_ret (pe_call GGN hr1 (by rfl) gGN kGN bGN .nil pass0 (pa_cons (pe_ix ix_list (pv 0) (pe_int) (fun _ _ => rfl)) (pa_cons (pe_int) (pa_cons (pe_int) pa_nil))))))))))))), ?_⟩
    have lS : ∀ l : List Nat, (Sg l).length = l.length := fun l => rfl
    have lxr : (strV (x :: r)).length = r.length + 1 := List.length_map _
    have no : ∀ {H'}, Same H H' → ¬ RcOk (readC (x :: r)) → Q (.bl false) H' := fun s n => q false _ ⟨(fun z => nomatch z), fun z => absurd z n⟩ s
    have spl : ∀ l : List Nat, (Txt.split (Sg l) (Str.ofString ".")).map V.str = strV (cutAt 46 l) := fun l => by
      rw [show Str.ofString "." = ⟨#[46]⟩ by decide +kernel, split_words]
    have pts : ∀ l ∈ r, ∀ t ∈ cutAt 46 l, t.length ≤ 100000 := fun l hl' t ht => by
      have := (cut_len 46 l).2 t ht
      have := hl l hl'
      omega
    refine ⟨_, rfl, a, _, _, _, rfl, rfl, SqL.of ha, atI_nat (j := 0) rfl, ?_⟩
    dsimp only [tNext, tSeq, tIfS, tAsg, gName, tC]
    refine or_dec (p := x = wAdd) (q := x = wBack) (fun R kk => ⟨_, rfl, rfl, _, rfl, to_dec (kw_dec kw_add) (kk _ same_refl)⟩) (fun _ H1 s1 R kk => ⟨_, rfl, rfl, _, rfl, to_dec (kw_dec kw_back) (kk _ same_refl)⟩) fun H1 s1 => ite2 (fun hab => ?_) (fun hab => ?_)
    · have hab := of_decide_eq_true hab
      have ha1 := s1 _ _ ha
      refine ⟨_, rfl, a, _, rfl, .inl (SqL.of ha1), rfl, _, rfl, ite2 (fun h1 => ?_) (fun h1 => ?_)⟩
      · have h1 : r.length = 1 := by have := V.int.inj (of_decide_eq_true h1); omega
        obtain ⟨y, rfl⟩ : ∃ y, r = [y] := List.length_eq_one_iff.mp h1
        have ly := hl y List.mem_cons_self
        rcases hab with rfl | rfl
        · refine ⟨_, rfl, rfl, _, rfl, yes_if (by rw [kw_dec kw_add]; exact decide_eq_true rfl) ⟨_, rfl, a, _, _, _, rfl, rfl, SqL.of ha1, atI_nat (j := 1) rfl, Sg y, rfl, by rw [lS]; omega, fun H2 s2 => q _ _ ?_ (same_trans s1 s2)⟩⟩
          rw [eAdd, show tl (Sg y) = y from rfl, path_some]
          exact Iff.rfl
        · refine ⟨_, rfl, rfl, _, rfl, no_if (by rw [kw_dec kw_add]; decide) ⟨_, rfl, a, _, _, _, rfl, rfl, SqL.of ha1, atI_nat (j := 1) rfl, ⟨_, rfl⟩, _, _, rfl, rfl, by decide +kernel, by rw [lS]; omega, fun p np => ?_⟩⟩
          rw [spl]
          refine ⟨p, cutAt 46 y, rfl, upd_same, pts y List.mem_cons_self, fun H2 s2 => q _ _ ?_ (same_trans s1 (same_trans (same_new np) s2))⟩
          rw [eBack, id_some]
          exact Iff.rfl
      · have h1 : r.length ≠ 1 := fun z => h1 (decide_eq_true (congrArg V.int (by omega)))
        exact no s1 (by rw [rc_len1 hab h1]; exact id)
    · have hab := of_decide_eq_false (Bool.eq_false_iff.mpr hab)
      have ha1 := s1 _ _ ha
      try dsimp only [tNext, tSeq, tIfS, tAsg, gName, tC]
      refine or_dec (p := r.length < 2) (q := ¬ (readVx (r.headD [])).isSome = true) (fun R k => ⟨_, rfl, a, _, rfl, .inl (SqL.of ha1), _, _, rfl, rfl, _, rfl, to_dec (decide_eq_decide.mpr (by omega)) (k _ same_refl)⟩)
        (fun h2 H2 s2 R k => ?_) fun H2 s2 => ite2 (fun h => ?_) (fun h => ?_)
      · obtain ⟨y, z, r, rfl⟩ : ∃ y z r', r = y :: z :: r' := by
          match r, h2 with
          | y :: z :: r', _ => exact ⟨y, z, r', rfl⟩
          | [_], h2 => exact absurd (show 1 < 2 by decide) h2
          | [], h2 => exact absurd (show 0 < 2 by decide) h2
        have ly := hl y List.mem_cons_self
        refine ⟨_, rfl, a, _, _, _, rfl, rfl, SqL.of (s2 _ _ ha1), atI_nat (j := 1) rfl, ⟨_, rfl⟩, _, _, rfl, rfl, by decide +kernel, by rw [lS]; omega, fun p np => ?_⟩
        rw [spl]
        refine ⟨p, cutAt 46 y, rfl, upd_same, pts y List.mem_cons_self, fun H3 s3 => ⟨_, rfl, to_dec ?_ (k _ (same_trans (same_new np) s3))⟩⟩
        rw [vx_some]
        show (!(readVx y).isSome) = decide (¬ (readVx y).isSome = true)
        cases (readVx y).isSome <;> rfl
      · refine no (same_trans s1 s2) ?_
        rcases @of_decide_eq_true _ _ h with z | z
        · exact rc_other hab (fun y => by omega) (fun y => by omega) (fun y => by omega) (fun y => by omega)
        · cases r with
          | nil => exact rc_other hab (fun y => nomatch y.2) (fun y => nomatch y.2) (fun y => nomatch y.2) (fun y => nomatch y.2)
          | cons y r => exact rc_vx hab z
      · have h' := @of_decide_eq_false _ _ (Bool.eq_false_iff.mpr h)
        obtain ⟨y, z, r, rfl⟩ : ∃ y z r', r = y :: z :: r' := by
          match r, h' with
          | y :: z :: r', _ => exact ⟨y, z, r', rfl⟩
          | [_], h2 => exact absurd (.inl (show 1 < 2 by decide)) h2
          | [], h2 => exact absurd (.inl (show 0 < 2 by decide)) h2
        have hy : (readVx y).isSome = true := Classical.byContradiction fun z => h' (.inr z)
        have ly := hl y List.mem_cons_self
        have lz := hl z (by simp)
        have s02 := same_trans s1 s2
        have ha2 := s02 _ _ ha
        clear h h' ha1
        clear s1 s2
        try dsimp only [tNext, tSeq, tIfS, tAsg, gName, tC]
        refine or_dec (p := x = wDrop) (q := x = wCut) (fun R kk => ⟨_, rfl, rfl, _, rfl, to_dec (kw_dec kw_drop) (kk _ same_refl)⟩) (fun _ H1 s1 R kk => ⟨_, rfl, rfl, _, rfl, to_dec (kw_dec kw_cut) (kk _ same_refl)⟩) fun H3 s3 => ite2 (fun hdc => ?_) (fun hdc => ?_)
        · have hdc := of_decide_eq_true hdc
          have s03 := same_trans s02 s3
          have ha3 := s03 _ _ ha
          refine ⟨_, rfl, a, _, rfl, .inl (SqL.of ha3), rfl, _, rfl, ite2 (fun h1 => ?_) (fun h1 => no s03 ?_)⟩
          · have h1 : r = [] := List.eq_nil_of_length_eq_zero (by have := V.int.inj (of_decide_eq_true h1); rw [List.length_cons, List.length_cons] at lxr; omega)
            subst h1
            refine ⟨_, rfl, a, _, _, _, rfl, rfl, SqL.of ha3, atI_nat (j := 2) rfl, ?_⟩
            rcases hdc with rfl | rfl
            · refine ⟨_, rfl, rfl, _, rfl, yes_if (by rw [kw_dec kw_drop]; exact decide_eq_true rfl) ⟨z, 1, 12, rfl, by decide, lz, fun b H4 hb s4 => q b _ ?_ (same_trans s03 s4)⟩⟩
              rw [eDrop, hb]
              exact ⟨fun k => ⟨hy, k⟩, fun k => k.2⟩
            · refine ⟨_, rfl, rfl, _, rfl, no_if (by rw [kw_dec kw_drop]; decide) ⟨z, 1, 200, rfl, by decide, lz, fun b H4 hb s4 => q b _ ?_ (same_trans s03 s4)⟩⟩
              rw [eCut, hb]
              exact ⟨fun k => ⟨hy, k⟩, fun k => k.2⟩
          · have h1 : ¬ r.length = 0 := fun z => h1 (decide_eq_true (congrArg V.int (by rw [List.length_cons, List.length_cons] at lxr; omega)))
            refine rc_other hab (fun k => h1 (by have := k.2; rw [List.length_cons, List.length_cons] at this; omega)) (fun k => ?_) (fun k => ?_) (fun k => ?_)
            all_goals
              rcases hdc with rfl | rfl <;> exact absurd k.1 (by decide)
        have hdc := of_decide_eq_false (Bool.eq_false_iff.mpr hdc)
        have s02 := same_trans s02 s3
        have ha2 := s02 _ _ ha
        clear s3
        refine ⟨_, rfl, rfl, _, rfl, ite2 (fun hm => ?_) (fun hm => ?_)⟩
        · rw [kw_dec kw_move] at hm
          have hm := of_decide_eq_true hm
          subst hm
          refine ⟨_, rfl, a, _, rfl, .inl (SqL.of ha2), rfl, _, rfl, ite2 (fun h1 => ?_) (fun h1 => no s02 ?_)⟩
          · have h1 : r.length = 1 := by have := V.int.inj (of_decide_eq_true h1); rw [List.length_cons, List.length_cons] at lxr; omega
            obtain ⟨u, rfl⟩ : ∃ u, r = [u] := List.length_eq_one_iff.mp h1
            have lu := hl u (by simp)
            have er := eMove y z u
            refine ⟨_, rfl, a, _, _, _, rfl, rfl, SqL.of ha2, atI_nat (j := 2) rfl, Sg z, rfl, by rw [lS]; omega, fun H3 s3 => ⟨_, rfl, ?_⟩⟩
            rw [show tl (Sg z) = z from rfl, path_some]
            have s03 := same_trans s02 s3
            refine ite2 (fun hp => ?_) (fun hp => ?_)
            · refine ⟨_, rfl, a, _, _, _, rfl, rfl, SqL.of (s03 _ _ ha), atI_nat (j := 3) rfl, u, 1, 12, rfl, by decide, lu, fun b H4 hb s4 => q b _ ?_ (same_trans s03 s4)⟩
              rw [er, hb]
              exact ⟨fun k => ⟨hy, hp, k⟩, fun k => k.2.2⟩
            · refine q _ _ ?_ s03
              rw [er]
              exact ⟨(fun k => nomatch k), fun k => absurd k.2.1 hp⟩
          · refine rc_other hab (fun k => hdc k.1) (fun k => h1 (decide_eq_true (congrArg V.int ?_))) (fun k => absurd k.1 (by decide)) (fun k => absurd k.1 (by decide))
            have := k.2
            rw [List.length_cons, List.length_cons] at lxr this
            omega
        rw [kw_dec kw_move] at hm
        have hm : ¬ x = wMove := of_decide_eq_false (Bool.eq_false_iff.mpr hm)
        refine ⟨_, rfl, rfl, _, rfl, ite2 (fun ho => ?_) (fun ho => ?_)⟩
        · rw [kw_dec kw_order] at ho
          have ho := of_decide_eq_true ho
          subst ho
          refine ⟨_, rfl, _, rfl, a, _, rfl, SqL.of ha2, fun b nb => ?_⟩
          rw [show cutV (strV (wOrder :: y :: z :: r)) (some 2) none = strV (z :: r) from cutV_two _ _ _]
          have s03 := same_trans s02 (same_new (o := .lst (strV (z :: r))) nb)
          have eb : (upd _ b (.lst (strV (z :: r)))) b = some (.lst (strV (z :: r))) := upd_same (H := H3)
          generalize upd H3 b (.lst (strV (z :: r))) = H4 at s03 eb
          refine ⟨b, rfl, ⟨_, SqL.of eb⟩, fun D nD => ?_⟩
          have lzr : (strV (z :: r)).length = (z :: r).length := List.length_map _
          have hl2 : ∀ l ∈ z :: r, l.length ≤ 70000 := fun l h => hl l (List.mem_cons_of_mem _ h)
          rw [List.length_cons, List.length_cons] at ln
          refine lc_list (xs := strV (z :: r)) (fun i H' => Same H4 H' ∧ ∃ acc : List V, H' D = some (.lst acc) ∧ acc.length ≤ i ∧ (acc = [] ↔ ∀ l ∈ (z :: r).take i, (readVx l).isSome = true)) ⟨same_new nD, [], upd_same, Nat.le_refl _, ⟨(fun _ l hl => nomatch hl), (fun _ => rfl)⟩⟩ ?_ ?_ ?_
          · rintro i H' _ ⟨s3, _⟩
            exact SqL.of (s3 _ _ eb)
          · rintro i y' H5 hy' ⟨s5, acc, eD, la, ea⟩
            obtain ⟨l, gl, rfl⟩ := map_get hy'
            have li := (List.getElem?_eq_some_iff.mp gl).1
            have ll := hl2 l (List.mem_of_getElem? gl)
            have et : (z :: r).take (i + 1) = (z :: r).take i ++ [l] := by rw [List.take_add_one, gl]; rfl
            rw [List.length_cons] at li
            refine ⟨rfl, _, rfl, ⟨_, rfl⟩, _, _, rfl, rfl, by decide +kernel, by rw [lS]; omega, fun p2 np2 => ?_⟩
            rw [spl]
            refine ⟨p2, cutAt 46 l, rfl, upd_same, pts l (List.mem_cons_of_mem _ (List.mem_of_getElem? gl)), fun H6 s6 => ⟨_, rfl, ?_⟩⟩
            have s56 := same_trans (same_new np2) s6
            rw [vx_some]
            cases hv : (readVx l).isSome with
            | false =>
              refine iteT ⟨_, rfl, acc, s56 _ _ eD, by omega, same_upd nD (same_trans s5 s56), _, upd_same, by rw [List.length_append]; show acc.length + 1 ≤ _; omega, ⟨fun z => absurd (List.append_eq_nil_iff.mp z).2 (by simp), fun z => ?_⟩⟩
              have := z l (by rw [et]; simp)
              rw [hv] at this
              cases this
            | true =>
              refine iteF ⟨same_trans s5 s56, acc, s56 _ _ eD, by omega, ?_⟩
              rw [ea, et]
              refine ⟨fun z m hm => ?_, fun z m hm => z m (List.mem_append_left _ hm)⟩
              rcases List.mem_append.mp hm with y | y
              · exact z m y
              · rw [List.mem_singleton.mp y]
                exact hv
          · rintro H5 ⟨s5, acc, eD, la, ea⟩
            rw [lzr, List.take_length] at ea
            have s05 := same_trans s03 s5
            have ha5 := s05 _ _ ha
            refine ⟨_, rfl, a, _, rfl, .inl (SqL.of ha5), rfl, _, rfl, ite2 (fun h1 => ?_) (fun h1 => no s05 ?_)⟩
            · have h1 : r.length = 1 := by have := V.int.inj (of_decide_eq_true h1); rw [List.length_cons, List.length_cons] at lxr; omega
              obtain ⟨u, rfl⟩ : ∃ u, r = [u] := List.length_eq_one_iff.mp h1
              have er := eOrder y z u
              refine ⟨_, rfl, D, acc, rfl, .inl (SqL.of eD), rfl, _, rfl, ite2 (fun h2 => ?_) (fun h2 => no s05 ?_)⟩
              · have e0 : acc = [] := List.eq_nil_of_length_eq_zero (by have := V.int.inj (of_decide_eq_true h2); omega)
                have hs := ea.mp e0
                have hz := hs z (by simp)
                have hu' := hs u (by simp)
                refine ⟨_, rfl, a, _, _, _, rfl, rfl, SqL.of ha5, atI_nat (j := 2) rfl, _, rfl, a, _, _, _, rfl, rfl, SqL.of ha5, atI_nat (j := 3) rfl, rfl, q _ _ ?_ s05⟩
                rw [er, Bool.not_eq_true', decide_eq_false_iff_not]
                obtain ⟨vz, ez⟩ := Option.isSome_iff_exists.mp hz
                obtain ⟨vu, eu⟩ := Option.isSome_iff_exists.mp hu'
                refine ⟨fun k => ⟨hy, hz, hu', fun e => k ?_⟩, fun k e => k.2.2.2 (by rw [sg_inj (V.str.inj e)])⟩
                rw [ez, eu] at e
                rw [← (readVx_back ez).2, ← (readVx_back eu).2, Option.some.inj e]
              · rw [er]
                intro k
                refine h2 (decide_eq_true (congrArg V.int ?_))
                rw [ea.mpr fun l hl' => ?_]
                · rfl
                · simp only [List.mem_cons, List.not_mem_nil, or_false] at hl'
                  rcases hl' with rfl | rfl
                  · exact k.2.1
                  · exact k.2.2.1
            · refine rc_other hab (fun k => hdc k.1) (fun k => hm k.1) (fun k => h1 (decide_eq_true (congrArg V.int ?_))) (fun k => absurd k.1 (by decide))
              have := k.2
              rw [List.length_cons, List.length_cons] at lxr this
              omega
        rw [kw_dec kw_order] at ho
        have ho : ¬ x = wOrder := of_decide_eq_false (Bool.eq_false_iff.mpr ho)
        refine ⟨_, rfl, rfl, _, rfl, ite2 (fun hk => no s02 ?_) (fun hk => ?_)⟩
        · rw [kw_dec kw_lines] at hk
          have hk : ¬ x = wLines := fun z => by rw [decide_eq_true z] at hk; cases hk
          exact rc_other hab (fun k => hdc k.1) (fun k => hm k.1) (fun k => ho k.1) (fun k => hk k.1)
        rw [kw_dec kw_lines] at hk
        have hk : x = wLines := of_decide_eq_true (is_it hk)
        subst hk
        refine ⟨_, rfl, a, _, rfl, .inl (SqL.of ha2), rfl, _, rfl, ite2 (fun h1 => no s02 ?_) (fun h1 => ?_)⟩
        · refine rc_other hab (fun k => hdc k.1) (fun k => hm k.1) (fun k => ho k.1) (fun k => ?_)
          have := k.2
          rw [List.length_cons, List.length_cons] at lxr this
          rw [decide_eq_true (congrArg V.int (show (((strV (wLines :: y :: z :: r)).length : Nat) : Int) = 5 by omega))] at h1
          cases h1
        have h1 := V.int.inj (of_decide_eq_true (is_it h1))
        obtain ⟨u, o, rfl⟩ : ∃ u o, r = [u, o] := two_of (by rw [List.length_cons, List.length_cons] at lxr; omega)
        have lu := hl u (by simp)
        have lo := hl o (by simp)
        have er := eLines y z u o
        refine ⟨_, rfl, a, _, _, _, rfl, rfl, SqL.of ha2, atI_nat (j := 2) rfl, z, 0, 12, rfl, by decide, lz, fun b3 H3 hb3 s3 => ⟨_, rfl, ite2 (fun h2 => ?_) (fun h2 => ?_)⟩⟩
        · refine no (same_trans s02 s3) ?_
          rw [er]
          exact fun k => not_it h2 (hb3.mpr k.2.1)
        have s03 := same_trans s02 s3
        refine ⟨_, rfl, a, _, _, _, rfl, rfl, SqL.of (s03 _ _ ha), atI_nat (j := 3) rfl, u, 0, 12, rfl, by decide, lu, fun b4 H4 hb4 s4 => ⟨_, rfl, ite2 (fun h3 => ?_) (fun h3 => ?_)⟩⟩
        · refine no (same_trans s03 s4) ?_
          rw [er]
          exact fun k => not_it h3 (hb4.mpr k.2.2.1)
        have s04 := same_trans s03 s4
        refine ⟨_, rfl, a, _, _, _, rfl, rfl, SqL.of (s04 _ _ ha), atI_nat (j := 4) rfl, Sg o, 1, 200, rfl, by rw [lS]; omega, by decide, fun H5 s5 => q _ _ ?_ (same_trans s04 s5)⟩
        rw [er, show tl (Sg o) = o from rfl, num_fits]
        exact ⟨fun k => ⟨hy, hb3.mp (is_it h2), hb4.mp (is_it h3), k⟩, fun k => k.2.2.2⟩
end
end K20
namespace K20
open PySem PySem.Spec PyProof.Rows L2 TL TR QR
open GxR (TabB TabG Tabbed)
open PySem.W (EachIs)
abbrev sLT : Stmt := topS 68
abbrev nLT : List Str := ["text", "char"]
theorem scLT : FnScope nLT ["text"] (defScope sLT) := ⟨rfl, rfl, rfl, by decide +kernel, rfl, by decide +kernel, by decide +kernel⟩
abbrev sFA : Stmt := topS 69
abbrev nFA : List Str := ["lines", "wants", "left", "count", "ends", "k", "line", "words"]
theorem scFA : FnScope nFA ["lines"] (defScope sFA) := ⟨rfl, rfl, rfl, by decide +kernel, rfl, by decide +kernel, by decide +kernel⟩
theorem tx_flt (t : List Nat) : ((t.filter fun c => !decide (32 ≤ c ∧ c ≤ 126)).length = 0) ↔ ∀ c ∈ t, 32 ≤ c ∧ c ≤ 126 := by
  rw [List.length_eq_zero_iff, List.filter_eq_nil_iff]
  refine forall_congr' fun c => imp_congr_right fun _ => ?_
  rw [Bool.not_eq_true', decide_eq_false_iff_not]
  exact Classical.not_not
/-- what the next line is to be -/
inductive Wt where
  | patch
  | note
  | chg (lf n : Nat)
noncomputable def stepW : Wt → List Nat → Option Wt
  | .patch, l => if (patLine l).isSome = true then some .note else none
  | .note, l => if (noteLine l).isSome = true then some (.chg 0 0) else none
  | .chg (k + 1) n, l => if (txLine l).isSome = true then some (.chg k n) else none
  | .chg 0 n, l => if l = wEnd ∧ 0 < n then some .patch else if n = 12 then none else match chgOf l with
    | none => none
    | some c => some (.chg (left c) (n + 1))
def isEnd : Wt → Bool
  | .patch => true
  | _ => false
noncomputable def runW : Wt → Nat → Path → Option Nat × List Nat
  | w, k, [] => (if isEnd w = true then none else some k, [])
  | w, k, l :: ls => match stepW w l with
    | none => (some k, [])
    | some w' => ((runW w' (k + 1) ls).1, if isEnd w' = true then (k + 1) :: (runW w' (k + 1) ls).2 else (runW w' (k + 1) ls).2)
theorem runW_bad {w : Wt} {k : Nat} {l : List Nat} {ls : Path} (h : stepW w l = none) : runW w k (l :: ls) = (some k, []) := by
  show (match stepW w l with | none => _ | some w' => _) = _
  rw [h]
theorem runW_go {w w' : Wt} {k : Nat} {l : List Nat} {ls : Path} (h : stepW w l = some w') : runW w k (l :: ls) = ((runW w' (k + 1) ls).1, if isEnd w' = true then (k + 1) :: (runW w' (k + 1) ls).2 else (runW w' (k + 1) ls).2) := by
  show (match stepW w l with | none => _ | some w' => _) = _
  rw [h]
def natO : Option Nat → V
  | none => .non
  | some n => .int (n : Int)
/-- the names of the state -/
def WtAt : Wt → V → V → V → Prop
  | .patch, a, b, c => a = .str "patch" ∧ b = .int 0 ∧ ∃ n : Nat, c = .int (n : Int)
  | .note, a, b, c => a = .str "note" ∧ b = .int 0 ∧ ∃ n : Nat, c = .int (n : Int)
  | .chg lf n, a, b, c => a = .str "change" ∧ b = .int (lf : Int) ∧ c = .int (n : Int)
def EsAt (H : Hp) (v : V) (es : List Nat) : Prop := ∃ D, v = .ref D ∧ H D = some (.lst (es.map fun k : Nat => V.int (k : Int)))
theorem pat_iff (l : List Nat) : (patLine l).isSome = true ↔ l.take 6 = wPatch ∧ (readNm (l.drop 6)).isSome = true := by
  unfold patLine
  by_cases h : l.take 6 = wPatch
  · rw [if_pos h]
    exact ⟨fun z => ⟨h, z⟩, fun z => z.2⟩
  · rw [if_neg h]
    exact ⟨(fun z => nomatch z), fun z => absurd z.1 h⟩
theorem note_iff (l : List Nat) : (noteLine l).isSome = true ↔ l.take 5 = wNote ∧ okTx (l.drop 5) := by
  unfold noteLine
  by_cases h : l.take 5 = wNote ∧ okTx (l.drop 5)
  · rw [if_pos h]
    exact ⟨fun _ => h, fun _ => rfl⟩
  · rw [if_neg h]
    exact ⟨(fun z => nomatch z), fun z => absurd z h⟩
theorem tx_iff (l : List Nat) : (txLine l).isSome = true ↔ l.take 1 = [124] ∧ okTx (l.drop 1) := by
  cases l with
  | nil => exact ⟨(fun z => nomatch z), fun z => nomatch z.1⟩
  | cons c t =>
    show (if c = 124 ∧ okTx t then some t else none).isSome = true ↔ [c] = [124] ∧ okTx t
    by_cases h : c = 124 ∧ okTx t
    · rw [if_pos h]
      exact ⟨fun _ => ⟨by rw [h.1], h.2⟩, fun _ => rfl⟩
    · rw [if_neg h]
      exact ⟨(fun z => nomatch z), fun z => absurd ⟨(List.cons.inj z.1).1, z.2⟩ h⟩
theorem ne_dec {w l : List Nat} {x : Str} (e : V.str (Sg l) = V.str x) : (!decide (V.str (Sg w) = V.str x)) = decide (w ≠ l) := by
  rw [kw_dec e, decide_not]
theorem kw_patch : V.str (Sg wPatch) = V.str "patch " := congrArg V.str (by decide +kernel)
theorem kw_note : V.str (Sg wNote) = V.str "note " := congrArg V.str (by decide +kernel)
theorem kw_bar : V.str (Sg [124]) = V.str "|" := congrArg V.str (by decide +kernel)
theorem kw_end : V.str (Sg wEnd) = V.str "end" := congrArg V.str (by decide +kernel)
theorem stepP (l : List Nat) : stepW .patch l = if (patLine l).isSome = true then some .note else none := rfl
theorem stepN (l : List Nat) : stepW .note l = if (noteLine l).isSome = true then some (.chg 0 0) else none := rfl
theorem stepT (k n : Nat) (l : List Nat) : stepW (.chg (k + 1) n) l = if (txLine l).isSome = true then some (.chg k n) else none := rfl
theorem stepC (n : Nat) (l : List Nat) : stepW (.chg 0 n) l = if l = wEnd ∧ 0 < n then some .patch else if n = 12 then none else match chgOf l with
    | none => none
    | some c => some (.chg (left c) (n + 1)) := rfl
section
variable {P : Program} {w : World} {K : PySem.W.Frag} {mg : Str → Option Value} {base : Heap}
def spLT : Sp := fun vs H Q _ => ∃ (t : List Nat), vs = [.str (Sg t)] ∧ t.length ≤ 100000 ∧ ∀ H', Same H H' → Q (.bl (decide (okTx t))) H'
theorem ok_LT {f : Addr} {fd : FuncData} (F : Fun K "_law_is_text" "_law_is_text" sLT f fd)
    (m_len : mg "len" = none) : FnOk P w K mg base CX0 1 f fd ["text"] spLT := by
  refine F.ok scLT (fun vs H Q E h => ?_) (fun cdv A outer s H vs Q E hr h => ?_)
  · obtain ⟨x, rfl, _⟩ := h
    rfl
  · obtain ⟨t, rfl, lt, q⟩ := h
    have hu := hr.units
    have hu1 := hu_of hr
    have zl := zl
    refine ⟨_, (pss_one (ps_ret (pe_and (pe_cmpR op_le (pe_callB call_len_str (by rfl) m_len PySem.boot_len (pa_cons (pv 0) pa_nil)) (pe_int) (nomark _)) (pe_one (pe_cmpR op_eq (pe_callB call_len_seq (by rfl) m_len PySem.boot_len (pa_cons (pe_lc (own := [("char", 1)]) (g := gName 1) (tt := _) (te := tVar 1) rfl scLT.nd (pi_str (pv 0)) (blkOk_by (N := nLT) (sc := defScope sLT) (by decide +kernel)) (fun _ _ _ _ _ => by exact pg_name (i := 1) scLT.nd rfl (.inl rfl)) (fun _ _ _ _ _ => by exact pts_one (pt_not (pt_chain op_le_str op_le_str (pe_str) (pv 1) (pe_str)))) (fun _ _ _ _ _ => by exact pv 1)) pa_nil)) (pe_int) (nomark _)))))), ?_⟩
    have lS : (Sg t).length = t.length := rfl
    refine ⟨_, rfl, Sg t, rfl, by omega, _, _, rfl, rfl, _, rfl, ite2 (fun h1 => ?_) (fun h1 => ?_)⟩
    · have h1 : t.length ≤ 40 := by have := of_decide_eq_true h1; omega
      refine ⟨_, rfl, Sg t, rfl, fun D2 nD2 => lc_flt (fun c => !decide (32 ≤ c ∧ c ≤ 126)) nD2 (by omega) (fun c H' Z N hy hn => ⟨rfl, _, rfl, _, _, rfl, rfl, _, rfl, ?_⟩) fun H6 s6 eD2 => ?_⟩
      · rw [sp_le]
        refine ite2 (fun h2 => ⟨_, _, rfl, rfl, _, rfl, ?_⟩) (fun h2 => ?_)
        · have h2 := of_decide_eq_true h2
          rw [le_ti]
          by_cases h3 : c ≤ 126
          · rw [decide_eq_true h3]
            exact iteF (hn (by rw [decide_eq_true ⟨h2, h3⟩]; rfl))
          · rw [decide_eq_false h3]
            exact iteT ⟨_, rfl, hy (by rw [decide_eq_false fun z => h3 z.2]; rfl)⟩
        · have h2 : ¬ 32 ≤ c := fun z => h2 (decide_eq_true z)
          exact ⟨_, rfl, iteT ⟨_, rfl, hy (by rw [decide_eq_false fun z => h2 z.1]; rfl)⟩⟩
      · refine ⟨D2, _, rfl, .inl (SqL.of eD2), rfl, ?_⟩
        have := q H6 s6
        have e : decide (okTx t) = decide (V.int (((((tl (Sg t)).filter fun c => !decide (32 ≤ c ∧ c ≤ 126)).map fun c => V.str ⟨#[c]⟩).length : Nat) : Int) = V.int 0) := by
          rw [List.length_map]
          refine decide_eq_decide.mpr ?_
          constructor
          · intro ok
            exact congrArg V.int (by rw [(tx_flt t).mpr ok.2]; rfl)
          · intro z
            have z := V.int.inj z
            exact ⟨h1, (tx_flt t).mp (Int.ofNat_eq_zero.mp z)⟩
        rw [e] at this
        exact this
    · have := q H same_refl
      rwa [decide_eq_false fun ok => h1 (decide_eq_true (by have := ok.1; omega))] at this
def spFA : Sp := fun vs H Q _ => ∃ (a : Addr) (ls : Path), vs = [.ref a] ∧ LsAt H a ls ∧ ∀ H' t v, Same H H' → H' t = some (.tup [natO (runW .patch 0 ls).1, v]) → EsAt H' v (runW .patch 0 ls).2 → Q (.ref t) H'
theorem ok_FA {f fHI fLT fCF : Addr} {fd fdHI fdLT fdCF : FuncData} (F : Fun K "_law_fault" "_law_fault" sFA f fd)
    (GHI : FnOk P w K mg base CX0 2 fHI fdHI ["parts"] spHI) (bHI : Binds K fdHI ["parts"] []) (gHI : mg "_law_is_id" = some (.ref fHI)) (kHI : PySem.W.keepIn K (.ref fHI) = true)
    (GLT : FnOk P w K mg base CX0 1 fLT fdLT ["text"] spLT) (bLT : Binds K fdLT ["text"] []) (gLT : mg "_law_is_text" = some (.ref fLT)) (kLT : PySem.W.keepIn K (.ref fLT) = true)
    (GCF : FnOk P w K mg base CX0 5 fCF fdCF ["words"] spCF) (bCF : Binds K fdCF ["words"] []) (gCF : mg "_law_change_fits" = some (.ref fCF)) (kCF : PySem.W.keepIn K (.ref fCF) = true)
    (m_len : mg "len" = none) (m_range : mg "range" = none) (m_int : mg "int" = none) : FnOk P w K mg base CX0 6 f fd ["lines"] spFA := by
  refine F.ok scFA (fun vs H Q E h => ?_) (fun cdv A outer s H vs Q E hr h => ?_)
  · obtain ⟨a, ls, rfl, _⟩ := h
    rfl
  · obtain ⟨a, ls, rfl, hL, q⟩ := h
    have hu := hr.units
    have hu1 := hu_of hr
    have hr1 : Room 1 _ := hr.mono (by decide)
    have hr2 : Room 2 _ := hr.mono (by decide)
    have hr3 : Room 3 _ := hr.mono (by decide)
    have hr4 : Room 4 _ := hr.mono (by decide)
    have hr5 : Room 5 _ := hr.mono (by decide)
    have zl := zl
    refine ⟨_, (pss_cons (ps_set (i := 1) scFA.nd rfl (.inl rfl) (pe_str))
      (pss_cons (ps_set (i := 2) scFA.nd rfl (.inl rfl) (pe_int))
      (pss_cons (ps_set (i := 3) scFA.nd rfl (.inl rfl) (pe_int))
      (pss_cons (ps_set (i := 4) scFA.nd rfl (.inl rfl) (pe_lst (pa_nil)))
      (pss_cons (ps_for PassesOwn.never rfl (pi_range1 (by rfl) m_range (pa_cons (pe_callB call_len_seq (by rfl) m_len PySem.boot_len (pa_cons (pv 0) pa_nil)) pa_nil)) (pg_name (i := 5) scFA.nd rfl (.inl rfl))
      (pss_cons (ps_set (i := 6) scFA.nd rfl (.inl rfl) (pe_ix ix_list (pv 0) (pv 5) (fun _ _ => rfl)))
      (pss_one (ps_if (pt_cmpR op_eq (pv 1) (pe_str) (nomark _))
      (pss_cons (ps_if (PW.pt (pw_or (pt_cmpR op_ne (pe_slice sl_str (pv 6) (po_none) (po_some (pe_int))) (pe_str) (nomark _)) (pw_or1 (pt_not (pt_val (pe_call GHI hr2 (by rfl) gHI kHI bHI .nil pass0 (pa_cons (pe_split (pe_slice sl_str (pv 6) (po_some (pe_int)) (po_none)) (pe_str)) pa_nil)))))))
      (pss_one (ps_ret (pe_tup (pa_cons (pv 5) (pa_cons (pv 4) pa_nil))))) pss_nil)
      (pss_one (ps_set (i := 1) scFA.nd rfl (.inl rfl) (pe_str)))) (pss_one (ps_if (pt_cmpR op_eq (pv 1) (pe_str) (nomark _))
      (pss_cons (ps_if (PW.pt (pw_or (pt_cmpR op_ne (pe_slice sl_str (pv 6) (po_none) (po_some (pe_int))) (pe_str) (nomark _)) (pw_or1 (pt_not (pt_val (pe_call GLT hr1 (by rfl) gLT kLT bLT .nil pass0 (pa_cons (pe_slice sl_str (pv 6) (po_some (pe_int)) (po_none)) pa_nil)))))))
      (pss_one (ps_ret (pe_tup (pa_cons (pv 5) (pa_cons (pv 4) pa_nil))))) pss_nil)
      (pss_cons (ps_set (i := 1) scFA.nd rfl (.inl rfl) (pe_str))
      (pss_one (ps_set (i := 3) scFA.nd rfl (.inl rfl) (pe_int))))) (pss_one (ps_if (pt_cmpR op_gt (pv 2) (pe_int) (nomark _))
      (pss_cons (ps_if (PW.pt (pw_or (pt_cmpR op_ne (pe_slice sl_str (pv 6) (po_none) (po_some (pe_int))) (pe_str) (nomark _)) (pw_or1 (pt_not (pt_val (pe_call GLT hr1 (by rfl) gLT kLT bLT .nil pass0 (pa_cons (pe_slice sl_str (pv 6) (po_some (pe_int)) (po_none)) pa_nil)))))))
      (pss_one (ps_ret (pe_tup (pa_cons (pv 5) (pa_cons (pv 4) pa_nil))))) pss_nil)
      (pss_one (ps_set (i := 2) scFA.nd rfl (.inl rfl) (pe_op op_sub (pv 2) (pe_int))))) (pss_one (ps_if (PW.pt (pw_and (pt_cmpR op_eq (pv 6) (pe_str) (nomark _)) (pw_and1 (pt_cmpR op_gt (pv 3) (pe_int) (nomark _)))))
      (pss_cons (ps_set (i := 1) scFA.nd rfl (.inl rfl) (pe_str))
      (pss_one (ps_expr (pe_bm PySem.F.plainAttrs_list PySem.F.slot_list_append PySem.F.type_list_append mt_append (pv 4) (pa_cons (pe_op op_add (pv 5) (pe_int)) pa_nil))))) (pss_cons (ps_set (i := 7) scFA.nd rfl (.inl rfl) (pe_split (pv 6) (pe_str)))
      (pss_cons (ps_if (PW.pt (pw_or (pt_cmpR op_eq (pv 3) (pe_int) (nomark _)) (pw_or1 (pt_not (pt_val (pe_call GCF hr5 (by rfl) gCF kCF bCF .nil pass0 (pa_cons (pv 7) pa_nil)))))))
      (pss_one (ps_ret (pe_tup (pa_cons (pv 5) (pa_cons (pv 4) pa_nil))))) pss_nil)
      (pss_cons (ps_set (i := 3) scFA.nd rfl (.inl rfl) (pe_op op_add (pv 3) (pe_int)))
      (pss_one (ps_if (pt_cmpR op_eq (pe_ix ix_list (pv 7) (pe_int) (fun _ _ => rfl)) (pe_str) (nomark _))
      (pss_one (ps_set (i := 2) scFA.nd rfl (.inl rfl) (pe_callTy call_int_str (by rfl) m_int (by decide +kernel) (pa_cons (pe_ix ix_list (pv 7) (pe_int) (fun _ _ => rfl)) pa_nil)))) pss_nil)))))))))))))))
      (pss_one (ps_ret (pe_tup (pa_cons (pe_ifExp (pt_cmpR op_eq (pv 1) (pe_str) (nomark _)) (pe_non) (pe_callB call_len_seq (by rfl) m_len PySem.boot_len (pa_cons (pv 0) pa_nil))) (pa_cons (pv 4) pa_nil)))))))))), ?_⟩
    have lS : ∀ l : List Nat, (Sg l).length = l.length := fun l => rfl
    have lls : (strV ls).length = ls.length := List.length_map _
    have nl2 := hL.len
    refine ⟨by show 0 ≤ sizeLine; omega, fun D nD => ?_⟩
    dsimp only [tNext, tSeq, tIfS, tAsg, gName, tC]
    have eA : H a = some (.lst (strV ls)) := hL.at_
    have rets : ∀ (k : Nat) (W : Wt) (es : List Nat) (l : List Nat) (H' : Hp) (t : Addr), stepW W l = none → ls.drop k = l :: ls.drop (k + 1) → runW .patch 0 ls = ((runW W k (ls.drop k)).1, es ++ (runW W k (ls.drop k)).2) → Same H H' → H' D = some (.lst (es.map fun k : Nat => V.int (k : Int))) → H' t = none → Q (.ref t) (upd H' t (.tup [.int (k : Int), .ref D])) := by
      intro k W es l H' t h0 hd er s' eD nt
      rw [hd, runW_bad h0] at er
      have er : runW .patch 0 ls = (some k, es ++ []) := er
      rw [List.append_nil] at er
      refine q _ t (.ref D) (same_trans s' (same_new nt)) ?_ ?_
      · rw [er]
        exact upd_same
      · rw [er]
        exact ⟨D, rfl, same_new nt _ _ eD⟩
    have adv : ∀ (k : Nat) (W W' : Wt) (es : List Nat) (l : List Nat), stepW W l = some W' → ls.drop k = l :: ls.drop (k + 1) → runW .patch 0 ls = ((runW W k (ls.drop k)).1, es ++ (runW W k (ls.drop k)).2) → runW .patch 0 ls = ((runW W' (k + 1) (ls.drop (k + 1))).1, (if isEnd W' = true then es ++ [k + 1] else es) ++ (runW W' (k + 1) (ls.drop (k + 1))).2) := by
      intro k W W' es l h0 hd er
      rw [er, hd, runW_go h0]
      cases isEnd W' with
      | true => simp
      | false => simp
    refine ⟨_, rfl, a, _, rfl, .inl (SqL.of (same_new nD _ _ eA)), _, rfl, by omega, by omega, for_range (lo := 0) (n := (((strV ls).length : Nat) : Int).toNat) (fun k σ H' => ∃ (W : Wt) (es : List Nat) (vw vl vc : V) (y5 y6 y7 : Option V), σ = [some (.ref a), some vw, some vl, some vc, some (.ref D), y5, y6, y7] ∧ WtAt W vw vl vc ∧ Same H H' ∧ H' D = some (.lst (es.map fun k : Nat => V.int (k : Int))) ∧ es.length ≤ k ∧
      runW .patch 0 ls = ((runW W k (ls.drop k)).1, es ++ (runW W k (ls.drop k)).2)) ⟨.patch, [], _, _, _, none, none, none, rfl, ⟨rfl, rfl, 0, rfl⟩, same_new nD, upd_same, Nat.le_refl _, rfl⟩ ?_ ?_⟩
    rotate_left
    · rintro σ H' ⟨W, es, vw, vl, vc, y5, y6, y7, rfl, hW, s', eD, le, er⟩
      rw [Int.toNat_natCast, lls, List.drop_length] at er
      have er : runW .patch 0 ls = ((if isEnd W = true then none else some ls.length), es ++ []) := er
      rw [List.append_nil] at er
      have fin : ∀ v, v = natO (if isEnd W = true then none else some ls.length) → tTup (tCons (fun _ H Q => Q v H) (tCons (tVar 4) tNil)) [some (.ref a), some vw, some vl, some vc, some (.ref D), y5, y6, y7] H' Q := by
        rintro v rfl
        refine ⟨_, rfl, by show 2 ≤ sizeLine; omega, fun t nt => q _ t (.ref D) (same_trans s' (same_new nt)) ?_ ?_⟩
        · rw [er]
          exact upd_same
        · rw [er]
          exact ⟨D, rfl, same_new nt _ _ eD⟩
      cases W with
      | patch =>
        obtain ⟨rfl, rfl, n, rfl⟩ := hW
        refine ⟨_, rfl, rfl, _, rfl, yes_if (decide_eq_true rfl) ?_⟩
        exact fin _ rfl
      | note =>
        obtain ⟨rfl, rfl, n, rfl⟩ := hW
        refine ⟨_, rfl, rfl, _, rfl, no_if (by rw [decide_eq_true_eq]; exact fun z => absurd (V.str.inj z) (by decide +kernel)) ?_⟩
        refine ⟨_, rfl, a, _, rfl, .inl (SqL.of (s' _ _ eA)), ?_⟩
        exact fin _ (congrArg V.int (by rw [lls]))
      | chg lf n =>
        obtain ⟨rfl, rfl, rfl⟩ := hW
        refine ⟨_, rfl, rfl, _, rfl, no_if (by rw [decide_eq_true_eq]; exact fun z => absurd (V.str.inj z) (by decide +kernel)) ?_⟩
        refine ⟨_, rfl, a, _, rfl, .inl (SqL.of (s' _ _ eA)), ?_⟩
        exact fin _ (congrArg V.int (by rw [lls]))
    rintro k σ H' hk ⟨W, es, vw, vl, vc, y5, y6, y7, rfl, hW, s', eD, le, er⟩
    rw [Int.toNat_natCast, lls] at hk
    obtain ⟨l, hl⟩ : ∃ l, ls[k]? = some l := ⟨_, List.getElem?_eq_getElem hk⟩
    have hd := drop_cons hl
    have ll := hL.ll l (List.mem_of_getElem? hl)
    have lSl : (Sg l).length = l.length := rfl
    have eL := s' _ _ eA
    rw [show (0 : Int) + (k : Int) = (k : Int) from Int.zero_add _]
    refine ⟨_, rfl, _, rfl, a, _, _, _, rfl, rfl, SqL.of eL, atI_nat (get_map _ hl), ?_⟩
    cases W with
    | patch =>
      obtain ⟨rfl, rfl, n, rfl⟩ := hW
      refine ⟨_, rfl, rfl, _, rfl, yes_if (decide_eq_true rfl) ?_⟩
      try dsimp only [tNext, tSeq, tIfS, tAsg, gName, tC]
      refine or_dec (p := l.take 6 ≠ wPatch) (q := ¬ (readNm (l.drop 6)).isSome = true) (fun R k => ⟨_, rfl, 6, rfl, Sg l, rfl, by omega, rfl, _, rfl, to_dec ?_ (k _ same_refl)⟩) (fun _ H1 s1 R k => ⟨_, rfl, 6, rfl, Sg l, rfl, by omega, ⟨_, rfl⟩, _, _, rfl, rfl, by decide +kernel, ?_, fun p np => ?_⟩) fun H1 s1 => ite2 (fun h => ?_) (fun h => ?_)
      · rw [show cutS (Sg l) none (some 6) = Sg (l.take 6) from cutS_to _ 6]
        exact ne_dec kw_patch
      · rw [show cutS (Sg l) (some 6) none = Sg (l.drop 6) from cutS_from _ 6, lS, List.length_drop]
        omega
      · rw [show cutS (Sg l) (some 6) none = Sg (l.drop 6) from cutS_from _ 6, show Str.ofString "." = ⟨#[46]⟩ by decide +kernel, split_words]
        refine ⟨p, cutAt 46 (l.drop 6), rfl, upd_same, fun t ht => ?_, fun H2 s2 => ⟨_, rfl, to_dec ?_ (k _ (same_trans (same_new np) s2))⟩⟩
        · have := (cut_len 46 (l.drop 6)).2 t ht
          rw [List.length_drop] at this
          omega
        · rw [id_some]
          cases (readNm (l.drop 6)).isSome <;> rfl
      · have s'1 := same_trans s' s1
        refine ⟨_, rfl, _, rfl, by show 2 ≤ sizeLine; omega, fun t nt => rets k .patch es l H1 t ?_ hd er s'1 (s1 _ _ eD) nt⟩
        rw [stepP, if_neg fun z => ?_]
        have z := (pat_iff l).mp z
        rcases @of_decide_eq_true _ _ h with y | y
        · exact y z.1
        · exact y z.2
      · have h' := @of_decide_eq_false _ _ (Bool.eq_false_iff.mpr h)
        refine ⟨.note, es, _, _, _, _, _, _, rfl, ⟨rfl, rfl, n, rfl⟩, same_trans s' s1, s1 _ _ eD, by omega, adv k .patch .note es l ?_ hd er⟩
        rw [stepP, if_pos ((pat_iff l).mpr ⟨Classical.byContradiction fun z => h' (.inl z), Classical.byContradiction fun z => h' (.inr z)⟩)]
    | note =>
      obtain ⟨rfl, rfl, n, rfl⟩ := hW
      refine ⟨_, rfl, rfl, _, rfl, no_if (by rw [decide_eq_true_eq]; exact fun z => absurd (V.str.inj z) (by decide +kernel)) ⟨_, rfl, rfl, _, rfl, yes_if (decide_eq_true rfl) ?_⟩⟩
      try dsimp only [tNext, tSeq, tIfS, tAsg, gName, tC]
      refine or_dec (p := l.take 5 ≠ wNote) (q := ¬ okTx (l.drop 5)) (fun R k => ⟨_, rfl, 5, rfl, Sg l, rfl, by omega, rfl, _, rfl, to_dec ?_ (k _ same_refl)⟩) (fun _ H1 s1 R k => ⟨_, rfl, 5, rfl, Sg l, rfl, by omega, l.drop 5, congrArg (fun z => [V.str z]) (cutS_from _ 5), by rw [List.length_drop]; omega, fun H2 s2 => ⟨_, rfl, to_dec ?_ (k _ s2)⟩⟩) fun H1 s1 => ite2 (fun h => ?_) (fun h => ?_)
      · rw [show cutS (Sg l) none (some 5) = Sg (l.take 5) from cutS_to _ 5]
        exact ne_dec kw_note
      · rw [decide_not]
      · have s'1 := same_trans s' s1
        refine ⟨_, rfl, _, rfl, by show 2 ≤ sizeLine; omega, fun t nt => rets k .note es l H1 t ?_ hd er s'1 (s1 _ _ eD) nt⟩
        rw [stepN, if_neg fun z => ?_]
        have z := (note_iff l).mp z
        rcases @of_decide_eq_true _ _ h with y | y
        · exact y z.1
        · exact y z.2
      · have h' := @of_decide_eq_false _ _ (Bool.eq_false_iff.mpr h)
        refine ⟨.chg 0 0, es, _, _, _, _, _, _, rfl, ⟨rfl, rfl, rfl⟩, same_trans s' s1, s1 _ _ eD, by omega, adv k .note (.chg 0 0) es l ?_ hd er⟩
        rw [stepN, if_pos ((note_iff l).mpr ⟨Classical.byContradiction fun z => h' (.inl z), Classical.byContradiction fun z => h' (.inr z)⟩)]
    | chg lf n =>
      obtain ⟨rfl, rfl, rfl⟩ := hW
      refine ⟨_, rfl, rfl, _, rfl, no_if (by rw [decide_eq_true_eq]; exact fun z => absurd (V.str.inj z) (by decide +kernel)) ⟨_, rfl, rfl, _, rfl, no_if (by rw [decide_eq_true_eq]; exact fun z => absurd (V.str.inj z) (by decide +kernel)) ?_⟩⟩
      cases lf with
      | succ lf =>
        refine ⟨_, rfl, _, _, rfl, rfl, _, rfl, yes_if (decide_eq_true (by omega)) ?_⟩
        try dsimp only [tNext, tSeq, tIfS, tAsg, gName, tC]
        refine or_dec (p := l.take 1 ≠ [124]) (q := ¬ okTx (l.drop 1)) (fun R k => ⟨_, rfl, 1, rfl, Sg l, rfl, by omega, rfl, _, rfl, to_dec ?_ (k _ same_refl)⟩) (fun _ H1 s1 R k => ⟨_, rfl, 1, rfl, Sg l, rfl, by omega, l.drop 1, congrArg (fun z => [V.str z]) (cutS_from _ 1), by rw [List.length_drop]; omega, fun H2 s2 => ⟨_, rfl, to_dec ?_ (k _ s2)⟩⟩) fun H1 s1 => ite2 (fun h => ?_) (fun h => ?_)
        · rw [show cutS (Sg l) none (some 1) = Sg (l.take 1) from cutS_to _ 1]
          exact ne_dec kw_bar
        · rw [decide_not]
        · have s'1 := same_trans s' s1
          refine ⟨_, rfl, _, rfl, by show 2 ≤ sizeLine; omega, fun t nt => rets k (.chg (lf + 1) n) es l H1 t ?_ hd er s'1 (s1 _ _ eD) nt⟩
          rw [stepT, if_neg fun z => ?_]
          have z := (tx_iff l).mp z
          rcases @of_decide_eq_true _ _ h with y | y
          · exact y z.1
          · exact y z.2
        · have h' := @of_decide_eq_false _ _ (Bool.eq_false_iff.mpr h)
          refine ⟨_, rfl, _, _, rfl, rfl, .chg lf n, es, _, _, _, _, _, _, rfl, ⟨rfl, congrArg V.int (by omega), rfl⟩, same_trans s' s1, s1 _ _ eD, by omega, adv k (.chg (lf + 1) n) (.chg lf n) es l ?_ hd er⟩
          rw [stepT, if_pos ((tx_iff l).mpr ⟨Classical.byContradiction fun z => h' (.inl z), Classical.byContradiction fun z => h' (.inr z)⟩)]
      | zero =>
        refine ⟨_, rfl, _, _, rfl, rfl, _, rfl, no_if (by decide) ?_⟩
        try dsimp only [tNext, tSeq, tIfS, tAsg, gName, tC]
        refine and_dec (p := l = wEnd) (q := 0 < n) (fun R kk => ⟨_, rfl, rfl, _, rfl, to_dec (kw_dec kw_end) (kk _ same_refl)⟩) (fun _ Hx sx R kk => ⟨_, rfl, _, _, rfl, rfl, _, rfl, to_dec (decide_eq_decide.mpr (by omega)) (kk _ same_refl)⟩) fun H1 s1 => ite2 (fun h => ?_) (fun h => ?_)
        · have h := of_decide_eq_true h
          have eD1 := s1 _ _ eD
          refine ⟨_, rfl, .inl ⟨rfl, _, .inl (.inl eD1)⟩, _, rfl, _, _, rfl, rfl, D, _, _, rfl, rfl, eD1, ?_, .patch, es ++ [k + 1], _, _, _, _, _, _, rfl, ⟨rfl, rfl, n, rfl⟩, same_upd nD (same_trans s' s1), ?_, ?_, adv k (.chg 0 n) .patch es l ?_ hd er⟩
          · rw [List.length_map]
            omega
          · rw [upd_same, List.map_append]
            rfl
          · rw [List.length_append]
            show es.length + 1 ≤ _
            omega
          · rw [stepC, if_pos h]
        · have h' := of_decide_eq_false (Bool.eq_false_iff.mpr h)
          have s'1 := same_trans s' s1
          have eD1 := s1 _ _ eD
          obtain ⟨c1, c2⟩ := cut_len 32 l
          have cw := chg_words l
          refine ⟨_, rfl, ⟨_, rfl⟩, _, _, rfl, rfl, by decide +kernel, by omega, fun p np => ?_⟩
          rw [show Str.ofString " " = ⟨#[32]⟩ by decide +kernel, split_words, show tl (Sg l) = l from rfl]
          obtain ⟨x, r, ec⟩ : ∃ x r, cutAt 32 l = x :: r := by
            cases e : cutAt 32 l with
            | nil => exact absurd e (cut_ne 32 l)
            | cons x r => exact ⟨x, r, rfl⟩
          rw [ec] at c1 c2 cw ⊢
          have s2 := same_new (o := .lst (strV (x :: r))) np
          have ep : (upd H1 p (.lst (strV (x :: r)))) p = some (.lst (strV (x :: r))) := upd_same
          generalize upd H1 p (.lst (strV (x :: r))) = H2 at s2 ep
          have s'2 := same_trans s'1 s2
          have eD2 := s2 _ _ eD1
          haveI : Decidable (RcOk (readC (x :: r))) := Classical.propDecidable _
          try dsimp only [tNext, tSeq, tIfS, tAsg, gName, tC]
          refine or_dec (p := n = 12) (q := ¬ RcOk (readC (x :: r))) (fun R kk => ⟨_, rfl, rfl, _, rfl, to_dec (decide_eq_decide.mpr ⟨fun z => by have := V.int.inj z; omega, fun z => by rw [z]; rfl⟩) (kk _ same_refl)⟩) (fun _ H3 s3 R kk => ⟨_, rfl, p, x, r, rfl, s3 _ _ ep, fun t ht => Nat.le_trans (c2 t (List.mem_cons_of_mem _ ht)) ll, by rw [List.length_cons] at c1; omega, fun b H4 hb s4 => ⟨_, rfl, to_dec ?_ (kk _ s4)⟩⟩) fun H3 s3 => ite2 (fun hc => ?_) (fun hc => ?_)
          · cases b with
            | true => exact (@decide_eq_false (¬ RcOk (readC (x :: r))) _ fun z => z (hb.mp rfl)).symm
            | false => exact (@decide_eq_true (¬ RcOk (readC (x :: r))) _ fun z => Bool.noConfusion (hb.mpr z)).symm
          · refine ⟨_, rfl, _, rfl, by show 2 ≤ sizeLine; omega, fun t nt => rets k (.chg 0 n) es l H3 t ?_ hd er (same_trans s'2 s3) (s3 _ _ eD2) nt⟩
            rw [stepC, if_neg h']
            rcases @of_decide_eq_true _ _ hc with z | z
            · rw [if_pos z]
            · rcases cw with ⟨c, _, _, _, rok⟩ | ⟨e0, _⟩
              · exact absurd rok z
              · rw [e0, ite_self]
          · have hc' := @of_decide_eq_false _ _ (Bool.eq_false_iff.mpr hc)
            have n12 : ¬ n = 12 := fun z => hc' (.inl z)
            have rok : RcOk (readC (x :: r)) := Classical.byContradiction fun z => hc' (.inr z)
            rcases cw with ⟨c, gd, e0, _, _⟩ | ⟨_, nok⟩
            rotate_left
            · exact absurd rok nok
            have est : stepW (.chg 0 n) l = some (.chg (left c) (n + 1)) := by rw [stepC, if_neg h', if_neg n12, e0]
            have ew : x :: r = wordsOf c := by rw [← ec, ← (chg_back e0).2, head_cut gd.ok]
            have ep3 := s3 _ _ ep
            have eD3 := s3 _ _ eD2
            have s'3 := same_trans s'2 s3
            have fin := adv k (.chg 0 n) _ es l est hd er
            refine ⟨_, rfl, _, _, rfl, rfl, _, rfl, p, _, _, _, rfl, rfl, SqL.of ep3, atI_nat (j := 0) rfl, rfl, _, rfl, ite2 (fun hk => ?_) (fun hk => ?_)⟩
            · rw [kw_dec kw_lines] at hk
              have hk := of_decide_eq_true hk
              obtain ⟨f, xs, ys, ts, rfl⟩ : ∃ f xs ys ts, c = .lines f xs ys ts := by
                rw [hk] at ew
                cases c with
                | lines f xs ys ts => exact ⟨f, xs, ys, ts, rfl⟩
                | _ => exact absurd (List.cons.inj ew).1 (by decide)
              have l2 := gd.ok.2.2.2.2.1
              rw [ew] at ep3
              have l5 := num_five (n := ts.length) (by omega)
              exact ⟨_, rfl, p, _, _, _, rfl, rfl, SqL.of ep3, atI_nat (j := 4) rfl, _, _, rfl, int_num (by omega), by rw [lS]; omega, .chg (left (.lines f xs ys ts)) (n + 1), es, _, _, _, _, _, _, rfl, ⟨rfl, rfl, rfl⟩, s'3, eD3, by omega, fin⟩
            · rw [kw_dec kw_lines] at hk
              have hk : ¬ x = wLines := of_decide_eq_false (Bool.eq_false_iff.mpr hk)
              have el : left c = 0 := by
                cases c with
                | lines f xs ys ts => exact absurd (List.cons.inj ew).1 hk
                | _ => rfl
              exact ⟨.chg (left c) (n + 1), es, _, _, _, _, _, _, rfl, ⟨rfl, by rw [el], rfl⟩, s'3, eD3, by omega, fin⟩
end
end K20
namespace K20
open PySem PySem.Spec PyProof.Rows L2 TL TR QR
open GxR (TabB TabG Tabbed)
open PySem.W (EachIs)
abbrev sTU : Stmt := topS 70
abbrev nTU : List Str := ["state", "lines", "found", "turn", "kind", "at", "line", "place", "sign"]
theorem scTU : FnScope nTU ["state", "lines"] (defScope sTU) := ⟨rfl, rfl, rfl, by decide +kernel, rfl, by decide +kernel, by decide +kernel⟩
section
variable {P : Program} {w : World} {K : PySem.W.Frag} {mg : Str → Option Value} {base : Heap}
theorem and_decG {Rel : Hp → Hp → Prop} (tr : ∀ a b c, Rel a b → Rel b c → Rel a c) {tA tB : TT} {σ : L2.St} {H : Hp} {Q : Bool → Hp → Prop} {p : Prop} [Decidable p] (hA : ∀ R : Bool → Hp → Prop, (∀ H1, Rel H H1 → R (decide p) H1) → tA σ H R)
    (hB : p → ∀ H1, Rel H H1 → ∀ R : Bool → Hp → Prop, (∀ b H2, Rel H1 H2 → R b H2) → tB σ H1 R) (h : ∀ b H2, Rel H H2 → Q b H2) : tAnd tA tB σ H Q := by
  refine hA _ fun H1 s1 => ?_
  by_cases hp : p
  · show if decide p = true then tB σ H1 Q else Q false H1
    rw [decide_eq_true hp]
    exact hB hp H1 s1 Q fun b H2 s2 => h b H2 (tr _ _ _ s1 s2)
  · show if decide p = true then tB σ H1 Q else Q false H1
    rw [decide_eq_false hp]
    exact h false H1 s1
theorem str_sg (s : Str) : s = Sg (tl s) := ext_tl rfl
theorem Dr.wr {p c b : Addr} {o : HO} {H H1 : Hp} (r : Dr p c H H1) (nb : H b = Option.none) (n : b ≠ p ∧ b ≠ c) : Dr p c H (L2.upd H1 b o) := ⟨r.st.upd n, fun x u n1 n2 e => by
  rw [upd_ne (ne_of_none e nb)]
  exact r.ou x u n1 n2 e⟩
def Lns (fs : Path) (n m : Nat) : Prop := fs.length ≤ n ∧ ∀ l ∈ fs, l.length ≤ m
def spTU : Sp := fun vs H Q _ => ∃ (p c a : Addr) (ls : Path), vs = [.ref p, .ref a] ∧ H a = some (.lst (strV ls)) ∧ Lns ls 40000 69000 ∧ StateAt H p c ∧ a ≠ p ∧ a ≠ c ∧ ∀ H' b fs, Dr p c H H' → H b = none → H' b = some (.lst (strV fs)) → Lns fs 40010 69020 → Q (.ref b) H'
theorem ok_TU {f fD fP : Addr} {fd fdD fdP : FuncData} (F : Fun K "_law_turned" "_law_turned" sTU f fd)
    (GD : FnOk P w K mg base CX0 1 fD fdD ["state", "many"] spDraw) (bD : Binds K fdD ["state", "many"] []) (gD : mg "_law_draw" = some (.ref fD)) (kD : PySem.W.keepIn K (.ref fD) = true)
    (GP : FnOk P w K mg base CX0 2 fP fdP ["state", "row"] spPick) (bP : Binds K fdP ["state", "row"] []) (gP : mg "_law_pick" = some (.ref fP)) (kP : PySem.W.keepIn K (.ref fP) = true)
    (m_len : mg "len" = none) (m_range : mg "range" = none) (m_list : mg "list" = none) : FnOk P w K mg base CX0 3 f fd ["state", "lines"] spTU := by
  refine F.ok scTU (fun vs H Q E h => ?_) (fun cdv A outer s H vs Q E hr h => ?_)
  · obtain ⟨p, c, a, ls, rfl, _⟩ := h
    rfl
  · obtain ⟨p, c, a, ls, rfl, ha, hL, st, n1, n2, q⟩ := h
    have hu := hr.units
    have hu1 := hu_of hr
    have hr1 : Room 1 _ := hr.mono (by decide)
    have hr2 : Room 2 _ := hr.mono (by decide)
    have zl := zl
    refine ⟨_, (pss_cons (ps_set (i := 2) scTU.nd rfl (.inl rfl) (pe_callTy call_list_of (by rfl) m_list (by decide +kernel) (pa_cons (pv 1) pa_nil)))
      (pss_cons (ps_for PassesOwn.never rfl (pi_range1 (by rfl) m_range (pa_cons (pe_call GD hr1 (by rfl) gD kD bD .nil pass0 (pa_cons (pv 0) (pa_cons (pe_int) pa_nil))) pa_nil)) (pg_name (i := 3) scTU.nd rfl (.inl rfl))
      (pss_cons (ps_set (i := 4) scTU.nd rfl (.inl rfl) (pe_call GD hr1 (by rfl) gD kD bD .nil pass0 (pa_cons (pv 0) (pa_cons (pe_int) pa_nil))))
      (pss_cons (ps_set (i := 5) scTU.nd rfl (.inl rfl) (pe_call GD hr1 (by rfl) gD kD bD .nil pass0 (pa_cons (pv 0) (pa_cons (pe_callB call_len_seq (by rfl) m_len PySem.boot_len (pa_cons (pv 2) pa_nil)) pa_nil))))
      (pss_one (ps_if (PW.pt (pw_or (pt_cmpR op_eq (pe_callB call_len_seq (by rfl) m_len PySem.boot_len (pa_cons (pv 2) pa_nil)) (pe_int) (nomark _)) (pw_or1 (pt_cmpR op_eq (pv 4) (pe_int) (nomark _)))))
      (pss_cons (ps_set (i := 6) scTU.nd rfl (.inl rfl) (pe_call GP hr2 (by rfl) gP kP bP .nil pass0 (pa_cons (pv 0) (pa_cons (pe_lst (pa_cons (pe_str) (pa_cons (pe_str) (pa_cons (pe_str) (pa_cons (pe_str) (pa_cons (pe_str) (pa_cons (pe_str) (pa_cons (pe_str) (pa_cons (pe_str) pa_nil))))))))) pa_nil))))
      (pss_one (ps_expr (pe_bm PySem.F.plainAttrs_list PySem.F.slot_list_insert PySem.F.type_list_insert mt_insert (pv 2) (pa_cons (pv 5) (pa_cons (pv 6) pa_nil)))))) (pss_one (ps_if (pt_cmpR op_eq (pv 4) (pe_int) (nomark _))
      (pss_one (ps_expr (pe_bm PySem.F.plainAttrs_list PySem.F.slot_list_pop PySem.F.type_list_pop mt_popAt (pv 2) (pa_cons (pv 5) pa_nil)))) (pss_one (ps_if (pt_cmpR op_eq (pv 4) (pe_int) (nomark _))
      (pss_one (ps_expr (pe_bm PySem.F.plainAttrs_list PySem.F.slot_list_insert PySem.F.type_list_insert mt_insert (pv 2) (pa_cons (pv 5) (pa_cons (pe_ix ix_list (pv 2) (pv 5) (fun _ _ => rfl)) pa_nil))))) (pss_one (ps_if (PW.pt (pw_and (pt_cmpR op_eq (pv 4) (pe_int) (nomark _)) (pw_and1 (pt_cmpR op_eq (pe_call GD hr1 (by rfl) gD kD bD .nil pass0 (pa_cons (pv 0) (pa_cons (pe_int) pa_nil))) (pe_int) (nomark _)))))
      (pss_one (ps_set (i := 2) scTU.nd rfl (.inl rfl) (pe_slice sl_list (pv 2) (po_none) (po_some (pv 5))))) (pss_cons (ps_set (i := 6) scTU.nd rfl (.inl rfl) (pe_ix ix_list (pv 2) (pv 5) (fun _ _ => rfl)))
      (pss_cons (ps_set (i := 7) scTU.nd rfl (.inl rfl) (pe_call GD hr1 (by rfl) gD kD bD .nil pass0 (pa_cons (pv 0) (pa_cons (pe_op op_add (pe_callB call_len_str (by rfl) m_len PySem.boot_len (pa_cons (pv 6) pa_nil)) (pe_int)) pa_nil))))
      (pss_cons (ps_set (i := 8) scTU.nd rfl (.inl rfl) (pe_call GP hr2 (by rfl) gP kP bP .nil pass0 (pa_cons (pv 0) (pa_cons (pe_lst (pa_cons (pe_str) (pa_cons (pe_str) (pa_cons (pe_str) (pa_cons (pe_str) (pa_cons (pe_str) (pa_cons (pe_str) (pa_cons (pe_str) (pa_cons (pe_str) (pa_cons (pe_str) (pa_cons (pe_str) (pa_cons (pe_str) pa_nil)))))))))))) pa_nil))))
      (pss_one (ps_asg (pe_op op_add_str (pe_op op_add_str (pe_slice sl_str (pv 6) (po_none) (po_some (pv 7))) (pe_call GP hr2 (by rfl) gP kP bP .nil pass0 (pa_cons (pv 0) (pa_cons (pe_lst (pa_cons (pv 8) (pa_cons (pe_str) pa_nil))) pa_nil)))) (pe_slice sl_str (pv 6) (po_some (pe_op op_add (pv 7) (pe_call GD hr1 (by rfl) gD kD bD .nil pass0 (pa_cons (pv 0) (pa_cons (pe_int) pa_nil))))) (po_none))) (pg_sub (pv 2) (pv 5) set_list)))))))))))))))))
      (pss_one (ps_ret (pv 2))))), ?_⟩
    refine ⟨_, rfl, a, _, rfl, .inl (SqL.of ha), fun b nb => ?_⟩
    have nbp := st.new nb
    have st1 : StateAt (upd H b (.lst (strV ls))) p c := st.upd nbp
    refine ⟨_, rfl, p, c, 4, rfl, by decide, st1, fun H1 n _ hn st2 d2 => ?_⟩
    have hn := hn (by decide)
    have r1 : Dr p c H H1 := ((Dr.refl st).same (same_new nb)).drawn st2 d2
    have eb : H1 b = some (.lst (strV ls)) := (d2 b nbp.1 nbp.2).trans upd_same
    refine ⟨_, rfl, by omega, by omega, for_range (lo := 0) (n := ((n : Nat) : Int).toNat) (fun i σ H' => ∃ (b : Addr) (fs : Path) (v3 v4 v5 v6 v7 v8 : Option V), σ = [some (.ref p), some (.ref a), some (.ref b), v3, v4, v5, v6, v7, v8] ∧ Dr p c H H' ∧ H b = none ∧ H' b = some (.lst (strV fs)) ∧ Lns fs (40000 + i) (69000 + i)) ⟨b, ls, _, _, _, _, _, _, rfl, r1, nb, eb, hL⟩ ?_ ?_⟩
    · rintro i σ H2 hi ⟨b, fs, v3, v4, v5, v6, v7, v8, rfl, r2, nb, eb, lf, ll⟩
      have lfs : (strV fs).length = fs.length := List.length_map _
      have nbp := st.new nb
      refine ⟨_, rfl, p, c, 7, rfl, by decide, r2.st, fun H3 k3 _ hk3 st3 d3 => ?_⟩
      have r3 := r2.drawn st3 d3
      have eb3 : H3 b = some (.lst (strV fs)) := (d3 b nbp.1 nbp.2).trans eb
      refine ⟨_, rfl, _, rfl, b, _, rfl, .inl (SqL.of eb3), p, c, fs.length, congrArg (fun z => [V.ref p, V.int z]) (by rw [lfs]), by omega, r3.st, fun H4 k4 h40 hk4 st4 d4 => ?_⟩
      have r4 := r3.drawn st4 d4
      have eb4 : H4 b = some (.lst (strV fs)) := (d4 b nbp.1 nbp.2).trans eb3
      try dsimp only [tNext, tSeq, tIfS, tAsg, gName, tC]
      have lim : fs.length < sizeLine := by have := zl; omega
      have tdr : ∀ A B C : Hp, Dr p c A B → Dr p c B C → Dr p c A C := fun _ _ _ => Dr.trans
      refine or_dec (p := fs.length = 0) (q := k3 = 0) (fun R kk => ⟨_, rfl, b, _, rfl, .inl (SqL.of eb4), rfl, _, rfl, to_dec (by rw [lfs]; exact dec_nat (i := fs.length) (j := 0)) (kk _ same_refl)⟩) (fun _ H5 s5 R kk => ⟨_, rfl, rfl, _, rfl, to_dec (dec_nat (i := k3) (j := 0)) (kk _ same_refl)⟩) fun H5 s5 => ite2 (fun h => ?_) (fun h => ?_)
      · have r5 := r4.same s5
        refine ⟨_, rfl, by show 8 ≤ sizeLine; omega, fun d nd => ?_⟩
        have r6 := r5.same (same_new (o := .lst [.str (Str.ofString "end"), .str (Str.ofString "note "), .str (Str.ofString "patch 0.a.1"), .str (Str.ofString "add a"), .str (Str.ofString "|"), .str (Str.ofString ""), .str (Str.ofString "lines 0.a.1.0.0 - - 2"), .str (Str.ofString "cut 0.a.1.0.0 -")]) nd)
        have ndp := st.new (r5.none nd)
        refine ⟨p, c, d, _, rfl, upd_same, ndp.1, ndp.2, by decide, by decide, r6.st, fun H7 v hv st7 d7 => ?_⟩
        have r7 := r6.drawn st7 d7
        have eb7 : H7 b = some (.lst (strV fs)) := (d7 b nbp.1 nbp.2).trans (same_new nd _ _ (s5 _ _ eb4))
        obtain ⟨l, rfl, ly⟩ : ∃ l, v = .str (Sg l) ∧ l.length ≤ 100 := by
          simp only [List.mem_cons, List.not_mem_nil, or_false] at hv
          rcases hv with rfl | rfl | rfl | rfl | rfl | rfl | rfl | rfl <;> exact ⟨_, congrArg V.str (str_sg _), by decide +kernel⟩
        refine ⟨_, rfl, .inl ⟨rfl, _, .inl (.inl eb7)⟩, _, rfl, _, rfl, b, _, _, _, rfl, rfl, eb7, by omega, by omega, ?_, b, fs.take k4 ++ [l] ++ fs.drop k4, _, _, _, _, _, _, rfl, r7.wr nb nbp, nb, ?_, ?_⟩
        · have : k4 ≤ fs.length := by
            by_cases z : fs.length = 0
            · rw [h40 z]; omega
            · have := hk4 (by omega)
              omega
          omega
        · rw [upd_same, Int.toNat_natCast]
          unfold strV
          rw [List.map_append, List.map_append, List.map_take, List.map_drop]
          rfl
        · refine ⟨by rw [List.length_append, List.length_append, List.length_take, List.length_drop]; show _ + 1 + _ ≤ _; omega, fun l' hl' => ?_⟩
          rcases List.mem_append.mp hl' with hl' | hl'
          · rcases List.mem_append.mp hl' with hl' | hl'
            · have := ll l' (List.mem_of_mem_take hl')
              omega
            · rw [List.mem_singleton.mp hl']
              omega
          · have := ll l' (List.mem_of_mem_drop hl')
            omega
      have h' := of_decide_eq_false (Bool.eq_false_iff.mpr h)
      have r5 := r4.same s5
      have eb5 := s5 _ _ eb4
      have kf : k4 < fs.length := hk4 (by omega)
      obtain ⟨l, gl⟩ : ∃ l, fs[k4]? = some l := ⟨_, List.getElem?_eq_getElem kf⟩
      have lll := ll l (List.mem_of_getElem? gl)
      have gV : (strV fs)[k4]? = some (V.str (Sg l)) := get_map _ gl
      clear h
      refine ⟨_, rfl, rfl, _, rfl, ite2 (fun h => ?_) (fun h => ?_)⟩
      · refine ⟨_, rfl, .inl ⟨rfl, _, .inl (.inl eb5)⟩, _, rfl, b, _, _, k4, _, rfl, rfl, eb5, by omega, by omega, ?_, gV, b, fs.eraseIdx k4, _, _, _, _, _, _, rfl, r5.wr nb nbp, nb, ?_, ?_⟩
        · exact (seqIndex_of (by omega) (by rw [lfs]; omega)).trans (congrArg some (Int.toNat_natCast _))
        · rw [upd_same]
          unfold strV
          rw [List.eraseIdx_eq_take_drop_succ, List.eraseIdx_eq_take_drop_succ, List.map_append, List.map_take, List.map_drop]
        · refine ⟨by have := List.length_eraseIdx_le fs k4; omega, fun l' hl' => ?_⟩
          have := ll l' (List.mem_of_mem_eraseIdx hl')
          omega
      refine ⟨_, rfl, rfl, _, rfl, ite2 (fun h2 => ?_) (fun h2 => ?_)⟩
      · refine ⟨_, rfl, .inl ⟨rfl, _, .inl (.inl eb5)⟩, _, rfl, _, rfl, _, rfl, b, _, _, _, rfl, rfl, SqL.of eb5, atI_nat gV, b, _, _, _, rfl, rfl, eb5, by omega, by omega, by omega, b, fs.take k4 ++ [l] ++ fs.drop k4, _, _, _, _, _, _, rfl, r5.wr nb nbp, nb, ?_, ?_⟩
        · rw [upd_same, Int.toNat_natCast]
          unfold strV
          rw [List.map_append, List.map_append, List.map_take, List.map_drop]
          rfl
        · refine ⟨by rw [List.length_append, List.length_append, List.length_take, List.length_drop]; show _ + 1 + _ ≤ _; omega, fun l' hl' => ?_⟩
          rcases List.mem_append.mp hl' with hl' | hl'
          · rcases List.mem_append.mp hl' with hl' | hl'
            · have := ll l' (List.mem_of_mem_take hl')
              omega
            · rw [List.mem_singleton.mp hl']
              omega
          · have := ll l' (List.mem_of_mem_drop hl')
            omega
      try dsimp only [tNext, tSeq, tIfS, tAsg, gName, tC]
      refine and_decG tdr (p := k3 = 3) (fun R kk => ⟨_, rfl, rfl, _, rfl, to_dec (dec_nat (i := k3) (j := 3)) (kk _ (Dr.refl r5.st))⟩) (fun _ H6 r6 R kk => ⟨_, rfl, p, c, 3, rfl, by decide, r6.st, fun H7 _ _ _ st7 d7 => ⟨rfl, _, rfl, kk _ H7 ((Dr.refl r6.st).drawn st7 d7)⟩⟩) fun bb H6 r56 => ?_
      have r6 := r5.trans r56
      have eb6 := r56.ou b _ nbp.1 nbp.2 eb5
      refine ite2 (fun _ => ?_) (fun _ => ?_)
      · refine ⟨_, rfl, _, rfl, _, rfl, b, _, rfl, SqL.of eb6, fun d nd => ?_⟩
        rw [show cutV (strV fs) none (some (k4 : Int)) = strV (fs.take k4) by rw [cutV_to]; unfold strV; rw [List.map_take]]
        refine ⟨d, fs.take k4, _, _, _, _, _, _, rfl, r6.same (same_new nd), r6.none nd, upd_same, by rw [List.length_take]; omega, fun l' hl' => ?_⟩
        have := ll l' (List.mem_of_mem_take hl')
        omega
      have lSl : (Sg l).length = l.length := rfl
      refine ⟨_, rfl, _, rfl, b, _, _, _, rfl, rfl, SqL.of eb6, atI_nat gV, ?_⟩
      refine ⟨_, rfl, _, rfl, Sg l, rfl, by omega, _, _, rfl, rfl, p, c, l.length + 1, congrArg (fun z => [V.ref p, V.int z]) (by rw [lSl]; omega), by omega, r6.st, fun H7 e _ he st7 d7 => ?_⟩
      have he := he (by omega)
      have r7 := r6.drawn st7 d7
      have eb7 := (d7 b nbp.1 nbp.2).trans eb6
      refine ⟨_, rfl, by show 11 ≤ sizeLine; omega, fun d nd => ?_⟩
      have ndp := st.new (r7.none nd)
      have s8 := same_new (o := .lst [.str (Str.ofString " "), .str (Str.ofString "0"), .str (Str.ofString "1"), .str (Str.ofString "a"), .str (Str.ofString "."), .str (Str.ofString ","), .str (Str.ofString ":"), .str (Str.ofString "|"), .str (Str.ofString "-"), .str (Str.ofString "~"), .str (Str.ofString "B")]) nd
      have r8 := r7.same s8
      have eb8 := s8 _ _ eb7
      refine ⟨p, c, d, _, rfl, upd_same, ndp.1, ndp.2, by decide, by decide, r8.st, fun H9 v hv st9 d9 => ?_⟩
      have r9 := r8.drawn st9 d9
      have eb9 := (d9 b nbp.1 nbp.2).trans eb8
      obtain ⟨sg, rfl, lsg⟩ : ∃ sg, v = .str (Sg sg) ∧ sg.length ≤ 1 := by
        simp only [List.mem_cons, List.not_mem_nil, or_false] at hv
        rcases hv with rfl | rfl | rfl | rfl | rfl | rfl | rfl | rfl | rfl | rfl | rfl <;> exact ⟨_, congrArg V.str (str_sg _), by decide +kernel⟩
      refine ⟨_, rfl, _, rfl, _, rfl, Sg l, rfl, by omega, ?_⟩
      rw [cutS_to, show tl (Sg l) = l from rfl]
      refine ⟨_, rfl, _, rfl, by show 2 ≤ sizeLine; omega, fun d2 nd2 => ?_⟩
      have nd2p := st.new (r9.none nd2)
      have s10 := same_new (o := .lst [.str (Sg sg), .str (Str.ofString "")]) nd2
      have r10 := r9.same s10
      have eb10 := s10 _ _ eb9
      refine ⟨p, c, d2, _, rfl, upd_same, nd2p.1, nd2p.2, by simp, by simp, r10.st, fun H11 v8 hv8 st11 d11 => ?_⟩
      have r11 := r10.drawn st11 d11
      have eb11 := (d11 b nbp.1 nbp.2).trans eb10
      obtain ⟨s8', rfl, l8⟩ : ∃ s8 : List Nat, v8 = .str (Sg s8) ∧ s8.length ≤ 1 := by
        simp only [List.mem_cons, List.not_mem_nil, or_false] at hv8
        rcases hv8 with rfl | rfl
        · exact ⟨_, rfl, lsg⟩
        · exact ⟨[], congrArg V.str (by decide +kernel), by decide⟩
      have l12 : (Sg (l.take e)).length ≤ l.length := by
        show (l.take e).length ≤ _
        rw [List.length_take]
        omega
      have l13 : (Sg s8').length ≤ 1 := l8
      refine ⟨_, _, rfl, rfl, by omega, _, rfl, _, rfl, _, rfl, p, c, 2, rfl, by decide, r11.st, fun H12 g _ hg st12 d12 => ?_⟩
      have r12 := r11.drawn st12 d12
      have eb12 := (d12 b nbp.1 nbp.2).trans eb11
      refine ⟨_, _, rfl, rfl, _, rfl, Sg l, rfl, by omega, ?_⟩
      rw [show (e : Int) + (g : Int) = ((e + g : Nat) : Int) from (Int.natCast_add e g).symm, cutS_from, show tl (Sg l) = l from rfl, sg_app]
      have l14 : (Sg (l.drop (e + g))).length ≤ l.length := by
        show (l.drop (e + g)).length ≤ _
        rw [List.length_drop]
        omega
      have l15 : (Sg (l.take e ++ s8')).length ≤ l.length + 1 := by
        show (l.take e ++ s8').length ≤ _
        rw [List.length_append, List.length_take]
        omega
      refine ⟨_, _, rfl, rfl, by omega, ?_⟩
      rw [sg_app]
      refine ⟨_, rfl, _, rfl, b, _, _, k4, rfl, rfl, eb12, ?_, b, fs.set k4 (l.take e ++ s8' ++ l.drop (e + g)), _, _, _, _, _, _, rfl, r12.wr nb nbp, nb, ?_, ?_⟩
      · unfold ixN
        rw [if_pos (by omega), if_pos (by rw [lfs]; omega), Int.toNat_natCast]
      · rw [upd_same]
        unfold strV
        rw [List.map_set]
      · refine ⟨by rw [List.length_set]; omega, fun l' hl' => ?_⟩
        rcases List.mem_or_eq_of_mem_set hl' with z | z
        · have := ll l' z
          omega
        · rw [z, List.length_append, List.length_append, List.length_take, List.length_drop]
          have : s8'.length ≤ 1 := l8
          omega
    · rintro σ H2 ⟨b, fs, v3, v4, v5, v6, v7, v8, rfl, r2, nb, eb, lf, ll⟩
      exact ⟨_, rfl, q _ b fs r2 nb eb ⟨by omega, fun l hl => by have := ll l hl; omega⟩⟩
end
end K20
/-! the law's machine and the reading: the same faults, the same ends -/
namespace K20
open PySem PySem.Spec PyProof.Rows L2 TL TR QR
theorem up_good {α β : Type} {j : Nat} {f : α → β} {x : Rs α} {b : β} {k : Nat} (h : x.up j f = .good b k) : ∃ a i, x = .good a i ∧ b = f a ∧ k = j + i := by
  cases x with
  | bad i => cases h
  | good a i =>
    have h : Rs.good (f a) (j + i) = Rs.good b k := h
    injection h with h1 h2
    exact ⟨a, i, rfl, h1.symm, h2.symm⟩
theorem up_bad {α β : Type} {j : Nat} {f : α → β} {x : Rs α} {k : Nat} (h : x.up j f = .bad k) : ∃ i, x = .bad i ∧ k = j + i := by
  cases x with
  | bad i =>
    have h : Rs.bad (j + i) = Rs.bad k := h
    injection h with h
    exact ⟨i, rfl, h.symm⟩
  | good a i => cases h
theorem tx_line {l t : List Nat} (h : txLine l = some t) : l = 124 :: t ∧ okTx t := by
  cases l with
  | nil => cases h
  | cons c r =>
    have h : (if c = 124 ∧ okTx r then some r else none) = some t := h
    split at h
    · rename_i e
      cases h
      exact ⟨by rw [e.1], e.2⟩
    · cases h
theorem rdT_run : ∀ (k : Nat) (ls : Path) (n i : Nat), (∀ ts j, rdT k ls = .good ts j → ts.length = k ∧ j = k ∧ (∀ t ∈ ts, okTx t) ∧ ls = (ts.map fun t => 124 :: t) ++ ls.drop k ∧ runW (.chg k n) i ls = runW (.chg 0 n) (i + k) (ls.drop k)) ∧
    ∀ j, rdT k ls = .bad j → runW (.chg k n) i ls = (some (i + j), [])
  | 0, ls, n, i => ⟨fun ts j h => by
      have h : Rs.good [] 0 = Rs.good ts j := h
      injection h with h1 h2
      subst h1
      subst h2
      exact ⟨rfl, rfl, fun t ht => (nomatch ht), rfl, rfl⟩, fun j h => by cases h⟩
  | k + 1, [], n, i => ⟨fun ts j h => (by cases h), fun j h => by
      have h : Rs.bad 0 = Rs.bad j := h
      injection h with h
      subst h
      rfl⟩
  | k + 1, l :: ls, n, i => by
    have ih := rdT_run k ls n (i + 1)
    cases e : txLine l with
    | none =>
      have eb : rdT (k + 1) (l :: ls) = .bad 0 := rdT_bad fun l' h => by
        rw [← Option.some.inj h]
        exact e
      rw [eb]
      refine ⟨fun ts j h => (nomatch h), fun j h => ?_⟩
      injection h with h
      subst h
      exact runW_bad (by rw [stepT, e]; rfl)
    | some t =>
      rw [rdT_step e]
      obtain ⟨el, okt⟩ := tx_line e
      have st : stepW (.chg (k + 1) n) l = some (.chg k n) := by rw [stepT, e]; rfl
      have rn : runW (.chg (k + 1) n) i (l :: ls) = runW (.chg k n) (i + 1) ls := runW_go st
      rw [rn]
      refine ⟨fun ts j h => ?_, fun j h => ?_⟩
      · obtain ⟨ts', j', h', e1, e2⟩ := up_good h
        obtain ⟨a1, a2, a3, a4, a5⟩ := ih.1 ts' j' h'
        subst e1
        refine ⟨by rw [List.length_cons, a1], by omega, fun t' ht => ?_, ?_, ?_⟩
        · rcases List.mem_cons.mp ht with z | z
          · rw [z]
            exact okt
          · exact a3 t' z
        · rw [List.map_cons, List.drop_succ_cons, List.cons_append, ← a4, el]
        · rw [a5, List.drop_succ_cons]
          congr 1
          omega
      · obtain ⟨j', h', e1⟩ := up_bad h
        rw [ih.2 j' h', e1]
        congr 2
        omega
theorem setTs_ok {c : Chg} {ts : Path} (g : Good c) (l : ts.length = left c) (ok : ∀ t ∈ ts, okTx t) : ChgOk (setTs c ts) ∧ showC (setTs c ts) = headL c :: ts.map (fun t => 124 :: t) := by
  cases c with
  | lines f xs ys us =>
    have o := g.ok
    have l : ts.length = us.length := l
    refine ⟨⟨o.1, o.2.1, o.2.2.1, by rw [l]; exact o.2.2.2.1, by rw [l]; exact o.2.2.2.2.1, ok⟩, ?_⟩
    show headL (.lines f xs ys ts) :: _ = _
    refine congrArg (· :: _) ?_
    unfold headL
    dsimp only [wordsOf]
    rw [l]
  | _ =>
    have l0 : ts = [] := List.eq_nil_of_length_eq_zero l
    subst l0
    exact ⟨g.ok, rfl⟩
theorem rdC_run {ls : Path} {n i : Nat} (h0 : ¬ (ls.head? = some wEnd ∧ 0 < n)) (h12 : n ≠ 12) : (∀ c j, rdC ls = .good c j → ChgOk c ∧ ls = showC c ++ ls.drop j ∧ (showC c).length = j ∧ runW (.chg 0 n) i ls = runW (.chg 0 (n + 1)) (i + j) (ls.drop j)) ∧
    ∀ j, rdC ls = .bad j → runW (.chg 0 n) i ls = (some (i + j), []) := by
  cases ls with
  | nil =>
    refine ⟨fun c j h => (nomatch h), fun j h => ?_⟩
    have h : Rs.bad 0 = Rs.bad j := h
    injection h with h
    subst h
    rfl
  | cons l ls =>
    have h1 : ¬ (l = wEnd ∧ 0 < n) := fun z => h0 ⟨congrArg some z.1, z.2⟩
    have eR : rdC (l :: ls) = match chgOf l with
        | none => .bad 0
        | some c => (rdT (left c) ls).up 1 (setTs c) := rfl
    cases e : chgOf l with
    | none =>
      rw [e] at eR
      have eR : rdC (l :: ls) = .bad 0 := eR
      rw [eR]
      refine ⟨fun c j h => (nomatch h), fun j h => ?_⟩
      injection h with h
      subst h
      exact runW_bad (by rw [stepC, if_neg h1, if_neg h12, e])
    | some c =>
      rw [e] at eR
      have eR : rdC (l :: ls) = (rdT (left c) ls).up 1 (setTs c) := eR
      obtain ⟨g, eh⟩ := chg_back e
      have st : stepW (.chg 0 n) l = some (.chg (left c) (n + 1)) := by rw [stepC, if_neg h1, if_neg h12, e]
      have rn : runW (.chg 0 n) i (l :: ls) = runW (.chg (left c) (n + 1)) (i + 1) ls := runW_go st
      have rt := rdT_run (left c) ls (n + 1) (i + 1)
      rw [eR, rn]
      refine ⟨fun c' j h => ?_, fun j h => ?_⟩
      · obtain ⟨ts, j', h', e1, e2⟩ := up_good h
        obtain ⟨a1, a2, a3, a4, a5⟩ := rt.1 ts j' h'
        obtain ⟨b1, b2⟩ := setTs_ok g a1 a3
        subst e1
        subst e2
        subst a2
        rw [show (1 + left c) = left c + 1 from Nat.add_comm _ _, List.drop_succ_cons]
        refine ⟨b1, ?_, ?_, ?_⟩
        · rw [b2, List.cons_append, ← a4, eh]
        · rw [b2, List.length_cons, List.length_map, a1]
        · rw [a5]
          congr 1
          omega
      · obtain ⟨j', h', e1⟩ := up_bad h
        rw [rt.2 j' h', e1]
        congr 2
        omega
theorem rdCs_run : ∀ (f n i : Nat) (ls : Path), n + f = 12 → (∀ cs j, rdCs f (decide (0 < n)) ls = .good cs j → (∀ c ∈ cs, ChgOk c) ∧ n + cs.length ≤ 12 ∧ (n = 0 → 1 ≤ cs.length) ∧ ls = showCs cs ++ ls.drop j ∧ (showCs cs).length = j ∧
      runW (.chg 0 n) i ls = ((runW .patch (i + j) (ls.drop j)).1, (i + j) :: (runW .patch (i + j) (ls.drop j)).2)) ∧ ∀ j, rdCs f (decide (0 < n)) ls = .bad j → runW (.chg 0 n) i ls = (some (i + j), []) := by
  intro f
  induction f with
  | zero =>
    intro n i ls hn
    have n12 : n = 12 := by omega
    have d : decide (0 < n) = true := decide_eq_true (by omega)
    rw [d]
    cases ls with
    | nil =>
      refine ⟨fun cs j h => (by rw [rdCs_nil] at h; cases h), fun j h => ?_⟩
      rw [rdCs_nil] at h
      injection h with h
      subst h
      rfl
    | cons l ls =>
      by_cases hl : l = wEnd
      · rw [rdCs_end (by rw [hl]; rfl)]
        refine ⟨fun cs j h => ?_, fun j h => (nomatch h)⟩
        injection h with h1 h2
        subst h1
        subst h2
        refine ⟨fun c hc => (nomatch hc), by rw [n12]; exact Nat.le_refl _, fun z => by omega, by rw [hl]; rfl, rfl, ?_⟩
        exact runW_go (w' := .patch) (by rw [stepC, if_pos ⟨hl, by omega⟩])
      · rw [rdCs_full (r := l :: ls) fun z => hl (Option.some.inj z.2)]
        refine ⟨fun cs j h => (nomatch h), fun j h => ?_⟩
        injection h with h
        subst h
        exact runW_bad (by rw [stepC, if_neg fun z => hl z.1, if_pos n12])
  | succ f ih =>
    intro n i ls hn
    by_cases hE : decide (0 < n) = true ∧ ls.head? = some wEnd
    · cases ls with
      | nil => cases hE.2
      | cons l ls =>
        have hl : l = wEnd := Option.some.inj hE.2
        have n0 : 0 < n := of_decide_eq_true hE.1
        rw [hE.1, rdCs_end hE.2]
        refine ⟨fun cs j h => ?_, fun j h => (nomatch h)⟩
        injection h with h1 h2
        subst h1
        subst h2
        refine ⟨fun c hc => (nomatch hc), by show n + 0 ≤ 12; omega, fun z => by omega, by rw [hl]; rfl, rfl, ?_⟩
        exact runW_go (w' := .patch) (by rw [stepC, if_pos ⟨hl, n0⟩])
    · have hr := rdC_run (i := i) (n := n) (ls := ls) (fun z => hE ⟨decide_eq_true z.2, z.1⟩) (by omega)
      cases e : rdC ls with
      | bad k =>
        rw [rdCs_bad hE e]
        refine ⟨fun cs j h => (nomatch h), fun j h => ?_⟩
        injection h with h
        subst h
        exact hr.2 k e
      | good c k =>
        obtain ⟨a1, a2, a3, a4⟩ := hr.1 c k e
        rw [rdCs_go hE e]
        have d : (true : Bool) = decide (0 < n + 1) := (decide_eq_true (Nat.succ_pos n)).symm
        have ihn := ih (n + 1) (i + k) (ls.drop k) (by omega)
        rw [← d] at ihn
        rw [a4]
        refine ⟨fun cs j h => ?_, fun j h => ?_⟩
        · obtain ⟨cs', j', h', e1, e2⟩ := up_good h
          obtain ⟨b1, b2, _, b3, b4, b5⟩ := ihn.1 cs' j' h'
          subst e1
          subst e2
          rw [List.drop_drop] at b3 b5
          refine ⟨fun c' hc => ?_, by rw [List.length_cons]; omega, fun _ => by rw [List.length_cons]; omega, ?_, ?_, ?_⟩
          · rcases List.mem_cons.mp hc with z | z
            · rw [z]
              exact a1
            · exact b1 c' z
          · show ls = (showC c ++ showCs cs') ++ _
            rw [List.append_assoc, ← b3]
            exact a2
          · show (showC c ++ showCs cs').length = _
            rw [List.length_append, a3, b4]
          · rw [b5, Nat.add_assoc]
        · obtain ⟨j', h', e1⟩ := up_bad h
          rw [ihn.2 j' h', e1, Nat.add_assoc]
theorem pat_line {l : List Nat} {n : Nm} (h : patLine l = some n) : l = wPatch ++ idL n ∧ NmOk n := by
  unfold patLine at h
  split at h
  · rename_i e
    obtain ⟨a, b⟩ := readNm_back h
    exact ⟨by rw [b]; exact take_pat e, a⟩
  · cases h
theorem note_line {l t : List Nat} (h : noteLine l = some t) : l = wNote ++ t ∧ okTx t := by
  unfold noteLine at h
  split at h
  · rename_i e
    cases h
    exact ⟨take_note e.1, e.2⟩
  · cases h
theorem rdF_run {ls : Path} {i : Nat} (ne : ls ≠ []) : (∀ R j, rdF ls = .good R j → PatOk R ∧ ls = showP R ++ ls.drop j ∧ (showP R).length = j ∧ runW .patch i ls = ((runW .patch (i + j) (ls.drop j)).1, (i + j) :: (runW .patch (i + j) (ls.drop j)).2)) ∧
    ∀ j, rdF ls = .bad j → runW .patch i ls = (some (i + j), []) := by
  cases ls with
  | nil => exact absurd rfl ne
  | cons l r =>
    cases e : patLine l with
    | none =>
      have eb : rdF (l :: r) = .bad 0 := rdF_bad0 fun l' h => by rw [← Option.some.inj h]; exact e
      rw [eb]
      refine ⟨fun R j h => (nomatch h), fun j h => ?_⟩
      injection h with h
      subst h
      exact runW_bad (by rw [stepP, e]; rfl)
    | some nm =>
      obtain ⟨el, okn⟩ := pat_line e
      have rn : runW .patch i (l :: r) = runW .note (i + 1) r := runW_go (w' := .note) (by rw [stepP, e]; rfl)
      rw [rn]
      cases r with
      | nil =>
        have eb : rdF [l] = .bad 1 := rdF_bad1 e fun m h => (nomatch h)
        rw [eb]
        refine ⟨fun R j h => (nomatch h), fun j h => ?_⟩
        injection h with h
        subst h
        rfl
      | cons m r =>
        cases e2 : noteLine m with
        | none =>
          have eb : rdF (l :: m :: r) = .bad 1 := rdF_bad1 e fun m' h => by rw [← Option.some.inj h]; exact e2
          rw [eb]
          refine ⟨fun R j h => (nomatch h), fun j h => ?_⟩
          injection h with h
          subst h
          exact runW_bad (by rw [stepN, e2]; rfl)
        | some t =>
          obtain ⟨em, okt⟩ := note_line e2
          have rn2 : runW .note (i + 1) (m :: r) = runW (.chg 0 0) (i + 1 + 1) r := runW_go (w' := .chg 0 0) (by rw [stepN, e2]; rfl)
          rw [rn2, rdF_go e e2]
          have rc := rdCs_run 12 0 (i + 1 + 1) r (by omega)
          rw [show decide (0 < 0) = false from rfl] at rc
          refine ⟨fun R j h => ?_, fun j h => ?_⟩
          · obtain ⟨cs, j', h', e1, e3⟩ := up_good h
            obtain ⟨b1, b2, b0, b3, b4, b5⟩ := rc.1 cs j' h'
            subst e1
            subst e3
            rw [show 2 + j' = (j' + 1) + 1 by omega, List.drop_succ_cons, List.drop_succ_cons]
            refine ⟨⟨okn, b0 rfl, by show cs.length ≤ 12; omega, b1, okt⟩, ?_, ?_, ?_⟩
            · show l :: m :: r = (wPatch ++ idL nm) :: (wNote ++ t) :: (showCs cs ++ r.drop j')
              rw [← b3, ← el, ← em]
            · show (showCs cs).length + 1 + 1 = _
              rw [b4]
            · rw [b5, show i + 1 + 1 + j' = i + (j' + 1 + 1) by omega]
          · obtain ⟨j', h', e1⟩ := up_bad h
            rw [rc.2 j' h', e1]
            congr 2
            omega
theorem rdA_run : ∀ (f i : Nat) (ls : Path), ls.length ≤ f → (∀ Ps j, rdA f ls = .good Ps j → (∀ R ∈ Ps, PatOk R) ∧ ls = (Ps.map showP).flatten ∧ ∃ es, runW .patch i ls = (none, es)) ∧ ∀ j, rdA f ls = .bad j → ∃ es, runW .patch i ls = (some (i + j), es) := by
  intro f
  induction f with
  | zero =>
    intro i ls hf
    have : ls = [] := List.eq_nil_of_length_eq_zero (by omega)
    subst this
    rw [rdA_nil]
    refine ⟨fun Ps j h => ?_, fun j h => (nomatch h)⟩
    injection h with h1 h2
    subst h1
    exact ⟨fun R hR => (nomatch hR), rfl, [], rfl⟩
  | succ f ih =>
    intro i ls hf
    by_cases hne : ls = []
    · subst hne
      rw [rdA_nil]
      refine ⟨fun Ps j h => ?_, fun j h => (nomatch h)⟩
      injection h with h1 h2
      subst h1
      exact ⟨fun R hR => (nomatch hR), rfl, [], rfl⟩
    · obtain ⟨f', ef, eb, eg⟩ := rdA_go hne hf
      have ef : f = f' := Nat.succ.inj ef
      subst ef
      have rf := rdF_run (i := i) hne
      cases e : rdF ls with
      | bad k =>
        rw [eb k e]
        refine ⟨fun Ps j h => (nomatch h), fun j h => ?_⟩
        injection h with h
        subst h
        exact ⟨[], rf.2 k e⟩
      | good R k =>
        have kp := rdF_pos e
        obtain ⟨a1, a2, a3, a4⟩ := rf.1 R k e
        rw [eg R k e]
        have ihn := ih (i + k) (ls.drop k) (by rw [List.length_drop]; omega)
        refine ⟨fun Ps j h => ?_, fun j h => ?_⟩
        · obtain ⟨Ps', j', h', e1, e2⟩ := up_good h
          obtain ⟨b1, b2, es, b3⟩ := ihn.1 Ps' j' h'
          subst e1
          refine ⟨fun R' hR => ?_, ?_, _, by rw [a4, b3]⟩
          · rcases List.mem_cons.mp hR with z | z
            · rw [z]
              exact a1
            · exact b1 R' z
          · rw [List.map_cons, List.flatten_cons, ← b2]
            exact a2
        · obtain ⟨j', h', e1⟩ := up_bad h
          obtain ⟨es, b3⟩ := ihn.2 j' h'
          exact ⟨_, by rw [a4, b3, e1, Nat.add_assoc]⟩
/-- what the law asks of one patch -/
theorem first_one {ls : Path} {R : Pat} {e : Nat} (h : rdF ls = .good R e) : ls ≠ [] ∧ ∃ es, (runW .patch 0 ls).2 = e :: es ∧ (e < ls.length → ¬ ((runW .patch 0 ls).1 = none ∧ es = [])) ∧ (ls.length ≤ e → (runW .patch 0 ls).1 = none ∧ es = [] ∧ rdA ls.length ls = .good [R] e) := by
  have ne : ls ≠ [] := fun z => by rw [z] at h; cases h
  obtain ⟨a1, a2, a3, a4⟩ := (rdF_run (i := 0) ne).1 R e h
  rw [Nat.zero_add] at a4
  refine ⟨ne, _, by rw [a4], fun lt z => ?_, fun le => ?_⟩
  · rw [a4] at z
    have dn : ls.drop e ≠ [] := fun y => by
      have := congrArg List.length y
      rw [List.length_drop] at this
      have : ls.length - e = 0 := this
      omega
    have rf := rdF_run (i := e) dn
    cases e2 : rdF (ls.drop e) with
    | bad k =>
      rw [rf.2 k e2] at z
      cases z.1
    | good R' k =>
      rw [(rf.1 R' k e2).2.2.2] at z
      cases z.2
  · have dn : ls.drop e = [] := List.drop_eq_nil_of_le le
    rw [a4, dn]
    refine ⟨rfl, rfl, ?_⟩
    obtain ⟨f', _, _, eg⟩ := rdA_go ne (Nat.le_refl _)
    rw [eg R e h, dn, rdA_nil]
    rfl
end K20
namespace K20
open PySem PySem.Spec PyProof.Rows L2 TL TR QR
open GxR (TabB TabG Tabbed)
open PySem.W (EachIs)
abbrev sLA : Stmt := topS 71
abbrev nLA : List Str := ["lines", "e"]
theorem scLA : FnScope nLA ["lines"] (defScope sLA) := ⟨rfl, rfl, rfl, by decide +kernel, rfl, by decide +kernel, by decide +kernel⟩
abbrev sLF1 : Stmt := topS 72
abbrev nLF1 : List Str := ["lines", "e"]
theorem scLF1 : FnScope nLF1 ["lines"] (defScope sLF1) := ⟨rfl, rfl, rfl, by decide +kernel, rfl, by decide +kernel, by decide +kernel⟩
structure WritF (K : PySem.W.Frag) (mg : Str → Option Value) (C fI CW : Addr) : Prop where
  low : PySem.TextX.TextTxt K mg C fI
  ex : ExcC K C
  gW : mg "WardError" = some (.ref CW)
  kit : PySem.W.kitOne K (.ref C) (.ref CW) = some true
  mi : mg "isinstance" = none
section
variable {P : Program} {w : World} {K : PySem.W.Frag} {mg : Str → Option Value} {base : Heap} {C fI CW : Addr}
def spLA (Ts : List Addr) (C : Addr) : Sp := fun vs H Q E => ∃ (a : Addr) (ls : Path), vs = [.ref a] ∧ LsAt H a ls ∧ TG Ts H ∧
  (∀ Ps j, rdA ls.length ls = .good Ps j → ∀ H' t p ws, Tbs Ts H H' → H' t = some (.tup [.non, .ref p]) → H p = none → H' p = some (.lst ws) → EachIs (PatAt (fun b => H b = none ∧ b ≠ p) H') ws Ps → Q (.ref t) H') ∧
  (∀ j, rdA ls.length ls = .bad j → ∀ H' t p, Tbs Ts H H' → H' t = some (.tup [.int (j : Int), .ref p]) → H p = none → H' p = some (.lst []) → Q (.ref t) H')
theorem ok_LA {f fRR : Addr} {Ts : List Addr} {fd fdRR : FuncData} (F : Fun K "_law_all" "_law_all" sLA f fd) (L : WritF K mg C fI CW)
    (GRR : FnOk P w K mg base (L2.CX P w) 11 fRR fdRR ["lines"] (spRR Ts C)) (bRR : Binds K fdRR ["lines"] []) (gRR : mg "read_patches" = some (.ref fRR)) (kRR : PySem.W.keepIn K (.ref fRR) = true)
    (m_isinstance : mg "isinstance" = none) (m_bool : mg "bool" = none) : FnOk P w K mg base CX0 12 f fd ["lines"] (spLA Ts C) := by
  refine F.ok scLA (fun vs H Q E h => ?_) (fun cdv A outer s H vs Q E hr h => ?_)
  · obtain ⟨a, ls, rfl, _⟩ := h
    rfl
  · obtain ⟨a, ls, rfl, hL, g, q1, q2⟩ := h
    have hu := hr.units
    have hu1 := hu_of hr
    have hr1 : Room 1 _ := hr.mono (by decide)
    have hr2 : Room 2 _ := hr.mono (by decide)
    have hr3 : Room 3 _ := hr.mono (by decide)
    have hr4 : Room 4 _ := hr.mono (by decide)
    have hr5 : Room 5 _ := hr.mono (by decide)
    have hr6 : Room 6 _ := hr.mono (by decide)
    have hr7 : Room 7 _ := hr.mono (by decide)
    have hr8 : Room 8 _ := hr.mono (by decide)
    have hr9 : Room 9 _ := hr.mono (by decide)
    have hr10 : Room 10 _ := hr.mono (by decide)
    have hr11 : Room 11 _ := hr.mono (by decide)
    have zl := zl
    refine ⟨_, (pss_one (ps_try_as (i := 1) rfl rfl scLA.nd rfl rfl ⟨rfl, by decide, .inl L.low.gC⟩ takes0
        (fun W pn xe tk _ => (pss_one (ps_ret (pe_tup (pa_cons (pe_non) (pa_cons (pe_callS GRR hr11 (by rfl) gRR kRR bRR (fun σ => passAt tk σ) (pa_cons (pv 0) pa_nil)) pa_nil))))))
        (fun a oe cls d pn hz hf => (pss_one (ps_ret (pe_tup (pa_cons (pe_ifExp (PW.pt (pw_and (pt_val (pe_callB (K71E.call_isD L.ex hz hf) (by rfl) L.mi (by decide +kernel) (pa_cons (pv 1) (pa_cons (pe_glob (v := V.ref CW) (by rfl) L.gW rfl) pa_nil)))) (pw_and1 (pt_not (pt_val (pe_callB (show CallR _ (.builtin "isinstance") (rIsi K) from call_isi) (by rfl) m_isinstance (by decide +kernel) (pa_cons (pe_atOf L.low hz hf (pv 1)) (pa_cons (pe_bltn (v := V.ty "bool") (u := .type "bool") (by rfl) m_bool (by decide +kernel) rfl) pa_nil)))))))) (pe_atOf L.low hz hf (pv 1)) (pe_un un_neg (pe_int))) (pa_cons (pe_lst (pa_nil)) pa_nil)))))))), ?_⟩
    refine ⟨_, rfl, a, ls, rfl, hL, g, fun Ps j e H1 p ws t1 np ep he => ?_, fun j e H1 t1 => fun er her => ⟨true, L.low.te, fun _ a0 _ => ?_, fun q => Bool.noConfusion q⟩⟩
    · refine ⟨by show 2 ≤ sizeLine; omega, fun t nt => ?_⟩
      exact q1 Ps j e _ t p ws (t1.same (same_new nt)) upd_same np (same_new nt _ _ ep) (he.mono fun _ _ z => z.lf (Same.lf (same_new nt)))
    · have t2 := t1.same (same_new (o := .xd [("at", .int (j : Int))]) her)
      refine ⟨_, rfl, _, _, true, er, _, rfl, rfl, rfl, fun u h => h, L.kit, upd_same, true, rfl, iteT ?_⟩
      refine ⟨_, rfl, rfl, rfl, er, _, rfl, upd_same, _, _, _, _, false, rfl, .ty _, .base (.int _), kit_ty (by decide +kernel), _, rfl, iteT ?_⟩
      refine ⟨_, rfl, rfl, rfl, er, _, rfl, upd_same, by show 0 ≤ sizeLine; omega, fun p np => ⟨by show 2 ≤ sizeLine; omega, fun t nt => ?_⟩⟩
      exact q2 j e _ t p (t2.same (same_trans (same_new np) (same_new nt))) upd_same (t2.none p np) (same_new nt _ _ upd_same)
def spLF1 (Ts : List Addr) (C : Addr) : Sp := fun vs H Q E => ∃ (a : Addr) (ls : Path), vs = [.ref a] ∧ LsAt H a ls ∧ TG Ts H ∧
  (∀ R j, rdF ls = .good R j → ls.length ≤ j → ∀ H' t p v, Tbs Ts H H' → H' t = some (.tup [.non, .ref p]) → H' p = some (.lst [v]) → PatAt (fun b => H b = none) H' v R → Q (.ref t) H') ∧
  (∀ R j, rdF ls = .good R j → j < ls.length → ∀ H' t v, Tbs Ts H H' → H' t = some (.tup [.int (j : Int), v]) → Q (.ref t) H') ∧ (∀ j, rdF ls = .bad j → ∀ H' t v, Tbs Ts H H' → H' t = some (.tup [.int (j : Int), v]) → Q (.ref t) H')
theorem ok_LF1 {f fRQ : Addr} {Ts : List Addr} {fd fdRQ : FuncData} (F : Fun K "_law_first" "_law_first" sLF1 f fd) (L : WritF K mg C fI CW)
    (GRQ : FnOk P w K mg base (L2.CX P w) 11 fRQ fdRQ ["lines"] (spRQ Ts C)) (bRQ : Binds K fdRQ ["lines"] []) (gRQ : mg "read_patch" = some (.ref fRQ)) (kRQ : PySem.W.keepIn K (.ref fRQ) = true) :
    FnOk P w K mg base CX0 12 f fd ["lines"] (spLF1 Ts C) := by
  refine F.ok scLF1 (fun vs H Q E h => ?_) (fun cdv A outer s H vs Q E hr h => ?_)
  · obtain ⟨a, ls, rfl, _⟩ := h
    rfl
  · obtain ⟨a, ls, rfl, hL, g, q1, q2, q3⟩ := h
    have hu := hr.units
    have hu1 := hu_of hr
    have hr1 : Room 1 _ := hr.mono (by decide)
    have hr2 : Room 2 _ := hr.mono (by decide)
    have hr3 : Room 3 _ := hr.mono (by decide)
    have hr4 : Room 4 _ := hr.mono (by decide)
    have hr5 : Room 5 _ := hr.mono (by decide)
    have hr6 : Room 6 _ := hr.mono (by decide)
    have hr7 : Room 7 _ := hr.mono (by decide)
    have hr8 : Room 8 _ := hr.mono (by decide)
    have hr9 : Room 9 _ := hr.mono (by decide)
    have hr10 : Room 10 _ := hr.mono (by decide)
    have hr11 : Room 11 _ := hr.mono (by decide)
    have zl := zl
    refine ⟨_, (pss_one (ps_try_as (i := 1) rfl rfl scLF1.nd rfl rfl ⟨rfl, by decide, .inl L.low.gC⟩ takes0
        (fun W pn xe tk _ => (pss_one (ps_ret (pe_tup (pa_cons (pe_non) (pa_cons (pe_lst (pa_cons (pe_callS GRQ hr11 (by rfl) gRQ kRQ bRQ (fun σ => passAt tk σ) (pa_cons (pv 0) pa_nil)) pa_nil)) pa_nil))))))
        (fun a oe cls d pn hz hf => (pss_one (ps_ret (pe_tup (pa_cons (pe_atOf L.low hz hf (pv 1)) (pa_cons (pe_lst (pa_nil)) pa_nil)))))))), ?_⟩
    refine ⟨_, rfl, a, ls, rfl, hL, g, fun R j e le H1 v t1 hp => ?_, fun R j e lt H1 t1 => fun er her => ⟨true, L.low.te, fun _ a0 _ => ?_, fun q => Bool.noConfusion q⟩, fun j e H1 t1 => fun er her => ⟨true, L.low.te, fun _ a0 _ => ?_, fun q => Bool.noConfusion q⟩⟩
    · refine ⟨by show 1 ≤ sizeLine; omega, fun p np => ⟨by show 2 ≤ sizeLine; omega, fun t nt => ?_⟩⟩
      have s2 := same_trans (same_new (o := .lst [v]) np) (same_new (o := .tup [.non, .ref p]) nt)
      exact q1 R j e le _ t p v (t1.same s2) upd_same (same_new nt _ _ upd_same) (hp.lf (Same.lf s2))
    · have t2 := t1.same (same_new (o := .xd [("at", .int (j : Int))]) her)
      refine ⟨_, rfl, rfl, rfl, er, _, rfl, upd_same, by show 0 ≤ sizeLine; omega, fun p np => ⟨by show 2 ≤ sizeLine; omega, fun t nt => ?_⟩⟩
      exact q2 R j e lt _ t _ (t2.same (same_trans (same_new np) (same_new nt))) upd_same
    · have t2 := t1.same (same_new (o := .xd [("at", .int (j : Int))]) her)
      refine ⟨_, rfl, rfl, rfl, er, _, rfl, upd_same, by show 0 ≤ sizeLine; omega, fun p np => ⟨by show 2 ≤ sizeLine; omega, fun t nt => ?_⟩⟩
      exact q3 j e _ t _ (t2.same (same_trans (same_new np) (same_new nt))) upd_same
end
end K20
/-! the repr of patches; the law's data -/
namespace K20
open PySem PySem.Spec PyProof.Rows L2 TL TR QR
open GxR (TabB TabG Tabbed)
open PySem.W (EachIs)
theorem rp_lab {l : Lab} (h : LabOk l) : Rp 20 3 (labD l) := by
  unfold labD
  have a : RpAll (1 * 6) 0 (l.2.map fun m : Nat => PyData.int (m : Int)) := RpAll.mono (RpAll.map (b := 0) fun m hm => rp_int (by have := h.mks m hm; omega)) (Nat.mul_le_mul_left _ h.ln) (Nat.le_refl _)
  have b := RpAll.cons (rp_kw (s := "label") (b := 5) (k := 2) (by decide +kernel) (by decide +kernel)) (RpAll.cons (rp_int (b := 0) (k := 2) (n := l.1) (by have := h.lv; omega)) (RpAll.cons (a.tup.mono (Nat.le_refl _) (by decide)) (RpAll.nil (b := 0))))
  exact b.tup.mono (b := 20) (k := 3) (by decide) (by decide)
theorem word_sg {w : List Nat} (h : okWord w = true) {k : Nat} : Rp 8 k (.str (Sg w)) := rp_str (fun c hc => .inl (word_low h c hc).2) (word_free h).2.1
theorem rp_nm {n : Nm} (h : NmOk n) : Rp 40 4 (nmD n) := by
  unfold nmD
  exact (RpAll.cons (rp_lab h.lb) (RpAll.cons (word_sg h.wd) (RpAll.cons (rp_int (b := 0) h.hi) (RpAll.nil (b := 0))))).tup.mono (by decide) (by decide)
theorem rp_vx {x : Vx} (h : VxOk x) : Rp 60 5 (vxD x) := by
  unfold vxD
  exact (RpAll.cons (rp_nm h.nm) (RpAll.cons (rp_int (b := 0) (by have := h.a; omega)) (RpAll.cons (rp_int (b := 0) (by have := h.b; omega)) (RpAll.nil (b := 0))))).tup.mono (by decide) (by decide)
theorem rp_path {p : Path} (h : okPath p = true) : Rp 40 3 (pathD p) := by
  unfold pathD
  obtain ⟨_, l4, lp⟩ := path_ok h
  have a : RpAll (9 * 4) 0 (p.map fun l => PyData.str (Sg l)) := RpAll.mono (RpAll.map (b := 8) fun l hl => rp_str (fun c hc => by
    unfold okPath at h
    rw [Bool.and_eq_true] at h
    have h2 := List.all_eq_true.mp h.2 l hl
    unfold wordB at h2
    rw [Bool.and_eq_true, Bool.and_eq_true] at h2
    exact .inl (low_pth c (of_decide_eq_true (List.all_eq_true.mp h2.2.2 c hc))).2) (lp l hl).1) (Nat.mul_le_mul_left _ l4) (Nat.le_refl _)
  exact a.tup.mono (by decide) (by decide)
theorem rp_vs {xs : List Vx} {l : Nat} (h : VsOk xs l) : Rp 12300 6 (vsD xs) := by
  unfold vsD
  have a : RpAll (61 * 200) 5 (xs.map vxD) := RpAll.mono (RpAll.map (b := 60) fun x hx => rp_vx (h.ok x hx)) (Nat.mul_le_mul_left _ h.hi) (Nat.le_refl _)
  exact a.lst.mono (by decide) (by decide)
theorem tx_sg {t : List Nat} (h : okTx t) {k : Nat} : Rp 40 k (.str (Sg t)) := rp_str (fun c hc => .inr (h.2 c hc).2) h.1
theorem rp_ts {ts : Path} (h : ∀ t ∈ ts, okTx t) (l : ts.length ≤ 200) : Rp 8200 1 (tsD ts) := by
  unfold tsD
  have a : RpAll (41 * 200) 0 (ts.map fun l => PyData.str (Sg l)) := RpAll.mono (RpAll.map (b := 40) fun x hx => tx_sg (h x hx)) (Nat.mul_le_mul_left _ l) (Nat.le_refl _)
  exact a.lst.mono (by decide) (by decide)
theorem rp_chg {c : Chg} (h : ChgOk c) : Rp 40000 7 (chgD c) := by
  cases c with
  | add p => exact (RpAll.cons (rp_kw (s := "add") (b := 3) (by decide +kernel) (by decide +kernel)) (RpAll.cons (rp_path h) (RpAll.nil (b := 0)))).tup.mono (by decide) (by decide)
  | back n => exact (RpAll.cons (rp_kw (s := "back") (b := 4) (by decide +kernel) (by decide +kernel)) (RpAll.cons (rp_nm h) (RpAll.nil (b := 0)))).tup.mono (by decide) (by decide)
  | drop f xs => exact (RpAll.cons (rp_kw (s := "drop") (b := 4) (by decide +kernel) (by decide +kernel)) (RpAll.cons ((rp_vx h.1).mono (Nat.le_refl _) (by decide)) (RpAll.cons (rp_vs h.2) (RpAll.nil (b := 0))))).tup.mono (by decide) (by decide)
  | move f p xs => exact (RpAll.cons (rp_kw (s := "move") (b := 4) (by decide +kernel) (by decide +kernel)) (RpAll.cons ((rp_vx h.1).mono (Nat.le_refl _) (by decide)) (RpAll.cons ((rp_path h.2.1).mono (Nat.le_refl _) (by decide)) (RpAll.cons (rp_vs h.2.2) (RpAll.nil (b := 0)))))).tup.mono (by decide) (by decide)
  | cut f xs => exact (RpAll.cons (rp_kw (s := "cut") (b := 4) (by decide +kernel) (by decide +kernel)) (RpAll.cons ((rp_vx h.1).mono (Nat.le_refl _) (by decide)) (RpAll.cons (rp_vs h.2) (RpAll.nil (b := 0))))).tup.mono (by decide) (by decide)
  | order f x y => exact (RpAll.cons (rp_kw (s := "order") (b := 5) (by decide +kernel) (by decide +kernel)) (RpAll.cons (rp_vx h.1) (RpAll.cons (rp_vx h.2.1) (RpAll.cons (rp_vx h.2.2.1) (RpAll.nil (b := 0)))))).tup.mono (by decide) (by decide)
  | lines f xs ys ts => exact (RpAll.cons (rp_kw (s := "lines") (b := 5) (by decide +kernel) (by decide +kernel)) (RpAll.cons ((rp_vx h.1).mono (Nat.le_refl _) (by decide)) (RpAll.cons (rp_vs h.2.1) (RpAll.cons (rp_vs h.2.2.1) (RpAll.cons ((rp_ts h.2.2.2.2.2 h.2.2.2.2.1).mono (Nat.le_refl _) (by decide)) (RpAll.nil (b := 0))))))).tup.mono (by decide) (by decide)
theorem rp_pat {P : Pat} (h : PatOk P) : Rp 500000 9 (patD P) := by
  have a : RpAll (40001 * 12) 7 (P.chs.map chgD) := RpAll.mono (RpAll.map (b := 40000) fun x hx => rp_chg (h.cs x hx)) (Nat.mul_le_mul_left _ h.hi) (Nat.le_refl _)
  exact (RpAll.cons (rp_kw (s := "patch") (b := 5) (by decide +kernel) (by decide +kernel)) (RpAll.cons ((rp_nm h.nm).mono (Nat.le_refl _) (by decide)) (RpAll.cons a.lst (RpAll.cons (tx_sg h.nt) (RpAll.nil (b := 0)))))).tup.mono (by decide) (by decide)
def patsD (Ps : List Pat) : PyData := .list (Ps.map patD)
theorem pats_facts {Ps : List Pat} (h : ∀ P ∈ Ps, PatOk P) (l : Ps.length ≤ 4) : (patsD Ps).depth ≤ 60 ∧ (patsD Ps).plain = true := by
  have a : RpAll (500001 * 4) 9 (Ps.map patD) := RpAll.mono (RpAll.map (b := 500000) fun x hx => rp_pat (h x hx)) (Nat.mul_le_mul_left _ l) (Nat.le_refl _)
  have b := a.lst
  exact ⟨Nat.le_trans b.k (by decide), solid_plain _ (by
    unfold patsD
    rw [solid]
    exact solid_map solid_pat Ps)⟩
theorem pats_depth {P : Pat} (h : PatOk P) : (patD P).depth ≤ 60 := Nat.le_trans (rp_pat h).k (by decide)
theorem ts_depth (ts : Path) : (tsD ts).depth ≤ 60 := by
  unfold tsD
  rw [PyData.depth, (plain_strs ts).2]
  decide
theorem ts_plain (ts : Path) : (tsD ts).plain = true := solid_plain _ (solid_ts ts)
theorem dp_tsL {K : PySem.W.Frag} {H : Hp} {a : Addr} {ts : Path} (h : H a = some (.lst (strV ts))) : Dp K H (.ref a) (tsD ts) := .lst (SqL.of h) (dp_strs ts)
theorem dp_pats {N : Addr → Prop} {K : PySem.W.Frag} {H : Hp} {a : Addr} {ws : List V} {Ps : List Pat} (h : H a = some (.lst ws)) (e : EachIs (PatAt N H) ws Ps) : Dp K H (.ref a) (patsD Ps) := .lst (SqL.of h) (dp_each (fun _ _ h => dp_pat h) e)
theorem eqv_self {d : PyData} (h : d.plain = true) : PyData.eqv d d = true := PySem.SeqAt.eqv_refl_plain d h
theorem both_eqv {P R : Pat} (h1 : PatOk P) (h2 : PatOk R) : PyData.eqv (tsD (showP P)) (tsD (showP R)) = PyData.eqv (patD P) (patD R) := by
  rw [Bool.eq_iff_iff, strs_eqv, pat_eqv]
  exact ⟨showP_inj h1 h2, fun z => by rw [z]⟩
end K20
namespace K20
open PySem PySem.Spec PyProof.Rows L2 TL TR QR
open GxR (TabB TabG Tabbed)
open PySem.W (EachIs)
abbrev sLAW : Stmt := topS 73
abbrev nLAW : List Str := ["script", "state", "lines", "k", "before", "due", "ends", "fault", "found", "one", "first"]
theorem scLAW : FnScope nLAW ["script"] (defScope sLAW) := ⟨rfl, rfl, rfl, by decide +kernel, rfl, by decide +kernel, by decide +kernel⟩
theorem state_tab {H : Hp} {p c T : Addr} (st : StateAt H p c) (g : TabG H T) : T ≠ p ∧ T ≠ c := by
  obtain ⟨⟨_, e1⟩, ⟨_, e2⟩⟩ := st.some
  obtain ⟨ps, e, _⟩ := g
  exact ⟨fun z => (by rw [z, e1] at e; cases e), fun z => (by rw [z, e2] at e; cases e)⟩
theorem show_ll {R : Pat} (ok : PatOk R) : ∀ l ∈ showP R, l.length ≤ 69000 := by
  intro l hl
  have lid := id_len ok.nm.sm
  have ln := ok.nt.1
  have cs : ∀ (cs : List Chg), (∀ c ∈ cs, ChgOk c) → ∀ l ∈ showCs cs, l.length ≤ 69000 := by
    intro cs
    induction cs with
    | nil =>
      intro _ l hl
      have hl : l ∈ [wEnd] := hl
      rw [List.mem_singleton.mp hl]
      decide
    | cons c cs ih =>
      intro okc l hl
      have hl : l ∈ showC c ++ showCs cs := hl
      rcases List.mem_append.mp hl with h | h
      · have o := okc c List.mem_cons_self
        rcases List.mem_cons.mp h with z | z
        · rw [z]
          exact Nat.le_trans (head_len o) (by decide)
        · cases c with
          | lines f xs ys ts =>
            obtain ⟨t, ht, rfl⟩ := List.mem_map.mp z
            have := (o.2.2.2.2.2 t ht).1
            rw [List.length_cons]
            omega
          | _ => exact nomatch z
      · exact ih (fun c hc => okc c (List.mem_cons_of_mem _ hc)) l h
  rcases List.mem_cons.mp hl with h | h
  · rw [h, List.length_append]
    show 6 + _ ≤ _
    omega
  · rcases List.mem_cons.mp h with h | h
    · rw [h, List.length_append]
      show 5 + _ ≤ _
      omega
    · exact cs R.chs ok.cs l h
section
variable {P : Program} {w : World} {K : PySem.W.Frag} {mg : Str → Option Value} {base : Heap} {C fI CW : Addr}
def spLaw (K : PySem.W.Frag) (T1 T2 T3 T4 T5 T6 : Addr) : Sp := fun vs H Q _ => ∃ (a : Addr) (ns : List Int), vs = [.ref a] ∧ SqL K H a (ns.map V.int) ∧ ns.length ≤ 63 ∧ TabG H T1 ∧ TabG H T2 ∧ TabG H T3 ∧ TabG H T4 ∧ TabG H T5 ∧ TabG H T6 ∧ T1 ≠ T2 ∧ T1 ≠ T3 ∧ T1 ≠ T4 ∧ T1 ≠ T5 ∧ T1 ≠ T6 ∧ T2 ≠ T3 ∧ T2 ≠ T4 ∧ T2 ≠ T5 ∧ T2 ≠ T6 ∧ T3 ≠ T4 ∧ T3 ≠ T5 ∧ T3 ≠ T6 ∧ T4 ≠ T5 ∧ T4 ≠ T6 ∧ T5 ≠ T6 ∧ ∀ H', Q (.bl true) H'
theorem ok_LAW {T1 T2 T3 T4 T5 T6 f fS fD fLQ fWP fTU fFA fLA fLF1 fSQ : Addr} {fdS fdD fdLQ fdWP fdTU fdFA fdLA fdLF1 fdSQ : FuncData} {oc kV doc pm cdv ct : Value} {od an : Option Addr} {osl : Array (Option Value)} (lk : K.lookup f = some ⟨oc, od, .func (PySem.W.fnOf "law" "law" (defArgs sLAW) (defBody sLAW) (defScope sLAW) .none kV doc pm an cdv ct), osl⟩)
    (hcd : PySem.W.codeIn K cdv "law" = true)
    (GS : FnOk P w K mg base CX0 1 fS fdS ["script"] (spState K)) (bS : Binds K fdS ["script"] []) (gS : mg "_law_state" = some (.ref fS)) (kS : PySem.W.keepIn K (.ref fS) = true)
    (GD : FnOk P w K mg base CX0 1 fD fdD ["state", "many"] spDraw) (bD : Binds K fdD ["state", "many"] []) (gD : mg "_law_draw" = some (.ref fD)) (kD : PySem.W.keepIn K (.ref fD) = true)
    (GWP : FnOk P w K mg base CX0 4 fWP fdWP ["patch"] spWP) (bWP : Binds K fdWP ["patch"] []) (gWP : mg "_law_show_patch" = some (.ref fWP)) (kWP : PySem.W.keepIn K (.ref fWP) = true)
    (GLQ : FnOk P w K mg base CX0 8 fLQ fdLQ ["state"] spLQ) (bLQ : Binds K fdLQ ["state"] []) (gLQ : mg "_law_patch" = some (.ref fLQ)) (kLQ : PySem.W.keepIn K (.ref fLQ) = true)
    (GTU : FnOk P w K mg base CX0 3 fTU fdTU ["state", "lines"] spTU) (bTU : Binds K fdTU ["state", "lines"] []) (gTU : mg "_law_turned" = some (.ref fTU)) (kTU : PySem.W.keepIn K (.ref fTU) = true)
    (GFA : FnOk P w K mg base CX0 6 fFA fdFA ["lines"] spFA) (bFA : Binds K fdFA ["lines"] []) (gFA : mg "_law_fault" = some (.ref fFA)) (kFA : PySem.W.keepIn K (.ref fFA) = true)
    (GLA : FnOk P w K mg base CX0 12 fLA fdLA ["lines"] (spLA [T1, T2, T3, T4, T5, T6] C)) (bLA : Binds K fdLA ["lines"] []) (gLA : mg "_law_all" = some (.ref fLA)) (kLA : PySem.W.keepIn K (.ref fLA) = true)
    (GLF1 : FnOk P w K mg base CX0 12 fLF1 fdLF1 ["lines"] (spLF1 [T1, T2, T3, T4, T5, T6] C)) (bLF1 : Binds K fdLF1 ["lines"] []) (gLF1 : mg "_law_first" = some (.ref fLF1)) (kLF1 : PySem.W.keepIn K (.ref fLF1) = true)
    (GSQ : FnOk P w K mg base CX0 7 fSQ fdSQ ["patches"] spSQ) (bSQ : Binds K fdSQ ["patches"] []) (gSQ : mg "show_patches" = some (.ref fSQ)) (kSQ : PySem.W.keepIn K (.ref fSQ) = true)
    (m_range : mg "range" = none) (m_list : mg "list" = none) (m_len : mg "len" = none) :
    GX.FnC P w K mg base f (PySem.W.fnOf "law" "law" (defArgs sLAW) (defBody sLAW) (defScope sLAW) .none kV doc pm an cdv ct) ["script"] (spLaw K T1 T2 T3 T4 T5 T6) := by
  refine GX.fn_C (k := 12) ⟨rfl, by decide +kernel, by decide +kernel⟩ lk hcd scLAW (fun vs H Q E h => ?_) fun A outer s H vs Q E hgd hr h => ?_
  · obtain ⟨a, ns, rfl, _⟩ := h
    rfl
  · obtain ⟨a0, ns, rfl, hS, hl, g1, g2, g3, g4, g5, g6, _, _, _, _, _, _, _, _, _, _, _, _, _, _, _, q⟩ := h
    have g : TG [T1, T2, T3, T4, T5, T6] H := fun T hT => by
      simp only [List.mem_cons, List.not_mem_nil, or_false] at hT
      rcases hT with rfl | rfl | rfl | rfl | rfl | rfl
      · exact g1
      · exact g2
      · exact g3
      · exact g4
      · exact g5
      · exact g6
    generalize [T1, T2, T3, T4, T5, T6] = Ts at *
    have hu := hr.units
    have hu1 := hu_of hr
    have hr1 : Room 1 _ := hr.mono (by decide)
    have hr3 : Room 3 _ := hr.mono (by decide)
    have hr4 : Room 4 _ := hr.mono (by decide)
    have hr6 : Room 6 _ := hr.mono (by decide)
    have hr7 : Room 7 _ := hr.mono (by decide)
    have hr8 : Room 8 _ := hr.mono (by decide)
    have hr12 : Room 12 _ := hr.mono (by decide)
    have zl := zl
    refine ⟨_, (pss_cons (ps_set (i := 1) scLAW.nd rfl (.inl rfl) (pe_call GS hr1 (by rfl) gS kS bS .nil pass0 (pa_cons (pv 0) pa_nil)))
      (pss_cons (ps_set (i := 2) scLAW.nd rfl (.inl rfl) (pe_lst (pa_nil)))
      (pss_cons (ps_for PassesOwn.never rfl (pi_range1 (by rfl) m_range (pa_cons (pe_op op_add (pe_int) (pe_call GD hr1 (by rfl) gD kD bD .nil pass0 (pa_cons (pv 1) (pa_cons (pe_int) pa_nil)))) pa_nil)) (pg_name (i := 3) scLAW.nd rfl (.inl rfl))
      (pss_one (ps_set (i := 2) scLAW.nd rfl (.inl rfl) (pe_op op_cat (pv 2) (pe_call GWP hr4 (by rfl) gWP kWP bWP .nil pass0 (pa_cons (pe_call GLQ hr8 (by rfl) gLQ kLQ bLQ .nil pass0 (pa_cons (pv 1) pa_nil)) pa_nil))))))
      (pss_cons (ps_set (i := 2) scLAW.nd rfl (.inl rfl) (pe_call GTU hr3 (by rfl) gTU kTU bTU .nil pass0 (pa_cons (pv 1) (pa_cons (pv 2) pa_nil))))
      (pss_cons (ps_set (i := 4) scLAW.nd rfl (.inl rfl) (pe_callTy call_list_of (by rfl) m_list (by decide +kernel) (pa_cons (pv 2) pa_nil)))
      (pss_cons (ps_asg (pe_call GFA hr6 (by rfl) gFA kFA bFA .nil pass0 (pa_cons (pv 2) pa_nil)) (pg_tup (by rfl) (pgs_cons (pg_name (i := 5) scLAW.nd rfl (.inl rfl)) (pgs_cons (pg_name (i := 6) scLAW.nd rfl (.inl rfl)) pgs_nil))))
      (pss_cons (ps_asg (pe_call GLA hr12 (by rfl) gLA kLA bLA .nil pass0 (pa_cons (pv 2) pa_nil)) (pg_tup (by rfl) (pgs_cons (pg_name (i := 7) scLAW.nd rfl (.inl rfl)) (pgs_cons (pg_name (i := 8) scLAW.nd rfl (.inl rfl)) pgs_nil))))
      (pss_cons (ps_asg (pe_call GLF1 hr12 (by rfl) gLF1 kLF1 bLF1 .nil pass0 (pa_cons (pv 2) pa_nil)) (pg_tup (by rfl) (pgs_cons (pg_name (i := 9) scLAW.nd rfl (.inl rfl)) (pgs_cons (pg_name (i := 10) scLAW.nd rfl (.inl rfl)) pgs_nil))))
      (pss_cons (ps_if (PW.pt (pw_or (pt_cmpR (op_neP hu) (pv 2) (pv 4) (nomark _)) (pw_or (pt_cmpR op_ne (pv 7) (pv 5) (nomark _)) (pw_or1 (PW.pt (pw_and (pt_cmpR op_isN (pv 5) (pe_non) (nomark _)) (pw_and1 (pt_cmpR (op_neP hu) (pe_call GSQ hr7 (by rfl) gSQ kSQ bSQ .nil pass0 (pa_cons (pv 8) pa_nil)) (pv 2) (nomark _)))))))))
      (pss_one (ps_ret (pe_bl))) pss_nil)
      (pss_cons (ps_if (PW.pt (pw_and (pt_cmpR op_isN (pv 5) (pe_non) (nomark _)) (pw_and1 (pt_cmpR op_eq (pe_callB call_len_seq (by rfl) m_len PySem.boot_len (pa_cons (pv 6) pa_nil)) (pe_int) (nomark _)))))
      (pss_one (ps_ret (pe_and (pe_cmpR op_isN (pv 9) (pe_non) (nomark _)) (pe_one (pe_cmpR (op_eqP hu) (pv 10) (pv 8) (nomark _)))))) pss_nil)
      (pss_cons (ps_if (pt_cmpR op_gt (pe_callB call_len_seq (by rfl) m_len PySem.boot_len (pa_cons (pv 6) pa_nil)) (pe_int) (nomark _))
      (pss_one (ps_ret (pe_cmpR op_eq (pv 9) (pe_ix ix_list (pv 6) (pe_int) (fun _ _ => rfl)) (nomark _)))) pss_nil)
      (pss_one (ps_ret (pe_cmpR op_eq (pv 9) (pe_ifExp (pt_cmpR op_isN (pv 5) (pe_non) (nomark _)) (pe_int) (pv 5)) (nomark _))))))))))))))), ?_⟩
    refine ⟨_, rfl, a0, ns, rfl, hS, hl, fun H1 p c s1 np nc st1 => ?_⟩
    have g1' := g.same s1
    try dsimp only [tNext, tSeq, tIfS, tAsg, gName, tC]
    refine ⟨by show 0 ≤ sizeLine; omega, fun D nD => ?_⟩
    have nDp := st1.new nD
    have dD : Dr p c H1 (upd H1 D (.lst [])) := (Dr.refl st1).same (same_new nD)
    try dsimp only [tNext, tSeq, tIfS, tAsg, gName, tC]
    refine ⟨_, rfl, p, c, 2, rfl, by decide, dD.st, fun H2 n _ hn st2 d2 => ⟨_, _, rfl, rfl, ?_⟩⟩
    have hn := hn (by decide)
    have d12 := dD.drawn st2 d2
    have eD2 : H2 D = some (.lst []) := (d2 D nDp.1 nDp.2).trans upd_same
    refine ⟨_, rfl, by omega, by omega, for_range (lo := 0) (n := ((1 : Int) + ((n : Nat) : Int)).toNat) (fun k σ H' => ∃ (L : Addr) (Ps : List Pat) (y3 : Option V), σ = [some (.ref a0), some (.ref p), some (.ref L), y3, none, none, none, none, none, none, none] ∧ Dr p c H1 H' ∧ H1 L = none ∧ H' L = some (.lst (strV ((Ps.map showP).flatten))) ∧ Ps.length = k ∧ ∀ R ∈ Ps, PatOk R) ⟨D, [], none, rfl, d12, nD, eD2, rfl, fun _ h => nomatch h⟩ ?_ ?_⟩
    · rintro k σ H3 hk ⟨L, Ps, y3, rfl, d3, nL, eL, lP, ok⟩
      have nLp := st1.new nL
      refine ⟨_, rfl, _, rfl, p, c, rfl, d3.st, fun H4 v R d4 hR okR => ⟨v, R, rfl, hR.imp fun _ _ => trivial, okR, fun H5 u s5 nu eu => ?_⟩⟩
      have eL5 := s5 _ _ (d4.ou L _ nLp.1 nLp.2 eL)
      have la := pats_lines ok
      have lb := pat_lines okR
      refine ⟨L, u, _, _, rfl, rfl, eL5, eu, by rw [List.length_map, List.length_map]; omega, fun m nm => ?_⟩
      have d5 := (d3.trans d4).same s5
      refine ⟨m, Ps ++ [R], _, rfl, d5.same (same_new nm), d5.none nm, ?_, by rw [List.length_append, lP]; rfl, fun s hs => ?_⟩
      · rw [upd_same]
        unfold strV
        simp
      · rcases List.mem_append.mp hs with h | h
        · exact ok s h
        · rw [List.mem_singleton.mp h]
          exact okR
    rintro σ H3 ⟨L, Ps, y3, rfl, d3, nL, eL, lP, ok⟩
    have nLp := st1.new nL
    have la := pats_lines ok
    refine ⟨_, rfl, _, rfl, p, c, L, _, rfl, eL, ⟨by omega, fun l hl => ?_⟩, d3.st, nLp.1, nLp.2, fun H4 b fs d4 nb eb lf => ?_⟩
    · obtain ⟨R', hR, hl⟩ := List.mem_flatten.mp hl
      obtain ⟨R, hR2, rfl⟩ := List.mem_map.mp hR
      exact show_ll (ok R hR2) l hl
    have d14 := d3.trans d4
    refine ⟨_, rfl, b, _, rfl, .inl (SqL.of eb), fun bf nbf => ?_⟩
    have s5 : Same H4 (upd H4 bf (.lst (strV fs))) := same_new nbf
    have ebf : (upd H4 bf (.lst (strV fs))) bf = some (.lst (strV fs)) := upd_same
    generalize upd H4 bf (.lst (strV fs)) = H5 at s5 ebf
    have g5' : TG Ts H5 := fun T hT => by
      obtain ⟨n1, n2⟩ := state_tab st1 (g1' T hT)
      obtain ⟨ps, e, z⟩ := g1' T hT
      exact ⟨ps, s5 _ _ (d14.ou T _ n1 n2 e), z⟩
    have hL5 : LsAt H5 b fs := ⟨s5 _ _ eb, by have := lf.1; omega, fun l hl => by have := lf.2 l hl; omega⟩
    clear d14 d3 d4 eL la eb
    have AR := rdA_run fs.length 0 fs (Nat.le_refl _)
    refine ⟨_, rfl, b, fs, rfl, hL5, fun H6 t6 ve s6 et6 ee => ?_⟩
    have t56 := (Tbs.refl g5').same s6
    obtain ⟨De, rfl, eE⟩ := ee
    refine ⟨t6, _, rfl, SqT.of et6, rfl, _, _, rfl, _, _, rfl, rfl, ?_⟩
    have ed : PyData.eqv (tsD fs) (tsD fs) = true := eqv_self (ts_plain _)
    have FR : ∀ {R e}, rdF fs = .good R e → _ := fun {R e} h => first_one (ls := fs) (R := R) (e := e) h
    have FB : fs ≠ [] → ∀ j, rdF fs = .bad j → runW .patch 0 fs = (some (0 + j), []) := fun ne => (rdF_run (i := 0) ne).2
    generalize hrun : runW .patch 0 fs = rw0 at *
    obtain ⟨due, es⟩ := rw0
    refine ⟨_, rfl, b, fs, rfl, hL5.tbs g5' t56, t56.tg, fun Qs j eA H7 t7 p7 ws7 t67 et7 np7 ep7 he7 => ?_, fun j eA H7 t7 p7 t67 et7 np7 ep7 => ?_⟩
    · obtain ⟨okQ, efl, es', eru⟩ := AR.1 Qs j eA
      cases eru
      have t57 := t56.trans t67
      refine ⟨t7, _, rfl, SqT.of et7, rfl, _, _, rfl, _, _, rfl, rfl, ?_⟩
      refine ⟨_, rfl, b, fs, rfl, hL5.tbs g5' t57, t57.tg, fun R e eF le H8 t8 p8 v8 t78 et8 ep8 hR8 => ?_, fun R e eF lt H8 t8 v8 t78 et8 => ?_, fun e eF H8 t8 v8 t78 et8 => ?_⟩
      · obtain ⟨ne, es1, e1, _, hle⟩ := FR eF
        obtain ⟨_, rfl, eA2⟩ := hle le
        have e1 : es = [e] := e1
        subst e1
        rw [eA] at eA2
        injection eA2 with eQ _
        subst eQ
        have t58 := t57.trans t78
        have eb8 := t58.lst g5' hL5.at_
        have ebf8 := t58.lst g5' ebf
        have eE8 := (t67.trans t78).lst t56.tg eE
        refine ⟨t8, _, rfl, SqT.of et8, rfl, _, _, rfl, _, _, rfl, rfl, ?_⟩
        try dsimp only [tNext, tSeq, tIfS, tAsg, gName, tC]
        refine or_decG (Rel := Tbs Ts) (fun _ _ _ => Tbs.trans) (p := False) (q := False) (fun R' k => ⟨_, rfl, _, rfl, _, _, dp_tsL eb8, dp_tsL ebf8, ts_plain _, ts_plain _, ts_depth _, _, rfl, to_dec (by rw [ed]; simp) (k _ (Tbs.refl t58.tg))⟩)
          (fun _ H9 t9 R' k => or_decG (Rel := Tbs Ts) (fun _ _ _ => Tbs.trans) (p := False) (q := False) (fun R'' k' => ⟨_, rfl, _, rfl, rfl, _, rfl, to_dec (by simp [natO]) (k' _ (Tbs.refl t9.tg))⟩) (fun _ H10 t10 R'' k' => ?_) fun H10 t10 => to_dec (by simp) (k _ t10)) fun H9 t9 => ite2 (fun h => absurd (of_decide_eq_true h) (by simp)) (fun _ => ?_)
        · have t510 := (t58.trans t9).trans t10
          refine ⟨_, rfl, rfl, _, rfl, yes_if (by simp [natO]) ⟨_, rfl, p7, ws7, _, rfl, ((t78.trans t9).trans t10).lst t57.tg ep7, he7.mono fun _ _ z => (z.imp (fun _ _ => trivial)).lf (Tbs.lf ((t78.trans t9).trans t10) t57.tg), okQ, by rw [← efl]; have := hL5.len; omega, fun H11 u s11 nu eu => ⟨_, rfl, _, _, dp_tsL eu, dp_tsL (s11 _ _ (t510.lst g5' hL5.at_)), ts_plain _, ts_plain _, ts_depth _, _, rfl, to_dec (by rw [← efl, ed]; simp) (k' _ ((Tbs.refl t510.tg).same s11))⟩⟩⟩
        have eE9 := t9.lst t58.tg eE8
        refine ⟨_, rfl, rfl, _, rfl, yes_if (by simp [natO]) ?_⟩
        refine ⟨_, rfl, De, _, rfl, .inl (SqL.of eE9), rfl, _, rfl, yes_if (decide_eq_true rfl) ?_⟩
        refine ⟨_, rfl, rfl, _, rfl, yes_if (by simp) ?_⟩
        obtain ⟨f1, f2⟩ := pats_facts okQ (by show 1 ≤ 4; decide)
        refine ⟨_, rfl, _, rfl, _, _, dp_pats (N := fun _ => True) (Ps := [R]) (t9.lst t58.tg ep8) (.cons ((hR8.imp fun _ _ => trivial).lf (Tbs.lf t9 t58.tg)) .nil), dp_pats (N := fun _ => True) ((t78.trans t9).lst t57.tg ep7) (he7.mono fun _ _ z => (z.imp fun _ _ => trivial).lf (Tbs.lf (t78.trans t9) t57.tg)), f2, f2, f1, ?_⟩
        rw [eqv_self f2]
        exact q _
      · obtain ⟨ne, es1, e1, hlt, _⟩ := FR eF
        have e1 : es = e :: es1 := e1
        subst e1
        have ne1 : es1 ≠ [] := fun z => hlt lt ⟨rfl, z⟩
        have t58 := t57.trans t78
        have eb8 := t58.lst g5' hL5.at_
        have ebf8 := t58.lst g5' ebf
        have eE8 := (t67.trans t78).lst t56.tg eE
        refine ⟨t8, _, rfl, SqT.of et8, rfl, _, _, rfl, _, _, rfl, rfl, ?_⟩
        try dsimp only [tNext, tSeq, tIfS, tAsg, gName, tC]
        refine or_decG (Rel := Tbs Ts) (fun _ _ _ => Tbs.trans) (p := False) (q := False) (fun R' k => ⟨_, rfl, _, rfl, _, _, dp_tsL eb8, dp_tsL ebf8, ts_plain _, ts_plain _, ts_depth _, _, rfl, to_dec (by rw [ed]; simp) (k _ (Tbs.refl t58.tg))⟩)
          (fun _ H9 t9 R' k => or_decG (Rel := Tbs Ts) (fun _ _ _ => Tbs.trans) (p := False) (q := False) (fun R'' k' => ⟨_, rfl, _, rfl, rfl, _, rfl, to_dec (by simp [natO]) (k' _ (Tbs.refl t9.tg))⟩) (fun _ H10 t10 R'' k' => ?_) fun H10 t10 => to_dec (by simp) (k _ t10)) fun H9 t9 => ite2 (fun h => absurd (of_decide_eq_true h) (by simp)) (fun _ => ?_)
        · have t510 := (t58.trans t9).trans t10
          refine ⟨_, rfl, rfl, _, rfl, yes_if (by simp [natO]) ⟨_, rfl, p7, ws7, _, rfl, ((t78.trans t9).trans t10).lst t57.tg ep7, he7.mono fun _ _ z => (z.imp (fun _ _ => trivial)).lf (Tbs.lf ((t78.trans t9).trans t10) t57.tg), okQ, by rw [← efl]; have := hL5.len; omega, fun H11 u s11 nu eu => ⟨_, rfl, _, _, dp_tsL eu, dp_tsL (s11 _ _ (t510.lst g5' hL5.at_)), ts_plain _, ts_plain _, ts_depth _, _, rfl, to_dec (by rw [← efl, ed]; simp) (k' _ ((Tbs.refl t510.tg).same s11))⟩⟩⟩
        have eE9 := t9.lst t58.tg eE8
        refine ⟨_, rfl, rfl, _, rfl, yes_if (by simp [natO]) ?_⟩
        refine ⟨_, rfl, De, _, rfl, .inl (SqL.of eE9), rfl, _, rfl, no_if ?_ ?_⟩
        · rw [decide_eq_true_eq]
          intro z
          have z := V.int.inj z
          rw [List.length_map, List.length_cons] at z
          exact ne1 (List.eq_nil_of_length_eq_zero (by omega))
        refine ⟨_, rfl, De, _, rfl, .inl (SqL.of eE9), _, _, rfl, rfl, _, rfl, yes_if (decide_eq_true (by rw [List.length_map, List.length_cons]; omega)) ?_⟩
        refine ⟨_, rfl, _, rfl, De, _, _, _, rfl, rfl, SqL.of eE9, atI_nat (j := 0) rfl, rfl, ?_⟩
        rw [decide_eq_true rfl]
        exact q _
      · have e0 : fs = [] := Classical.byContradiction fun ne => by
          have := FB ne e eF
          cases this
        subst e0
        have er : Rs.bad 0 = Rs.bad e := eF
        injection er with er
        subst er
        have es0 : es = [] := by
          have := hrun
          have : (none, []) = ((none : Option Nat), es) := this
          injection this with _ z
          exact z.symm
        subst es0
        have t58 := t57.trans t78
        have eb8 := t58.lst g5' hL5.at_
        have ebf8 := t58.lst g5' ebf
        have eE8 := (t67.trans t78).lst t56.tg eE
        refine ⟨t8, _, rfl, SqT.of et8, rfl, _, _, rfl, _, _, rfl, rfl, ?_⟩
        try dsimp only [tNext, tSeq, tIfS, tAsg, gName, tC]
        refine or_decG (Rel := Tbs Ts) (fun _ _ _ => Tbs.trans) (p := False) (q := False) (fun R' k => ⟨_, rfl, _, rfl, _, _, dp_tsL eb8, dp_tsL ebf8, ts_plain _, ts_plain _, ts_depth _, _, rfl, to_dec (by rw [ed]; simp) (k _ (Tbs.refl t58.tg))⟩)
          (fun _ H9 t9 R' k => or_decG (Rel := Tbs Ts) (fun _ _ _ => Tbs.trans) (p := False) (q := False) (fun R'' k' => ⟨_, rfl, _, rfl, rfl, _, rfl, to_dec (by simp [natO]) (k' _ (Tbs.refl t9.tg))⟩) (fun _ H10 t10 R'' k' => ?_) fun H10 t10 => to_dec (by simp) (k _ t10)) fun H9 t9 => ite2 (fun h => absurd (of_decide_eq_true h) (by simp)) (fun _ => ?_)
        · have t510 := (t58.trans t9).trans t10
          refine ⟨_, rfl, rfl, _, rfl, yes_if (by simp [natO]) ⟨_, rfl, p7, ws7, _, rfl, ((t78.trans t9).trans t10).lst t57.tg ep7, he7.mono fun _ _ z => (z.imp (fun _ _ => trivial)).lf (Tbs.lf ((t78.trans t9).trans t10) t57.tg), okQ, by rw [← efl]; have := hL5.len; omega, fun H11 u s11 nu eu => ⟨_, rfl, _, _, dp_tsL eu, dp_tsL (s11 _ _ (t510.lst g5' hL5.at_)), ts_plain _, ts_plain _, ts_depth _, _, rfl, to_dec (by rw [← efl, ed]; simp) (k' _ ((Tbs.refl t510.tg).same s11))⟩⟩⟩
        have eE9 := t9.lst t58.tg eE8
        refine ⟨_, rfl, rfl, _, rfl, yes_if (by simp [natO]) ?_⟩
        refine ⟨_, rfl, De, _, rfl, .inl (SqL.of eE9), rfl, _, rfl, no_if (by decide) ?_⟩
        refine ⟨_, rfl, De, _, rfl, .inl (SqL.of eE9), _, _, rfl, rfl, _, rfl, no_if (by simp) ?_⟩
        refine ⟨_, rfl, _, rfl, rfl, _, rfl, yes_if (by simp [natO]) ⟨rfl, ?_⟩⟩
        rw [show decide (V.int ((0 : Nat) : Int) = V.int 0) = true from decide_eq_true rfl]
        exact q _
    · obtain ⟨es', eru⟩ := AR.2 j eA
      rw [Nat.zero_add] at eru
      cases eru
      have t57 := t56.trans t67
      refine ⟨t7, _, rfl, SqT.of et7, rfl, _, _, rfl, _, _, rfl, rfl, ?_⟩
      refine ⟨_, rfl, b, fs, rfl, hL5.tbs g5' t57, t57.tg, fun R e eF le H8 t8 p8 v8 t78 et8 ep8 hR8 => ?_, fun R e eF lt H8 t8 v8 t78 et8 => ?_, fun e eF H8 t8 v8 t78 et8 => ?_⟩
      · obtain ⟨ne, es1, e1, _, hle⟩ := FR eF
        obtain ⟨_, _, eA2⟩ := hle le
        rw [eA] at eA2
        cases eA2
      · obtain ⟨ne, es1, e1, hlt, _⟩ := FR eF
        have e1 : es = e :: es1 := e1
        subst e1
        have t58 := t57.trans t78
        have eb8 := t58.lst g5' hL5.at_
        have ebf8 := t58.lst g5' ebf
        have eE8 := (t67.trans t78).lst t56.tg eE
        refine ⟨t8, _, rfl, SqT.of et8, rfl, _, _, rfl, _, _, rfl, rfl, ?_⟩
        try dsimp only [tNext, tSeq, tIfS, tAsg, gName, tC]
        refine or_decG (Rel := Tbs Ts) (fun _ _ _ => Tbs.trans) (p := False) (q := False) (fun R' k => ⟨_, rfl, _, rfl, _, _, dp_tsL eb8, dp_tsL ebf8, ts_plain _, ts_plain _, ts_depth _, _, rfl, to_dec (by rw [ed]; simp) (k _ (Tbs.refl t58.tg))⟩)
          (fun _ H9 t9 R' k => or_decG (Rel := Tbs Ts) (fun _ _ _ => Tbs.trans) (p := False) (q := False) (fun R'' k' => ⟨_, rfl, _, rfl, rfl, _, rfl, to_dec (by simp [natO]) (k' _ (Tbs.refl t9.tg))⟩) (fun _ H10 t10 R'' k' => ?_) fun H10 t10 => to_dec (by simp) (k _ t10)) fun H9 t9 => ite2 (fun h => absurd (of_decide_eq_true h) (by simp)) (fun _ => ?_)
        · exact ⟨_, rfl, rfl, _, rfl, no_if (by simp [natO]) (to_dec (by simp) (k' _ (Tbs.refl t10.tg)))⟩
        have eE9 := t9.lst t58.tg eE8
        refine ⟨_, rfl, rfl, _, rfl, no_if (by simp [natO]) (no_if (by decide) ?_)⟩
        refine ⟨_, rfl, De, _, rfl, .inl (SqL.of eE9), _, _, rfl, rfl, _, rfl, yes_if (decide_eq_true (by rw [List.length_map, List.length_cons]; omega)) ?_⟩
        refine ⟨_, rfl, _, rfl, De, _, _, _, rfl, rfl, SqL.of eE9, atI_nat (j := 0) rfl, rfl, ?_⟩
        rw [decide_eq_true rfl]
        exact q _
      · have ne : fs ≠ [] := fun z => by
          rw [z] at eA
          cases eA
        have := FB ne e eF
        rw [Nat.zero_add] at this
        injection this with h1 h2
        cases h1
        subst h2
        have t58 := t57.trans t78
        have eb8 := t58.lst g5' hL5.at_
        have ebf8 := t58.lst g5' ebf
        have eE8 := (t67.trans t78).lst t56.tg eE
        refine ⟨t8, _, rfl, SqT.of et8, rfl, _, _, rfl, _, _, rfl, rfl, ?_⟩
        try dsimp only [tNext, tSeq, tIfS, tAsg, gName, tC]
        refine or_decG (Rel := Tbs Ts) (fun _ _ _ => Tbs.trans) (p := False) (q := False) (fun R' k => ⟨_, rfl, _, rfl, _, _, dp_tsL eb8, dp_tsL ebf8, ts_plain _, ts_plain _, ts_depth _, _, rfl, to_dec (by rw [ed]; simp) (k _ (Tbs.refl t58.tg))⟩)
          (fun _ H9 t9 R' k => or_decG (Rel := Tbs Ts) (fun _ _ _ => Tbs.trans) (p := False) (q := False) (fun R'' k' => ⟨_, rfl, _, rfl, rfl, _, rfl, to_dec (by simp [natO]) (k' _ (Tbs.refl t9.tg))⟩) (fun _ H10 t10 R'' k' => ?_) fun H10 t10 => to_dec (by simp) (k _ t10)) fun H9 t9 => ite2 (fun h => absurd (of_decide_eq_true h) (by simp)) (fun _ => ?_)
        · exact ⟨_, rfl, rfl, _, rfl, no_if (by simp [natO]) (to_dec (by simp) (k' _ (Tbs.refl t10.tg)))⟩
        have eE9 := t9.lst t58.tg eE8
        refine ⟨_, rfl, rfl, _, rfl, no_if (by simp [natO]) (no_if (by decide) ?_)⟩
        refine ⟨_, rfl, De, _, rfl, .inl (SqL.of eE9), _, _, rfl, rfl, _, rfl, no_if (by simp) ?_⟩
        refine ⟨_, rfl, _, rfl, rfl, _, rfl, no_if (by simp [natO]) ⟨_, rfl, rfl, ?_⟩⟩
        rw [show decide (V.int (j : Int) = natO (some j)) = true from decide_eq_true rfl]
        exact q _
end
end K20
namespace K20
open PySem PySem.Spec PyProof.Rows L2 TL TR QR
theorem exm_self {K : PySem.W.Frag} {S : Addr} (h1 : PySem.W.subIn K (.ref S) (.type "BaseException") = some true) (h2 : PySem.W.hasDictIn K S = true) (h3 : PySem.W.typeIn K (.ref S) = some (.type "type")) (h4 : PySem.W.subIn K (.ref S) (.ref S) = some true) :
    PySem.W.exmOne K (.ref S) (.ref S) = some true := PySem.W.exm_ref h1 h2 h3 h4
theorem all_mk {l : PySem.W.OpenLaw} {q : Program} {w : World} {K : PySem.W.Frag} {h : Heap} {mg : Str → Option Value} {fa : Addr} (X : K.In h) (G : h.Ns mainGlobals mg) (hfa : mg "law" = some (.ref fa)) (tabs : GX.AllTabs q K mg h) (hrecT1 : ((recsOf q).any fun e => e.name == ("is_word" : Str)) = true) (hrecT2 : ((recsOf q).any fun e => e.name == ("is_label" : Str)) = true) (hrecT4 : ((recsOf q).any fun e => e.name == ("is_text" : Str)) = true) (hrecT3 : ((recsOf q).any fun e => e.name == ("is_path" : Str)) = true) (hrecT5 : ((recsOf q).any fun e => e.name == ("is_rising" : Str)) = true) (hrecT6 : ((recsOf q).any fun e => e.name == ("are_texts" : Str)) = true)
    {fS fD fP fTU fGL fGN fHI fLT fGV fKY fAV fGP fCF fFA fW fN fTO fWI fIL fRL fIH fII fRI fOL fTX fTL fIP fRP fIV fRV fRVs fCO fRS fAT fIC fRC fRF fRR fLA fRQ fLF1 fGI fWV fWS fWP fLL fLW fLN fLV fLI fVS fLP fLC fLQ fSL fSI fSV fSS fSH fSC fSP fSQ fLAW fIE CE CW : Addr} {odS anS odD anD odP anP odTU anTU odGL anGL odGN anGN odHI anHI odLT anLT odGV anGV odKY anKY odAV anAV odGP anGP odCF anCF odFA anFA odW anW odN anN odTO anTO odWI anWI odIL anIL odRL anRL odIH anIH odII anII odRI anRI odOL anOL odTX anTX odTL anTL odIP anIP odRP anRP odIV anIV odRV anRV odRVs anRVs odCO anCO odRS anRS odAT anAT odIC anIC odRC anRC odRF anRF odRR anRR odLA anLA odRQ anRQ odLF1 anLF1 odGI anGI odWV anWV odWS anWS odWP anWP odLL anLL odLW anLW odLN anLN odLV anLV odLI anLI odVS anVS odLP anLP odLC anLC odLQ anLQ odSL anSL odSI anSI odSV anSV odSS anSS odSH anSH odSC anSC odSP anSP odSQ anSQ odLAW anLAW odIE anIE : Option Addr} {slS slD slP slTU slGL slGN slHI slLT slGV slKY slAV slGP slCF slFA slW slN slTO slWI slIL slRL slIH slII slRI slOL slTX slTL slIP slRP slIV slRV slRVs slCO slRS slAT slIC slRC slRF slRR slLA slRQ slLF1 slGI slWV slWS slWP slLL slLW slLN slLV slLI slVS slLP slLC slLQ slSL slSI slSV slSS slSH slSC slSP slSQ slLAW slIE : Array (Option Value)}
    {ocS kVS dcS pmS ctS cdS ocD kVD dcD pmD ctD cdD ocP kVP dcP pmP ctP cdP ocTU kVTU dcTU pmTU ctTU cdTU ocGL kVGL dcGL pmGL ctGL cdGL ocGN kVGN dcGN pmGN ctGN cdGN ocHI kVHI dcHI pmHI ctHI cdHI ocLT kVLT dcLT pmLT ctLT cdLT ocGV kVGV dcGV pmGV ctGV cdGV ocKY kVKY dcKY pmKY ctKY cdKY ocAV kVAV dcAV pmAV ctAV cdAV ocGP kVGP dcGP pmGP ctGP cdGP ocCF kVCF dcCF pmCF ctCF cdCF ocFA kVFA dcFA pmFA ctFA cdFA ocW kVW dcW pmW ctW ocN kVN dcN pmN ctN cdN ocTO kVTO dcTO pmTO ctTO cdTO ocWI kVWI dcWI pmWI ctWI cdWI ocIL kVIL dcIL pmIL ctIL ocRL kVRL dcRL pmRL ctRL cdRL ocIH kVIH dcIH pmIH ctIH cdIH ocII kVII dcII pmII ctII cdII ocRI kVRI dcRI pmRI ctRI cdRI ocOL kVOL dcOL pmOL ctOL cdOL ocTX kVTX dcTX pmTX ctTX ocTL kVTL dcTL pmTL ctTL cdTL ocIP kVIP dcIP pmIP ctIP ocRP kVRP dcRP pmRP ctRP cdRP ocIV kVIV dcIV pmIV ctIV cdIV ocRV kVRV dcRV pmRV ctRV cdRV ocRVs kVRVs dcRVs pmRVs ctRVs cdRVs ocCO kVCO dcCO pmCO ctCO cdCO ocRS kVRS dcRS pmRS ctRS ocAT kVAT dcAT pmAT ctAT ocIC kVIC dcIC pmIC ctIC cdIC ocRC kVRC dcRC pmRC ctRC cdRC ocRF kVRF dcRF pmRF ctRF cdRF ocRR kVRR dcRR pmRR ctRR cdRR ocLA kVLA dcLA pmLA ctLA cdLA ocRQ kVRQ dcRQ pmRQ ctRQ cdRQ ocLF1 kVLF1 dcLF1 pmLF1 ctLF1 cdLF1 ocGI kVGI dcGI pmGI ctGI cdGI ocWV kVWV dcWV pmWV ctWV cdWV ocWS kVWS dcWS pmWS ctWS cdWS ocWP kVWP dcWP pmWP ctWP cdWP ocLL kVLL dcLL pmLL ctLL cdLL ocLW kVLW dcLW pmLW ctLW cdLW ocLN kVLN dcLN pmLN ctLN cdLN ocLV kVLV dcLV pmLV ctLV cdLV ocLI kVLI dcLI pmLI ctLI cdLI ocVS kVVS dcVS pmVS ctVS cdVS ocLP kVLP dcLP pmLP ctLP cdLP ocLC kVLC dcLC pmLC ctLC cdLC ocLQ kVLQ dcLQ pmLQ ctLQ cdLQ ocSL kVSL dcSL pmSL ctSL cdSL ocSI kVSI dcSI pmSI ctSI cdSI ocSV kVSV dcSV pmSV ctSV cdSV ocSS kVSS dcSS pmSS ctSS cdSS ocSH kVSH dcSH pmSH ctSH cdSH ocSC kVSC dcSC pmSC ctSC cdSC ocSP kVSP dcSP pmSP ctSP cdSP ocSQ kVSQ dcSQ pmSQ ctSQ cdSQ ocLAW kVLAW dcLAW pmLAW ctLAW cdLAW ocIE dcIE pmIE cdIE ctIE : Value}
    {cW T1 cIL T2 cIP T3 cTX T4 cRS T5 cAT T6 : Addr} {eW eIL eIP eTX eRS eAT : Value} {ddW ddIL ddIP ddTX ddRS ddAT : Option Addr} {vsW vsIL vsIP vsTX vsRS vsAT : Array Value} {ssW ssIL ssIP ssTX ssRS ssAT : Array (Option Value)}
    {kLE kDI kMC : Tok}
    (aS : PySem.W.nsIn K mainGlobals "_law_state" = some (some (.ref fS)))
    (lS : K.lookup fS = some ⟨ocS, odS, .func (PySem.W.fnOf "_law_state" "_law_state" (defArgs sState) (defBody sState) (defScope sState) .none kVS dcS pmS anS cdS ctS), slS⟩)
    (cS1 : PySem.W.codeIn K cdS "_law_state" = true) (kS1 : PySem.W.keepIn K (.ref fS) = true)
    (aD : PySem.W.nsIn K mainGlobals "_law_draw" = some (some (.ref fD)))
    (lD : K.lookup fD = some ⟨ocD, odD, .func (PySem.W.fnOf "_law_draw" "_law_draw" (defArgs sDraw) (defBody sDraw) (defScope sDraw) .none kVD dcD pmD anD cdD ctD), slD⟩)
    (cD1 : PySem.W.codeIn K cdD "_law_draw" = true) (kD1 : PySem.W.keepIn K (.ref fD) = true)
    (aP : PySem.W.nsIn K mainGlobals "_law_pick" = some (some (.ref fP)))
    (lP : K.lookup fP = some ⟨ocP, odP, .func (PySem.W.fnOf "_law_pick" "_law_pick" (defArgs sPick) (defBody sPick) (defScope sPick) .none kVP dcP pmP anP cdP ctP), slP⟩)
    (cP1 : PySem.W.codeIn K cdP "_law_pick" = true) (kP1 : PySem.W.keepIn K (.ref fP) = true)
    (aTU : PySem.W.nsIn K mainGlobals "_law_turned" = some (some (.ref fTU)))
    (lTU : K.lookup fTU = some ⟨ocTU, odTU, .func (PySem.W.fnOf "_law_turned" "_law_turned" (defArgs sTU) (defBody sTU) (defScope sTU) .none kVTU dcTU pmTU anTU cdTU ctTU), slTU⟩)
    (cTU1 : PySem.W.codeIn K cdTU "_law_turned" = true) (kTU1 : PySem.W.keepIn K (.ref fTU) = true)
    (aGL : PySem.W.nsIn K mainGlobals "_law_is_label" = some (some (.ref fGL)))
    (lGL : K.lookup fGL = some ⟨ocGL, odGL, .func (PySem.W.fnOf "_law_is_label" "_law_is_label" (defArgs sGL) (defBody sGL) (defScope sGL) .none kVGL dcGL pmGL anGL cdGL ctGL), slGL⟩)
    (cGL1 : PySem.W.codeIn K cdGL "_law_is_label" = true) (kGL1 : PySem.W.keepIn K (.ref fGL) = true)
    (aGN : PySem.W.nsIn K mainGlobals "_law_is_number" = some (some (.ref fGN)))
    (lGN : K.lookup fGN = some ⟨ocGN, odGN, .func (PySem.W.fnOf "_law_is_number" "_law_is_number" (defArgs sGN) (defBody sGN) (defScope sGN) .none kVGN dcGN pmGN anGN cdGN ctGN), slGN⟩)
    (cGN1 : PySem.W.codeIn K cdGN "_law_is_number" = true) (kGN1 : PySem.W.keepIn K (.ref fGN) = true)
    (aHI : PySem.W.nsIn K mainGlobals "_law_is_id" = some (some (.ref fHI)))
    (lHI : K.lookup fHI = some ⟨ocHI, odHI, .func (PySem.W.fnOf "_law_is_id" "_law_is_id" (defArgs sHI) (defBody sHI) (defScope sHI) .none kVHI dcHI pmHI anHI cdHI ctHI), slHI⟩)
    (cHI1 : PySem.W.codeIn K cdHI "_law_is_id" = true) (kHI1 : PySem.W.keepIn K (.ref fHI) = true)
    (aLT : PySem.W.nsIn K mainGlobals "_law_is_text" = some (some (.ref fLT)))
    (lLT : K.lookup fLT = some ⟨ocLT, odLT, .func (PySem.W.fnOf "_law_is_text" "_law_is_text" (defArgs sLT) (defBody sLT) (defScope sLT) .none kVLT dcLT pmLT anLT cdLT ctLT), slLT⟩)
    (cLT1 : PySem.W.codeIn K cdLT "_law_is_text" = true) (kLT1 : PySem.W.keepIn K (.ref fLT) = true)
    (aGV : PySem.W.nsIn K mainGlobals "_law_is_vertex" = some (some (.ref fGV)))
    (lGV : K.lookup fGV = some ⟨ocGV, odGV, .func (PySem.W.fnOf "_law_is_vertex" "_law_is_vertex" (defArgs sGV) (defBody sGV) (defScope sGV) .none kVGV dcGV pmGV anGV cdGV ctGV), slGV⟩)
    (cGV1 : PySem.W.codeIn K cdGV "_law_is_vertex" = true) (kGV1 : PySem.W.keepIn K (.ref fGV) = true)
    (aKY : PySem.W.nsIn K mainGlobals "_law_key" = some (some (.ref fKY)))
    (lKY : K.lookup fKY = some ⟨ocKY, odKY, .func (PySem.W.fnOf "_law_key" "_law_key" (defArgs sKY) (defBody sKY) (defScope sKY) .none kVKY dcKY pmKY anKY cdKY ctKY), slKY⟩)
    (cKY1 : PySem.W.codeIn K cdKY "_law_key" = true) (kKY1 : PySem.W.keepIn K (.ref fKY) = true)
    (aAV : PySem.W.nsIn K mainGlobals "_law_are_vertices" = some (some (.ref fAV)))
    (lAV : K.lookup fAV = some ⟨ocAV, odAV, .func (PySem.W.fnOf "_law_are_vertices" "_law_are_vertices" (defArgs sAV) (defBody sAV) (defScope sAV) .none kVAV dcAV pmAV anAV cdAV ctAV), slAV⟩)
    (cAV1 : PySem.W.codeIn K cdAV "_law_are_vertices" = true) (kAV1 : PySem.W.keepIn K (.ref fAV) = true)
    (aGP : PySem.W.nsIn K mainGlobals "_law_is_path" = some (some (.ref fGP)))
    (lGP : K.lookup fGP = some ⟨ocGP, odGP, .func (PySem.W.fnOf "_law_is_path" "_law_is_path" (defArgs sGP) (defBody sGP) (defScope sGP) .none kVGP dcGP pmGP anGP cdGP ctGP), slGP⟩)
    (cGP1 : PySem.W.codeIn K cdGP "_law_is_path" = true) (kGP1 : PySem.W.keepIn K (.ref fGP) = true)
    (aCF : PySem.W.nsIn K mainGlobals "_law_change_fits" = some (some (.ref fCF)))
    (lCF : K.lookup fCF = some ⟨ocCF, odCF, .func (PySem.W.fnOf "_law_change_fits" "_law_change_fits" (defArgs sCF) (defBody sCF) (defScope sCF) .none kVCF dcCF pmCF anCF cdCF ctCF), slCF⟩)
    (cCF1 : PySem.W.codeIn K cdCF "_law_change_fits" = true) (kCF1 : PySem.W.keepIn K (.ref fCF) = true)
    (aFA : PySem.W.nsIn K mainGlobals "_law_fault" = some (some (.ref fFA)))
    (lFA : K.lookup fFA = some ⟨ocFA, odFA, .func (PySem.W.fnOf "_law_fault" "_law_fault" (defArgs sFA) (defBody sFA) (defScope sFA) .none kVFA dcFA pmFA anFA cdFA ctFA), slFA⟩)
    (cFA1 : PySem.W.codeIn K cdFA "_law_fault" = true) (kFA1 : PySem.W.keepIn K (.ref fFA) = true)
    (aW : PySem.W.nsIn K mainGlobals "is_word" = some (some (.ref fW)))
    (lW : K.lookup fW = some ⟨ocW, odW, .func (PySem.W.fnOf "is_word" "is_word" (defArgs sWord) (defBody sWord) (defScope sWord) .none kVW dcW pmW anW (.ref cW) ctW), slW⟩)
    (cW1 : PySem.W.codeIn K (.ref cW) "is_word" = true) (kW1 : PySem.W.keepIn K (.ref fW) = true)
    (aN : PySem.W.nsIn K mainGlobals "read_number" = some (some (.ref fN)))
    (lN : K.lookup fN = some ⟨ocN, odN, .func (PySem.W.fnOf "read_number" "read_number" (defArgs sNum) (defBody sNum) (defScope sNum) .none kVN dcN pmN anN cdN ctN), slN⟩)
    (cN1 : PySem.W.codeIn K cdN "read_number" = true) (kN1 : PySem.W.keepIn K (.ref fN) = true)
    (aTO : PySem.W.nsIn K mainGlobals "is_tuple_of" = some (some (.ref fTO)))
    (lTO : K.lookup fTO = some ⟨ocTO, odTO, .func (PySem.W.fnOf "is_tuple_of" "is_tuple_of" (defArgs sTO) (defBody sTO) (defScope sTO) .none kVTO dcTO pmTO anTO cdTO ctTO), slTO⟩)
    (cTO1 : PySem.W.codeIn K cdTO "is_tuple_of" = true) (kTO1 : PySem.W.keepIn K (.ref fTO) = true)
    (aWI : PySem.W.nsIn K mainGlobals "is_within" = some (some (.ref fWI)))
    (lWI : K.lookup fWI = some ⟨ocWI, odWI, .func (PySem.W.fnOf "is_within" "is_within" (defArgs sWI) (defBody sWI) (defScope sWI) .none kVWI dcWI pmWI anWI cdWI ctWI), slWI⟩)
    (cWI1 : PySem.W.codeIn K cdWI "is_within" = true) (kWI1 : PySem.W.keepIn K (.ref fWI) = true)
    (aIL : PySem.W.nsIn K mainGlobals "is_label" = some (some (.ref fIL)))
    (lIL : K.lookup fIL = some ⟨ocIL, odIL, .func (PySem.W.fnOf "is_label" "is_label" (defArgs sIL) (defBody sIL) (defScope sIL) .none kVIL dcIL pmIL anIL (.ref cIL) ctIL), slIL⟩)
    (cIL1 : PySem.W.codeIn K (.ref cIL) "is_label" = true) (kIL1 : PySem.W.keepIn K (.ref fIL) = true)
    (aRL : PySem.W.nsIn K mainGlobals "read_label" = some (some (.ref fRL)))
    (lRL : K.lookup fRL = some ⟨ocRL, odRL, .func (PySem.W.fnOf "read_label" "read_label" (defArgs sRL) (defBody sRL) (defScope sRL) .none kVRL dcRL pmRL anRL cdRL ctRL), slRL⟩)
    (cRL1 : PySem.W.codeIn K cdRL "read_label" = true) (kRL1 : PySem.W.keepIn K (.ref fRL) = true)
    (aIH : PySem.W.nsIn K mainGlobals "is_hand" = some (some (.ref fIH)))
    (lIH : K.lookup fIH = some ⟨ocIH, odIH, .func (PySem.W.fnOf "is_hand" "is_hand" (defArgs sIH) (defBody sIH) (defScope sIH) .none kVIH dcIH pmIH anIH cdIH ctIH), slIH⟩)
    (cIH1 : PySem.W.codeIn K cdIH "is_hand" = true) (kIH1 : PySem.W.keepIn K (.ref fIH) = true)
    (aII : PySem.W.nsIn K mainGlobals "is_id" = some (some (.ref fII)))
    (lII : K.lookup fII = some ⟨ocII, odII, .func (PySem.W.fnOf "is_id" "is_id" (defArgs sII) (defBody sII) (defScope sII) .none kVII dcII pmII anII cdII ctII), slII⟩)
    (cII1 : PySem.W.codeIn K cdII "is_id" = true) (kII1 : PySem.W.keepIn K (.ref fII) = true)
    (aRI : PySem.W.nsIn K mainGlobals "read_id" = some (some (.ref fRI)))
    (lRI : K.lookup fRI = some ⟨ocRI, odRI, .func (PySem.W.fnOf "read_id" "read_id" (defArgs sRI) (defBody sRI) (defScope sRI) .none kVRI dcRI pmRI anRI cdRI ctRI), slRI⟩)
    (cRI1 : PySem.W.codeIn K cdRI "read_id" = true) (kRI1 : PySem.W.keepIn K (.ref fRI) = true)
    (aOL : PySem.W.nsIn K mainGlobals "rest_of_line" = some (some (.ref fOL)))
    (lOL : K.lookup fOL = some ⟨ocOL, odOL, .func (PySem.W.fnOf "rest_of_line" "rest_of_line" (defArgs sOL) (defBody sOL) (defScope sOL) .none kVOL dcOL pmOL anOL cdOL ctOL), slOL⟩)
    (cOL1 : PySem.W.codeIn K cdOL "rest_of_line" = true) (kOL1 : PySem.W.keepIn K (.ref fOL) = true)
    (aTX : PySem.W.nsIn K mainGlobals "is_text" = some (some (.ref fTX)))
    (lTX : K.lookup fTX = some ⟨ocTX, odTX, .func (PySem.W.fnOf "is_text" "is_text" (defArgs sTX) (defBody sTX) (defScope sTX) .none kVTX dcTX pmTX anTX (.ref cTX) ctTX), slTX⟩)
    (cTX1 : PySem.W.codeIn K (.ref cTX) "is_text" = true) (kTX1 : PySem.W.keepIn K (.ref fTX) = true)
    (aTL : PySem.W.nsIn K mainGlobals "read_text_line" = some (some (.ref fTL)))
    (lTL : K.lookup fTL = some ⟨ocTL, odTL, .func (PySem.W.fnOf "read_text_line" "read_text_line" (defArgs sTL) (defBody sTL) (defScope sTL) .none kVTL dcTL pmTL anTL cdTL ctTL), slTL⟩)
    (cTL1 : PySem.W.codeIn K cdTL "read_text_line" = true) (kTL1 : PySem.W.keepIn K (.ref fTL) = true)
    (aIP : PySem.W.nsIn K mainGlobals "is_path" = some (some (.ref fIP)))
    (lIP : K.lookup fIP = some ⟨ocIP, odIP, .func (PySem.W.fnOf "is_path" "is_path" (defArgs sIP) (defBody sIP) (defScope sIP) .none kVIP dcIP pmIP anIP (.ref cIP) ctIP), slIP⟩)
    (cIP1 : PySem.W.codeIn K (.ref cIP) "is_path" = true) (kIP1 : PySem.W.keepIn K (.ref fIP) = true)
    (aRP : PySem.W.nsIn K mainGlobals "read_path" = some (some (.ref fRP)))
    (lRP : K.lookup fRP = some ⟨ocRP, odRP, .func (PySem.W.fnOf "read_path" "read_path" (defArgs sRP) (defBody sRP) (defScope sRP) .none kVRP dcRP pmRP anRP cdRP ctRP), slRP⟩)
    (cRP1 : PySem.W.codeIn K cdRP "read_path" = true) (kRP1 : PySem.W.keepIn K (.ref fRP) = true)
    (aIV : PySem.W.nsIn K mainGlobals "is_vertex" = some (some (.ref fIV)))
    (lIV : K.lookup fIV = some ⟨ocIV, odIV, .func (PySem.W.fnOf "is_vertex" "is_vertex" (defArgs sIV) (defBody sIV) (defScope sIV) .none kVIV dcIV pmIV anIV cdIV ctIV), slIV⟩)
    (cIV1 : PySem.W.codeIn K cdIV "is_vertex" = true) (kIV1 : PySem.W.keepIn K (.ref fIV) = true)
    (aRV : PySem.W.nsIn K mainGlobals "read_vertex" = some (some (.ref fRV)))
    (lRV : K.lookup fRV = some ⟨ocRV, odRV, .func (PySem.W.fnOf "read_vertex" "read_vertex" (defArgs sRV) (defBody sRV) (defScope sRV) .none kVRV dcRV pmRV anRV cdRV ctRV), slRV⟩)
    (cRV1 : PySem.W.codeIn K cdRV "read_vertex" = true) (kRV1 : PySem.W.keepIn K (.ref fRV) = true)
    (aRVs : PySem.W.nsIn K mainGlobals "read_vertices" = some (some (.ref fRVs)))
    (lRVs : K.lookup fRVs = some ⟨ocRVs, odRVs, .func (PySem.W.fnOf "read_vertices" "read_vertices" (defArgs sRVs) (defBody sRVs) (defScope sRVs) .none kVRVs dcRVs pmRVs anRVs cdRVs ctRVs), slRVs⟩)
    (cRVs1 : PySem.W.codeIn K cdRVs "read_vertices" = true) (kRVs1 : PySem.W.keepIn K (.ref fRVs) = true)
    (aCO : PySem.W.nsIn K mainGlobals "change_of" = some (some (.ref fCO)))
    (lCO : K.lookup fCO = some ⟨ocCO, odCO, .func (PySem.W.fnOf "change_of" "change_of" (defArgs sCO) (defBody sCO) (defScope sCO) .none kVCO dcCO pmCO anCO cdCO ctCO), slCO⟩)
    (cCO1 : PySem.W.codeIn K cdCO "change_of" = true) (kCO1 : PySem.W.keepIn K (.ref fCO) = true)
    (aRS : PySem.W.nsIn K mainGlobals "is_rising" = some (some (.ref fRS)))
    (lRS : K.lookup fRS = some ⟨ocRS, odRS, .func (PySem.W.fnOf "is_rising" "is_rising" (defArgs sRS) (defBody sRS) (defScope sRS) .none kVRS dcRS pmRS anRS (.ref cRS) ctRS), slRS⟩)
    (cRS1 : PySem.W.codeIn K (.ref cRS) "is_rising" = true) (kRS1 : PySem.W.keepIn K (.ref fRS) = true)
    (aAT : PySem.W.nsIn K mainGlobals "are_texts" = some (some (.ref fAT)))
    (lAT : K.lookup fAT = some ⟨ocAT, odAT, .func (PySem.W.fnOf "are_texts" "are_texts" (defArgs sAT) (defBody sAT) (defScope sAT) .none kVAT dcAT pmAT anAT (.ref cAT) ctAT), slAT⟩)
    (cAT1 : PySem.W.codeIn K (.ref cAT) "are_texts" = true) (kAT1 : PySem.W.keepIn K (.ref fAT) = true)
    (aIC : PySem.W.nsIn K mainGlobals "is_change" = some (some (.ref fIC)))
    (lIC : K.lookup fIC = some ⟨ocIC, odIC, .func (PySem.W.fnOf "is_change" "is_change" (defArgs sIC) (defBody sIC) (defScope sIC) .none kVIC dcIC pmIC anIC cdIC ctIC), slIC⟩)
    (cIC1 : PySem.W.codeIn K cdIC "is_change" = true) (kIC1 : PySem.W.keepIn K (.ref fIC) = true)
    (aRC : PySem.W.nsIn K mainGlobals "read_change" = some (some (.ref fRC)))
    (lRC : K.lookup fRC = some ⟨ocRC, odRC, .func (PySem.W.fnOf "read_change" "read_change" (defArgs sRC) (defBody sRC) (defScope sRC) .none kVRC dcRC pmRC anRC cdRC ctRC), slRC⟩)
    (cRC1 : PySem.W.codeIn K cdRC "read_change" = true) (kRC1 : PySem.W.keepIn K (.ref fRC) = true)
    (aRF : PySem.W.nsIn K mainGlobals "read_from" = some (some (.ref fRF)))
    (lRF : K.lookup fRF = some ⟨ocRF, odRF, .func (PySem.W.fnOf "read_from" "read_from" (defArgs sRF) (defBody sRF) (defScope sRF) .none kVRF dcRF pmRF anRF cdRF ctRF), slRF⟩)
    (cRF1 : PySem.W.codeIn K cdRF "read_from" = true) (kRF1 : PySem.W.keepIn K (.ref fRF) = true)
    (aRR : PySem.W.nsIn K mainGlobals "read_patches" = some (some (.ref fRR)))
    (lRR : K.lookup fRR = some ⟨ocRR, odRR, .func (PySem.W.fnOf "read_patches" "read_patches" (defArgs sRR) (defBody sRR) (defScope sRR) .none kVRR dcRR pmRR anRR cdRR ctRR), slRR⟩)
    (cRR1 : PySem.W.codeIn K cdRR "read_patches" = true) (kRR1 : PySem.W.keepIn K (.ref fRR) = true)
    (aLA : PySem.W.nsIn K mainGlobals "_law_all" = some (some (.ref fLA)))
    (lLA : K.lookup fLA = some ⟨ocLA, odLA, .func (PySem.W.fnOf "_law_all" "_law_all" (defArgs sLA) (defBody sLA) (defScope sLA) .none kVLA dcLA pmLA anLA cdLA ctLA), slLA⟩)
    (cLA1 : PySem.W.codeIn K cdLA "_law_all" = true) (kLA1 : PySem.W.keepIn K (.ref fLA) = true)
    (aRQ : PySem.W.nsIn K mainGlobals "read_patch" = some (some (.ref fRQ)))
    (lRQ : K.lookup fRQ = some ⟨ocRQ, odRQ, .func (PySem.W.fnOf "read_patch" "read_patch" (defArgs sRQ) (defBody sRQ) (defScope sRQ) .none kVRQ dcRQ pmRQ anRQ cdRQ ctRQ), slRQ⟩)
    (cRQ1 : PySem.W.codeIn K cdRQ "read_patch" = true) (kRQ1 : PySem.W.keepIn K (.ref fRQ) = true)
    (aLF1 : PySem.W.nsIn K mainGlobals "_law_first" = some (some (.ref fLF1)))
    (lLF1 : K.lookup fLF1 = some ⟨ocLF1, odLF1, .func (PySem.W.fnOf "_law_first" "_law_first" (defArgs sLF1) (defBody sLF1) (defScope sLF1) .none kVLF1 dcLF1 pmLF1 anLF1 cdLF1 ctLF1), slLF1⟩)
    (cLF11 : PySem.W.codeIn K cdLF1 "_law_first" = true) (kLF11 : PySem.W.keepIn K (.ref fLF1) = true)
    (aGI : PySem.W.nsIn K mainGlobals "_law_show_id" = some (some (.ref fGI)))
    (lGI : K.lookup fGI = some ⟨ocGI, odGI, .func (PySem.W.fnOf "_law_show_id" "_law_show_id" (defArgs sGI) (defBody sGI) (defScope sGI) .none kVGI dcGI pmGI anGI cdGI ctGI), slGI⟩)
    (cGI1 : PySem.W.codeIn K cdGI "_law_show_id" = true) (kGI1 : PySem.W.keepIn K (.ref fGI) = true)
    (aWV : PySem.W.nsIn K mainGlobals "_law_show_vertex" = some (some (.ref fWV)))
    (lWV : K.lookup fWV = some ⟨ocWV, odWV, .func (PySem.W.fnOf "_law_show_vertex" "_law_show_vertex" (defArgs sWV) (defBody sWV) (defScope sWV) .none kVWV dcWV pmWV anWV cdWV ctWV), slWV⟩)
    (cWV1 : PySem.W.codeIn K cdWV "_law_show_vertex" = true) (kWV1 : PySem.W.keepIn K (.ref fWV) = true)
    (aWS : PySem.W.nsIn K mainGlobals "_law_show_vertices" = some (some (.ref fWS)))
    (lWS : K.lookup fWS = some ⟨ocWS, odWS, .func (PySem.W.fnOf "_law_show_vertices" "_law_show_vertices" (defArgs sWS) (defBody sWS) (defScope sWS) .none kVWS dcWS pmWS anWS cdWS ctWS), slWS⟩)
    (cWS1 : PySem.W.codeIn K cdWS "_law_show_vertices" = true) (kWS1 : PySem.W.keepIn K (.ref fWS) = true)
    (aWP : PySem.W.nsIn K mainGlobals "_law_show_patch" = some (some (.ref fWP)))
    (lWP : K.lookup fWP = some ⟨ocWP, odWP, .func (PySem.W.fnOf "_law_show_patch" "_law_show_patch" (defArgs sWP) (defBody sWP) (defScope sWP) .none kVWP dcWP pmWP anWP cdWP ctWP), slWP⟩)
    (cWP1 : PySem.W.codeIn K cdWP "_law_show_patch" = true) (kWP1 : PySem.W.keepIn K (.ref fWP) = true)
    (aLL : PySem.W.nsIn K mainGlobals "_law_label" = some (some (.ref fLL)))
    (lLL : K.lookup fLL = some ⟨ocLL, odLL, .func (PySem.W.fnOf "_law_label" "_law_label" (defArgs sLL) (defBody sLL) (defScope sLL) .none kVLL dcLL pmLL anLL cdLL ctLL), slLL⟩)
    (cLL1 : PySem.W.codeIn K cdLL "_law_label" = true) (kLL1 : PySem.W.keepIn K (.ref fLL) = true)
    (aLW : PySem.W.nsIn K mainGlobals "_law_word" = some (some (.ref fLW)))
    (lLW : K.lookup fLW = some ⟨ocLW, odLW, .func (PySem.W.fnOf "_law_word" "_law_word" (defArgs sLW) (defBody sLW) (defScope sLW) .none kVLW dcLW pmLW anLW cdLW ctLW), slLW⟩)
    (cLW1 : PySem.W.codeIn K cdLW "_law_word" = true) (kLW1 : PySem.W.keepIn K (.ref fLW) = true)
    (aLN : PySem.W.nsIn K mainGlobals "_law_name" = some (some (.ref fLN)))
    (lLN : K.lookup fLN = some ⟨ocLN, odLN, .func (PySem.W.fnOf "_law_name" "_law_name" (defArgs sLN) (defBody sLN) (defScope sLN) .none kVLN dcLN pmLN anLN cdLN ctLN), slLN⟩)
    (cLN1 : PySem.W.codeIn K cdLN "_law_name" = true) (kLN1 : PySem.W.keepIn K (.ref fLN) = true)
    (aLV : PySem.W.nsIn K mainGlobals "_law_vertex" = some (some (.ref fLV)))
    (lLV : K.lookup fLV = some ⟨ocLV, odLV, .func (PySem.W.fnOf "_law_vertex" "_law_vertex" (defArgs sLV) (defBody sLV) (defScope sLV) .none kVLV dcLV pmLV anLV cdLV ctLV), slLV⟩)
    (cLV1 : PySem.W.codeIn K cdLV "_law_vertex" = true) (kLV1 : PySem.W.keepIn K (.ref fLV) = true)
    (aLI : PySem.W.nsIn K mainGlobals "_law_line" = some (some (.ref fLI)))
    (lLI : K.lookup fLI = some ⟨ocLI, odLI, .func (PySem.W.fnOf "_law_line" "_law_line" (defArgs sLI) (defBody sLI) (defScope sLI) .none kVLI dcLI pmLI anLI cdLI ctLI), slLI⟩)
    (cLI1 : PySem.W.codeIn K cdLI "_law_line" = true) (kLI1 : PySem.W.keepIn K (.ref fLI) = true)
    (aVS : PySem.W.nsIn K mainGlobals "_law_vertices" = some (some (.ref fVS)))
    (lVS : K.lookup fVS = some ⟨ocVS, odVS, .func (PySem.W.fnOf "_law_vertices" "_law_vertices" (defArgs sVS) (defBody sVS) (defScope sVS) .none kVVS dcVS pmVS anVS cdVS ctVS), slVS⟩)
    (cVS1 : PySem.W.codeIn K cdVS "_law_vertices" = true) (kVS1 : PySem.W.keepIn K (.ref fVS) = true)
    (aLP : PySem.W.nsIn K mainGlobals "_law_path" = some (some (.ref fLP)))
    (lLP : K.lookup fLP = some ⟨ocLP, odLP, .func (PySem.W.fnOf "_law_path" "_law_path" (defArgs sLP) (defBody sLP) (defScope sLP) .none kVLP dcLP pmLP anLP cdLP ctLP), slLP⟩)
    (cLP1 : PySem.W.codeIn K cdLP "_law_path" = true) (kLP1 : PySem.W.keepIn K (.ref fLP) = true)
    (aLC : PySem.W.nsIn K mainGlobals "_law_change" = some (some (.ref fLC)))
    (lLC : K.lookup fLC = some ⟨ocLC, odLC, .func (PySem.W.fnOf "_law_change" "_law_change" (defArgs sLC) (defBody sLC) (defScope sLC) .none kVLC dcLC pmLC anLC cdLC ctLC), slLC⟩)
    (cLC1 : PySem.W.codeIn K cdLC "_law_change" = true) (kLC1 : PySem.W.keepIn K (.ref fLC) = true)
    (aLQ : PySem.W.nsIn K mainGlobals "_law_patch" = some (some (.ref fLQ)))
    (lLQ : K.lookup fLQ = some ⟨ocLQ, odLQ, .func (PySem.W.fnOf "_law_patch" "_law_patch" (defArgs sLQ) (defBody sLQ) (defScope sLQ) .none kVLQ dcLQ pmLQ anLQ cdLQ ctLQ), slLQ⟩)
    (cLQ1 : PySem.W.codeIn K cdLQ "_law_patch" = true) (kLQ1 : PySem.W.keepIn K (.ref fLQ) = true)
    (aSL : PySem.W.nsIn K mainGlobals "show_label" = some (some (.ref fSL)))
    (lSL : K.lookup fSL = some ⟨ocSL, odSL, .func (PySem.W.fnOf "show_label" "show_label" (defArgs sSL) (defBody sSL) (defScope sSL) .none kVSL dcSL pmSL anSL cdSL ctSL), slSL⟩)
    (cSL1 : PySem.W.codeIn K cdSL "show_label" = true) (kSL1 : PySem.W.keepIn K (.ref fSL) = true)
    (aSI : PySem.W.nsIn K mainGlobals "show_id" = some (some (.ref fSI)))
    (lSI : K.lookup fSI = some ⟨ocSI, odSI, .func (PySem.W.fnOf "show_id" "show_id" (defArgs sSI) (defBody sSI) (defScope sSI) .none kVSI dcSI pmSI anSI cdSI ctSI), slSI⟩)
    (cSI1 : PySem.W.codeIn K cdSI "show_id" = true) (kSI1 : PySem.W.keepIn K (.ref fSI) = true)
    (aSV : PySem.W.nsIn K mainGlobals "show_vertex" = some (some (.ref fSV)))
    (lSV : K.lookup fSV = some ⟨ocSV, odSV, .func (PySem.W.fnOf "show_vertex" "show_vertex" (defArgs sSV) (defBody sSV) (defScope sSV) .none kVSV dcSV pmSV anSV cdSV ctSV), slSV⟩)
    (cSV1 : PySem.W.codeIn K cdSV "show_vertex" = true) (kSV1 : PySem.W.keepIn K (.ref fSV) = true)
    (aSS : PySem.W.nsIn K mainGlobals "show_vertices" = some (some (.ref fSS)))
    (lSS : K.lookup fSS = some ⟨ocSS, odSS, .func (PySem.W.fnOf "show_vertices" "show_vertices" (defArgs sSS) (defBody sSS) (defScope sSS) .none kVSS dcSS pmSS anSS cdSS ctSS), slSS⟩)
    (cSS1 : PySem.W.codeIn K cdSS "show_vertices" = true) (kSS1 : PySem.W.keepIn K (.ref fSS) = true)
    (aSH : PySem.W.nsIn K mainGlobals "show_path" = some (some (.ref fSH)))
    (lSH : K.lookup fSH = some ⟨ocSH, odSH, .func (PySem.W.fnOf "show_path" "show_path" (defArgs sSH) (defBody sSH) (defScope sSH) .none kVSH dcSH pmSH anSH cdSH ctSH), slSH⟩)
    (cSH1 : PySem.W.codeIn K cdSH "show_path" = true) (kSH1 : PySem.W.keepIn K (.ref fSH) = true)
    (aSC : PySem.W.nsIn K mainGlobals "show_change" = some (some (.ref fSC)))
    (lSC : K.lookup fSC = some ⟨ocSC, odSC, .func (PySem.W.fnOf "show_change" "show_change" (defArgs sSC) (defBody sSC) (defScope sSC) .none kVSC dcSC pmSC anSC cdSC ctSC), slSC⟩)
    (cSC1 : PySem.W.codeIn K cdSC "show_change" = true) (kSC1 : PySem.W.keepIn K (.ref fSC) = true)
    (aSP : PySem.W.nsIn K mainGlobals "show_patch" = some (some (.ref fSP)))
    (lSP : K.lookup fSP = some ⟨ocSP, odSP, .func (PySem.W.fnOf "show_patch" "show_patch" (defArgs sSP) (defBody sSP) (defScope sSP) .none kVSP dcSP pmSP anSP cdSP ctSP), slSP⟩)
    (cSP1 : PySem.W.codeIn K cdSP "show_patch" = true) (kSP1 : PySem.W.keepIn K (.ref fSP) = true)
    (aSQ : PySem.W.nsIn K mainGlobals "show_patches" = some (some (.ref fSQ)))
    (lSQ : K.lookup fSQ = some ⟨ocSQ, odSQ, .func (PySem.W.fnOf "show_patches" "show_patches" (defArgs sSQ) (defBody sSQ) (defScope sSQ) .none kVSQ dcSQ pmSQ anSQ cdSQ ctSQ), slSQ⟩)
    (cSQ1 : PySem.W.codeIn K cdSQ "show_patches" = true) (kSQ1 : PySem.W.keepIn K (.ref fSQ) = true)
    (aLAW : PySem.W.nsIn K mainGlobals "law" = some (some (.ref fLAW)))
    (lLAW : K.lookup fLAW = some ⟨ocLAW, odLAW, .func (PySem.W.fnOf "law" "law" (defArgs sLAW) (defBody sLAW) (defScope sLAW) .none kVLAW dcLAW pmLAW anLAW cdLAW ctLAW), slLAW⟩)
    (cLAW1 : PySem.W.codeIn K cdLAW "law" = true) (kLAW1 : PySem.W.keepIn K (.ref fLAW) = true)
    (tWc : K.lookup cW = some ⟨eW, ddW, .fields vsW, ssW⟩) (tWv : vsW[11]? = some (.ref T1)) (tWh : PySem.W.codeHdIn K cW T1 = true) (tWn : K.lookup T1 = none)
    (tILc : K.lookup cIL = some ⟨eIL, ddIL, .fields vsIL, ssIL⟩) (tILv : vsIL[11]? = some (.ref T2)) (tILh : PySem.W.codeHdIn K cIL T2 = true) (tILn : K.lookup T2 = none)
    (tIPc : K.lookup cIP = some ⟨eIP, ddIP, .fields vsIP, ssIP⟩) (tIPv : vsIP[11]? = some (.ref T3)) (tIPh : PySem.W.codeHdIn K cIP T3 = true) (tIPn : K.lookup T3 = none)
    (tTXc : K.lookup cTX = some ⟨eTX, ddTX, .fields vsTX, ssTX⟩) (tTXv : vsTX[11]? = some (.ref T4)) (tTXh : PySem.W.codeHdIn K cTX T4 = true) (tTXn : K.lookup T4 = none)
    (tRSc : K.lookup cRS = some ⟨eRS, ddRS, .fields vsRS, ssRS⟩) (tRSv : vsRS[11]? = some (.ref T5)) (tRSh : PySem.W.codeHdIn K cRS T5 = true) (tRSn : K.lookup T5 = none)
    (tATc : K.lookup cAT = some ⟨eAT, ddAT, .fields vsAT, ssAT⟩) (tATv : vsAT[11]? = some (.ref T6)) (tATh : PySem.W.codeHdIn K cAT T6 = true) (tATn : K.lookup T6 = none)
    (neT1T2 : T1 ≠ T2)
    (neT1T3 : T1 ≠ T3)
    (neT1T4 : T1 ≠ T4)
    (neT1T5 : T1 ≠ T5)
    (neT1T6 : T1 ≠ T6)
    (neT2T3 : T2 ≠ T3)
    (neT2T4 : T2 ≠ T4)
    (neT2T5 : T2 ≠ T5)
    (neT2T6 : T2 ≠ T6)
    (neT3T4 : T3 ≠ T4)
    (neT3T5 : T3 ≠ T5)
    (neT3T6 : T3 ≠ T6)
    (neT4T5 : T4 ≠ T5)
    (neT4T6 : T4 ≠ T6)
    (neT5T6 : T5 ≠ T6)
    (gLE0 : PySem.W.nsIn K mainGlobals "LETTERS" = some (some (.str "abcdefghijklmnopqrstuvwxyz" kLE)))
    (gDI0 : PySem.W.nsIn K mainGlobals "DIGITS" = some (some (.str "0123456789" kDI)))
    (gMC0 : PySem.W.nsIn K mainGlobals "MOST_CHANGES" = some (some (.int 12 kMC)))
    (nW : PySem.W.nsIn K mainGlobals "WardError" = some (some (.ref CW)))
    {nmE qE : Str} {NE : Addr} {bsE : List Value} {snE : List Str} {subE : List Value} {abE : Bool} {colE : Option Bool} {ddE : Option Addr} {m0E m1E m2E m3E m5E : Option Value}
    (nE : PySem.W.nsIn K mainGlobals "WrittenError" = some (some (.ref CE)))
    (xE : K.lookup CE = some (excClassObj nmE qE CE NE bsE [.ref CW, .type "ValueError", .type "Exception", .type "BaseException", .type "object"] true snE subE abE colE ddE m0E m1E m2E m3E m5E "ValueError.__new__"))
    (saE : PySem.W.findIn K (.ref CE) "__setattr__" = some (some (.builtin "object.__setattr__"))) (gaE : PySem.W.findIn K (.ref CE) "__getattribute__" = some (some (.builtin "BaseException.__getattribute__"))) (ggE : PySem.W.findIn K (.ref CE) "__getattr__" = some none) (nsE : PySem.W.findIn K (.ref CE) "at" = some none)
    (aiE : PySem.W.findIn K (.ref CE) "__init__" = some (some (.ref fIE))) (tiE : PySem.W.typeIn K (.ref fIE) = some (.type "function"))
    (liE : K.lookup fIE = some ⟨ocIE, odIE, .func (PySem.W.fnOf "__init__" "WrittenError.__init__" (PySem.TextX.iA ⟨6, 17, 6, 21⟩ ⟨6, 23, 6, 25⟩) (PySem.TextX.iB ⟨7, 8, 7, 12⟩ ⟨7, 8, 7, 15⟩ ⟨7, 18, 7, 20⟩ ⟨7, 8, 7, 20⟩) PySem.TextX.iS .none .none dcIE pmIE anIE cdIE ctIE), slIE⟩) (ciE : PySem.W.codeIn K cdIE "WrittenError.__init__" = true)
    (kpE : PySem.W.keepIn K (.ref CE) = true) (eeE : PySem.W.subIn K (.ref CE) (.type "BaseException") = some true) (tyE : PySem.W.typeIn K (.ref CE) = some (.type "type")) (hdE : PySem.W.hasDictIn K CE = true) (sbE : PySem.W.subIn K (.ref CE) (.ref CE) = some true)
    (clE : PySem.W.findIn K (.ref CE) "__class__" = some (some (.builtin "object.__class__"))) (scE : PySem.W.specialIn K (.builtin "object.__class__") "__get__" = some (some (.builtin "getset_descriptor.__get__"))) (tkE : PySem.W.takesIn K (.builtin "object.__class__") = some true) (mrE : PySem.W.mroIn K CE (.type "object") = some true)
    (ktE : PySem.W.kitOne K (.ref CE) (.ref CW) = some true)
    {Z : Addr} {esZ : Array DictEntry} {nZ : Nat} {kz0 kz1 kz2 kz3 kz4 kz5 kz6 : Tok} (gZ0 : PySem.W.nsIn K mainGlobals "SIZES" = some (some (.ref Z))) (lZ : K.lookup Z = some ⟨.type "dict", none, .dict esZ nZ, #[]⟩) (hZ : PySem.W.KeysLit w.params esZ.toList) (zZ : (Z == sysModules) = false) (vZ0 : PySem.W.nsIn K Z "add" = some (some (.int 2 kz0))) (vZ1 : PySem.W.nsIn K Z "move" = some (some (.int 4 kz1))) (vZ2 : PySem.W.nsIn K Z "drop" = some (some (.int 3 kz2))) (vZ3 : PySem.W.nsIn K Z "lines" = some (some (.int 5 kz3))) (vZ4 : PySem.W.nsIn K Z "cut" = some (some (.int 3 kz4))) (vZ5 : PySem.W.nsIn K Z "order" = some (some (.int 4 kz5))) (vZ6 : PySem.W.nsIn K Z "back" = some (some (.int 2 kz6)))
    (z_len : PySem.W.nsIn K mainGlobals "len" = some none)
    (z_range : PySem.W.nsIn K mainGlobals "range" = some none)
    (z_int : PySem.W.nsIn K mainGlobals "int" = some none)
    (z_abs : PySem.W.nsIn K mainGlobals "abs" = some none)
    (z_list : PySem.W.nsIn K mainGlobals "list" = some none)
    (z_isinstance : PySem.W.nsIn K mainGlobals "isinstance" = some none)
    (z_bool : PySem.W.nsIn K mainGlobals "bool" = some none)
    (z_tuple : PySem.W.nsIn K mainGlobals "tuple" = some none)
    (z_sorted : PySem.W.nsIn K mainGlobals "sorted" = some none)
    (z_str : PySem.W.nsIn K mainGlobals "str" = some none)
    (z_all : PySem.W.nsIn K mainGlobals "all" = some none)
    : GX.LawC l w K 63 "script" mg fa h := by
  have e := hfa.symm.trans (PySem.W.mg_of X G aLAW)
  cases e
  have FS := fun_mk (st := sState) lS cS1 kS1
  have bS := FS.binds (ps := ["script"]) fun _ _ _ _ _ _ us hl => match us, hl with | [_], _ => rfl
  have gS := PySem.W.mg_of X G aS
  have FD := fun_mk (st := sDraw) lD cD1 kD1
  have bD := FD.binds (ps := ["state", "many"]) fun _ _ _ _ _ _ us hl => match us, hl with | [_, _], _ => rfl
  have gD := PySem.W.mg_of X G aD
  have FP := fun_mk (st := sPick) lP cP1 kP1
  have bP := FP.binds (ps := ["state", "row"]) fun _ _ _ _ _ _ us hl => match us, hl with | [_, _], _ => rfl
  have gP := PySem.W.mg_of X G aP
  have FTU := fun_mk (st := sTU) lTU cTU1 kTU1
  have bTU := FTU.binds (ps := ["state", "lines"]) fun _ _ _ _ _ _ us hl => match us, hl with | [_, _], _ => rfl
  have gTU := PySem.W.mg_of X G aTU
  have FGL := fun_mk (st := sGL) lGL cGL1 kGL1
  have bGL := FGL.binds (ps := ["text"]) fun _ _ _ _ _ _ us hl => match us, hl with | [_], _ => rfl
  have gGL := PySem.W.mg_of X G aGL
  have FGN := fun_mk (st := sGN) lGN cGN1 kGN1
  have bGN := FGN.binds (ps := ["text", "least", "most"]) fun _ _ _ _ _ _ us hl => match us, hl with | [_, _, _], _ => rfl
  have gGN := PySem.W.mg_of X G aGN
  have FHI := fun_mk (st := sHI) lHI cHI1 kHI1
  have bHI := FHI.binds (ps := ["parts"]) fun _ _ _ _ _ _ us hl => match us, hl with | [_], _ => rfl
  have gHI := PySem.W.mg_of X G aHI
  have FLT := fun_mk (st := sLT) lLT cLT1 kLT1
  have bLT := FLT.binds (ps := ["text"]) fun _ _ _ _ _ _ us hl => match us, hl with | [_], _ => rfl
  have gLT := PySem.W.mg_of X G aLT
  have FGV := fun_mk (st := sGV) lGV cGV1 kGV1
  have bGV := FGV.binds (ps := ["parts"]) fun _ _ _ _ _ _ us hl => match us, hl with | [_], _ => rfl
  have gGV := PySem.W.mg_of X G aGV
  have FKY := fun_mk (st := sKY) lKY cKY1 kKY1
  have bKY := FKY.binds (ps := ["text"]) fun _ _ _ _ _ _ us hl => match us, hl with | [_], _ => rfl
  have gKY := PySem.W.mg_of X G aKY
  have FAV := fun_mk (st := sAV) lAV cAV1 kAV1
  have bAV := FAV.binds (ps := ["text", "least", "most"]) fun _ _ _ _ _ _ us hl => match us, hl with | [_, _, _], _ => rfl
  have gAV := PySem.W.mg_of X G aAV
  have FGP := fun_mk (st := sGP) lGP cGP1 kGP1
  have bGP := FGP.binds (ps := ["text"]) fun _ _ _ _ _ _ us hl => match us, hl with | [_], _ => rfl
  have gGP := PySem.W.mg_of X G aGP
  have FCF := fun_mk (st := sCF) lCF cCF1 kCF1
  have bCF := FCF.binds (ps := ["words"]) fun _ _ _ _ _ _ us hl => match us, hl with | [_], _ => rfl
  have gCF := PySem.W.mg_of X G aCF
  have FFA := fun_mk (st := sFA) lFA cFA1 kFA1
  have bFA := FFA.binds (ps := ["lines"]) fun _ _ _ _ _ _ us hl => match us, hl with | [_], _ => rfl
  have gFA := PySem.W.mg_of X G aFA
  have bW : Binds K (PySem.W.fnOf "is_word" "is_word" (defArgs sWord) (defBody sWord) (defScope sWord) .none kVW dcW pmW anW (.ref cW) ctW) ["text", "signs", "most"] [] := .all fun us hl => match us, hl with | [_, _, _], _ => rfl
  have gW := PySem.W.mg_of X G aW
  have FN := fun_mk (st := sNum) lN cN1 kN1
  have bN := FN.binds (ps := ["text", "most"]) fun _ _ _ _ _ _ us hl => match us, hl with | [_, _], _ => rfl
  have gN := PySem.W.mg_of X G aN
  have FTO := fun_mk (st := sTO) lTO cTO1 kTO1
  have bTO := FTO.binds (ps := ["value", "size"]) fun _ _ _ _ _ _ us hl => match us, hl with | [_, _], _ => rfl
  have gTO := PySem.W.mg_of X G aTO
  have FWI := fun_mk (st := sWI) lWI cWI1 kWI1
  have bWI := FWI.binds (ps := ["number", "least", "most"]) fun _ _ _ _ _ _ us hl => match us, hl with | [_, _, _], _ => rfl
  have gWI := PySem.W.mg_of X G aWI
  have bIL : Binds K (PySem.W.fnOf "is_label" "is_label" (defArgs sIL) (defBody sIL) (defScope sIL) .none kVIL dcIL pmIL anIL (.ref cIL) ctIL) ["label"] [] := .all fun us hl => match us, hl with | [_], _ => rfl
  have gIL := PySem.W.mg_of X G aIL
  have FRL := fun_mk (st := sRL) lRL cRL1 kRL1
  have bRL := FRL.binds (ps := ["text"]) fun _ _ _ _ _ _ us hl => match us, hl with | [_], _ => rfl
  have gRL := PySem.W.mg_of X G aRL
  have FIH := fun_mk (st := sIH) lIH cIH1 kIH1
  have bIH := FIH.binds (ps := ["name"]) fun _ _ _ _ _ _ us hl => match us, hl with | [_], _ => rfl
  have gIH := PySem.W.mg_of X G aIH
  have FII := fun_mk (st := sII) lII cII1 kII1
  have bII := FII.binds (ps := ["name"]) fun _ _ _ _ _ _ us hl => match us, hl with | [_], _ => rfl
  have gII := PySem.W.mg_of X G aII
  have FRI := fun_mk (st := sRI) lRI cRI1 kRI1
  have bRI := FRI.binds (ps := ["text"]) fun _ _ _ _ _ _ us hl => match us, hl with | [_], _ => rfl
  have gRI := PySem.W.mg_of X G aRI
  have FOL := fun_mk (st := sOL) lOL cOL1 kOL1
  have bOL := FOL.binds (ps := ["lines", "at", "start"]) fun _ _ _ _ _ _ us hl => match us, hl with | [_, _, _], _ => rfl
  have gOL := PySem.W.mg_of X G aOL
  have bTX : Binds K (PySem.W.fnOf "is_text" "is_text" (defArgs sTX) (defBody sTX) (defScope sTX) .none kVTX dcTX pmTX anTX (.ref cTX) ctTX) ["text"] [] := .all fun us hl => match us, hl with | [_], _ => rfl
  have gTX := PySem.W.mg_of X G aTX
  have FTL := fun_mk (st := sTL) lTL cTL1 kTL1
  have bTL := FTL.binds (ps := ["lines", "at", "start"]) fun _ _ _ _ _ _ us hl => match us, hl with | [_, _, _], _ => rfl
  have gTL := PySem.W.mg_of X G aTL
  have bIP : Binds K (PySem.W.fnOf "is_path" "is_path" (defArgs sIP) (defBody sIP) (defScope sIP) .none kVIP dcIP pmIP anIP (.ref cIP) ctIP) ["path"] [] := .all fun us hl => match us, hl with | [_], _ => rfl
  have gIP := PySem.W.mg_of X G aIP
  have FRP := fun_mk (st := sRP) lRP cRP1 kRP1
  have bRP := FRP.binds (ps := ["text"]) fun _ _ _ _ _ _ us hl => match us, hl with | [_], _ => rfl
  have gRP := PySem.W.mg_of X G aRP
  have FIV := fun_mk (st := sIV) lIV cIV1 kIV1
  have bIV := FIV.binds (ps := ["vertex"]) fun _ _ _ _ _ _ us hl => match us, hl with | [_], _ => rfl
  have gIV := PySem.W.mg_of X G aIV
  have FRV := fun_mk (st := sRV) lRV cRV1 kRV1
  have bRV := FRV.binds (ps := ["text"]) fun _ _ _ _ _ _ us hl => match us, hl with | [_], _ => rfl
  have gRV := PySem.W.mg_of X G aRV
  have FRVs := fun_mk (st := sRVs) lRVs cRVs1 kRVs1
  have bRVs := FRVs.binds (ps := ["text"]) fun _ _ _ _ _ _ us hl => match us, hl with | [_], _ => rfl
  have gRVs := PySem.W.mg_of X G aRVs
  have FCO := fun_mk (st := sCO) lCO cCO1 kCO1
  have bCO := FCO.binds (ps := ["words"]) fun _ _ _ _ _ _ us hl => match us, hl with | [_], _ => rfl
  have gCO := PySem.W.mg_of X G aCO
  have bRS : Binds K (PySem.W.fnOf "is_rising" "is_rising" (defArgs sRS) (defBody sRS) (defScope sRS) .none kVRS dcRS pmRS anRS (.ref cRS) ctRS) ["vertices", "least", "most"] [] := .all fun us hl => match us, hl with | [_, _, _], _ => rfl
  have gRS := PySem.W.mg_of X G aRS
  have bAT : Binds K (PySem.W.fnOf "are_texts" "are_texts" (defArgs sAT) (defBody sAT) (defScope sAT) .none kVAT dcAT pmAT anAT (.ref cAT) ctAT) ["texts"] [] := .all fun us hl => match us, hl with | [_], _ => rfl
  have gAT := PySem.W.mg_of X G aAT
  have FIC := fun_mk (st := sIC) lIC cIC1 kIC1
  have bIC := FIC.binds (ps := ["change"]) fun _ _ _ _ _ _ us hl => match us, hl with | [_], _ => rfl
  have gIC := PySem.W.mg_of X G aIC
  have FRC := fun_mk (st := sRC) lRC cRC1 kRC1
  have bRC := FRC.binds (ps := ["lines", "at"]) fun _ _ _ _ _ _ us hl => match us, hl with | [_, _], _ => rfl
  have gRC := PySem.W.mg_of X G aRC
  have FRF := fun_mk (st := sRF) lRF cRF1 kRF1
  have bRF := FRF.binds (ps := ["lines", "at"]) fun _ _ _ _ _ _ us hl => match us, hl with | [_, _], _ => rfl
  have gRF := PySem.W.mg_of X G aRF
  have FRR := fun_mk (st := sRR) lRR cRR1 kRR1
  have bRR := FRR.binds (ps := ["lines"]) fun _ _ _ _ _ _ us hl => match us, hl with | [_], _ => rfl
  have gRR := PySem.W.mg_of X G aRR
  have FLA := fun_mk (st := sLA) lLA cLA1 kLA1
  have bLA := FLA.binds (ps := ["lines"]) fun _ _ _ _ _ _ us hl => match us, hl with | [_], _ => rfl
  have gLA := PySem.W.mg_of X G aLA
  have FRQ := fun_mk (st := sRQ) lRQ cRQ1 kRQ1
  have bRQ := FRQ.binds (ps := ["lines"]) fun _ _ _ _ _ _ us hl => match us, hl with | [_], _ => rfl
  have gRQ := PySem.W.mg_of X G aRQ
  have FLF1 := fun_mk (st := sLF1) lLF1 cLF11 kLF11
  have bLF1 := FLF1.binds (ps := ["lines"]) fun _ _ _ _ _ _ us hl => match us, hl with | [_], _ => rfl
  have gLF1 := PySem.W.mg_of X G aLF1
  have FGI := fun_mk (st := sGI) lGI cGI1 kGI1
  have bGI := FGI.binds (ps := ["name"]) fun _ _ _ _ _ _ us hl => match us, hl with | [_], _ => rfl
  have gGI := PySem.W.mg_of X G aGI
  have FWV := fun_mk (st := sWV) lWV cWV1 kWV1
  have bWV := FWV.binds (ps := ["vertex"]) fun _ _ _ _ _ _ us hl => match us, hl with | [_], _ => rfl
  have gWV := PySem.W.mg_of X G aWV
  have FWS := fun_mk (st := sWS) lWS cWS1 kWS1
  have bWS := FWS.binds (ps := ["vertices"]) fun _ _ _ _ _ _ us hl => match us, hl with | [_], _ => rfl
  have gWS := PySem.W.mg_of X G aWS
  have FWP := fun_mk (st := sWP) lWP cWP1 kWP1
  have bWP := FWP.binds (ps := ["patch"]) fun _ _ _ _ _ _ us hl => match us, hl with | [_], _ => rfl
  have gWP := PySem.W.mg_of X G aWP
  have FLL := fun_mk (st := sLL) lLL cLL1 kLL1
  have bLL := FLL.binds (ps := ["state"]) fun _ _ _ _ _ _ us hl => match us, hl with | [_], _ => rfl
  have gLL := PySem.W.mg_of X G aLL
  have FLW := fun_mk (st := sLW) lLW cLW1 kLW1
  have bLW := FLW.binds (ps := ["state", "letters", "most"]) fun _ _ _ _ _ _ us hl => match us, hl with | [_, _, _], _ => rfl
  have gLW := PySem.W.mg_of X G aLW
  have FLN := fun_mk (st := sLN) lLN cLN1 kLN1
  have bLN := FLN.binds (ps := ["state", "label"]) fun _ _ _ _ _ _ us hl => match us, hl with | [_, _], _ => rfl
  have gLN := PySem.W.mg_of X G aLN
  have FLV := fun_mk (st := sLV) lLV cLV1 kLV1
  have bLV := FLV.binds (ps := ["state", "label"]) fun _ _ _ _ _ _ us hl => match us, hl with | [_, _], _ => rfl
  have gLV := PySem.W.mg_of X G aLV
  have FLI := fun_mk (st := sLI) lLI cLI1 kLI1
  have bLI := FLI.binds (ps := ["state"]) fun _ _ _ _ _ _ us hl => match us, hl with | [_], _ => rfl
  have gLI := PySem.W.mg_of X G aLI
  have FVS := fun_mk (st := sVS) lVS cVS1 kVS1
  have bVS := FVS.binds (ps := ["state", "label", "least", "most"]) fun _ _ _ _ _ _ us hl => match us, hl with | [_, _, _, _], _ => rfl
  have gVS := PySem.W.mg_of X G aVS
  have FLP := fun_mk (st := sLP) lLP cLP1 kLP1
  have bLP := FLP.binds (ps := ["state"]) fun _ _ _ _ _ _ us hl => match us, hl with | [_], _ => rfl
  have gLP := PySem.W.mg_of X G aLP
  have FLC := fun_mk (st := sLC) lLC cLC1 kLC1
  have bLC := FLC.binds (ps := ["state", "label"]) fun _ _ _ _ _ _ us hl => match us, hl with | [_, _], _ => rfl
  have gLC := PySem.W.mg_of X G aLC
  have FLQ := fun_mk (st := sLQ) lLQ cLQ1 kLQ1
  have bLQ := FLQ.binds (ps := ["state"]) fun _ _ _ _ _ _ us hl => match us, hl with | [_], _ => rfl
  have gLQ := PySem.W.mg_of X G aLQ
  have FSL := fun_mk (st := sSL) lSL cSL1 kSL1
  have bSL := FSL.binds (ps := ["label"]) fun _ _ _ _ _ _ us hl => match us, hl with | [_], _ => rfl
  have gSL := PySem.W.mg_of X G aSL
  have FSI := fun_mk (st := sSI) lSI cSI1 kSI1
  have bSI := FSI.binds (ps := ["name"]) fun _ _ _ _ _ _ us hl => match us, hl with | [_], _ => rfl
  have gSI := PySem.W.mg_of X G aSI
  have FSV := fun_mk (st := sSV) lSV cSV1 kSV1
  have bSV := FSV.binds (ps := ["vertex"]) fun _ _ _ _ _ _ us hl => match us, hl with | [_], _ => rfl
  have gSV := PySem.W.mg_of X G aSV
  have FSS := fun_mk (st := sSS) lSS cSS1 kSS1
  have bSS := FSS.binds (ps := ["vertices"]) fun _ _ _ _ _ _ us hl => match us, hl with | [_], _ => rfl
  have gSS := PySem.W.mg_of X G aSS
  have FSH := fun_mk (st := sSH) lSH cSH1 kSH1
  have bSH := FSH.binds (ps := ["path"]) fun _ _ _ _ _ _ us hl => match us, hl with | [_], _ => rfl
  have gSH := PySem.W.mg_of X G aSH
  have FSC := fun_mk (st := sSC) lSC cSC1 kSC1
  have bSC := FSC.binds (ps := ["change"]) fun _ _ _ _ _ _ us hl => match us, hl with | [_], _ => rfl
  have gSC := PySem.W.mg_of X G aSC
  have FSP := fun_mk (st := sSP) lSP cSP1 kSP1
  have bSP := FSP.binds (ps := ["patch"]) fun _ _ _ _ _ _ us hl => match us, hl with | [_], _ => rfl
  have gSP := PySem.W.mg_of X G aSP
  have FSQ := fun_mk (st := sSQ) lSQ cSQ1 kSQ1
  have bSQ := FSQ.binds (ps := ["patches"]) fun _ _ _ _ _ _ us hl => match us, hl with | [_], _ => rfl
  have gSQ := PySem.W.mg_of X G aSQ
  have gLAW := PySem.W.mg_of X G aLAW
  have gLE := PySem.W.mg_of X G gLE0
  have gDI := PySem.W.mg_of X G gDI0
  have gMC := PySem.W.mg_of X G gMC0
  have SZ : SzF K w mg Z := ⟨PySem.W.mg_of X G gZ0, ⟨_, _, lZ, hZ⟩, zZ, ⟨_, _, _, lZ, hZ, vZ0, ⟨_, rfl⟩⟩, ⟨_, _, _, lZ, hZ, vZ1, ⟨_, rfl⟩⟩, ⟨_, _, _, lZ, hZ, vZ2, ⟨_, rfl⟩⟩, ⟨_, _, _, lZ, hZ, vZ3, ⟨_, rfl⟩⟩, ⟨_, _, _, lZ, hZ, vZ4, ⟨_, rfl⟩⟩, ⟨_, _, _, lZ, hZ, vZ5, ⟨_, rfl⟩⟩, ⟨_, _, _, lZ, hZ, vZ6, ⟨_, rfl⟩⟩⟩
  have m_len := PySem.W.mg_none_of X G z_len
  have m_range := PySem.W.mg_none_of X G z_range
  have m_int := PySem.W.mg_none_of X G z_int
  have m_abs := PySem.W.mg_none_of X G z_abs
  have m_list := PySem.W.mg_none_of X G z_list
  have m_isinstance := PySem.W.mg_none_of X G z_isinstance
  have m_bool := PySem.W.mg_none_of X G z_bool
  have m_tuple := PySem.W.mg_none_of X G z_tuple
  have m_sorted := PySem.W.mg_none_of X G z_sorted
  have m_str := PySem.W.mg_none_of X G z_str
  have m_all := PySem.W.mg_none_of X G z_all
  have lowE : PySem.TextX.TextTxt K mg CE fIE :=
    { gC := PySem.W.mg_of X G nE, cls := ⟨nmE, qE, NE, bsE, _, snE, subE, abE, colE, ddE, m0E, m1E, m2E, m3E, m5E, xE, rfl⟩, sa := saE, ga := gaE, gg := ggE, noN := nsE, iC := aiE, tC := tiE, kC := kpE, exC := eeE, tyC := tyE, hdC := hdE, te := exm_self eeE hdE tyE sbE,
      fn := ⟨_, _, _, _, _, _, _, _, _, _, _, _, _, _, liE, ciE⟩ }
  have exE : ExcC K CE := ⟨gaE, ggE, eeE, hdE, clE, scE, tkE, mrE⟩
  have gWE := PySem.W.mg_of X G nW
  have emW : h.get? T1 = some { cls := .none, data := .fields #[] } := tabs "is_word" fW hrecT1 gW cW T1 _ _ _ _ _ _ lW rfl rfl tWc tWv
  have emIL : h.get? T2 = some { cls := .none, data := .fields #[] } := tabs "is_label" fIL hrecT2 gIL cIL T2 _ _ _ _ _ _ lIL rfl rfl tILc tILv
  have emTX : h.get? T4 = some { cls := .none, data := .fields #[] } := tabs "is_text" fTX hrecT4 gTX cTX T4 _ _ _ _ _ _ lTX rfl rfl tTXc tTXv
  have emIP : h.get? T3 = some { cls := .none, data := .fields #[] } := tabs "is_path" fIP hrecT3 gIP cIP T3 _ _ _ _ _ _ lIP rfl rfl tIPc tIPv
  have emRS : h.get? T5 = some { cls := .none, data := .fields #[] } := tabs "is_rising" fRS hrecT5 gRS cRS T5 _ _ _ _ _ _ lRS rfl rfl tRSc tRSv
  have emAT : h.get? T6 = some { cls := .none, data := .fields #[] } := tabs "are_texts" fAT hrecT6 gAT cAT T6 _ _ _ _ _ _ lAT rfl rfl tATc tATv
  have all_ : ∀ {P : Addr × Addr → Prop}, P (cW, T1) → P (cIL, T2) → P (cIP, T3) → P (cTX, T4) → P (cRS, T5) → P (cAT, T6) →  (∀ p ∈ ([(cW, T1), (cIL, T2), (cIP, T3), (cTX, T4), (cRS, T5), (cAT, T6)] : List (Addr × Addr)), P p) := fun xW xIL xIP xTX xRS xAT p hp => by
    simp only [List.mem_cons, List.not_mem_nil, or_false] at hp
    rcases hp with rfl | rfl | rfl | rfl | rfl | rfl
    · exact xW
    · exact xIL
    · exact xIP
    · exact xTX
    · exact xRS
    · exact xAT
  refine ⟨PySem.W.fnOf "law" "law" (defArgs sLAW) (defBody sLAW) (defScope sLAW) .none kVLAW dcLAW pmLAW anLAW cdLAW ctLAW, [(cW, T1), (cIL, T2), (cIP, T3), (cTX, T4), (cRS, T5), (cAT, T6)], spLaw K T1 T2 T3 T4 T5 T6, all_ emW emIL emIP emTX emRS emAT, all_ tWn tILn tIPn tTXn tRSn tATn, all_ (PySem.W.codeHd_of_K X tWh) (PySem.W.codeHd_of_K X tILh) (PySem.W.codeHd_of_K X tIPh) (PySem.W.codeHd_of_K X tTXh) (PySem.W.codeHd_of_K X tRSh) (PySem.W.codeHd_of_K X tATh), fun s v => .of_eq rfl, ?_, ?_⟩
  · intro H a ns hl hbits hH hS
    have qW := hH (cW, T1) (by simp)
    have qIL := hH (cIL, T2) (by simp)
    have qIP := hH (cIP, T3) (by simp)
    have qTX := hH (cTX, T4) (by simp)
    have qRS := hH (cRS, T5) (by simp)
    have qAT := hH (cAT, T6) (by simp)
    exact ⟨a, ns, rfl, hS, hl, ⟨#[], qW, trivial⟩, ⟨#[], qIL, trivial⟩, ⟨#[], qIP, trivial⟩, ⟨#[], qTX, trivial⟩, ⟨#[], qRS, trivial⟩, ⟨#[], qAT, trivial⟩, neT1T2, neT1T3, neT1T4, neT1T5, neT1T6, neT2T3, neT2T4, neT2T5, neT2T6, neT3T4, neT3T5, neT3T6, neT4T5, neT4T6, neT5T6, fun _ => rfl⟩
  · intro base _ _ hT
    have TBW := hT (cW, T1) (by simp)
    have TBIL := hT (cIL, T2) (by simp)
    have TBIP := hT (cIP, T3) (by simp)
    have TBTX := hT (cTX, T4) (by simp)
    have TBRS := hT (cRS, T5) (by simp)
    have TBAT := hT (cAT, T6) (by simp)
    have GS := ok_state (P := l.prog) (w := w) (mg := mg) (base := base) FS m_abs m_int
    have GD := ok_draw (P := l.prog) (w := w) (mg := mg) (base := base) FD m_len m_int
    have GP := ok_pick (P := l.prog) (w := w) (mg := mg) (base := base) FP GD bD gD kD1 m_len
    have GTU := ok_TU (P := l.prog) (w := w) (mg := mg) (base := base) FTU GD bD gD kD1 GP bP gP kP1 m_len m_range m_list
    have GGL := ok_GL (P := l.prog) (w := w) (mg := mg) (base := base) FGL m_len m_range
    have GGN := ok_GN (P := l.prog) (w := w) (mg := mg) (base := base) FGN m_len
    have GHI := ok_HI (P := l.prog) (w := w) (mg := mg) (base := base) FHI GGL bGL gGL kGL1 GGN bGN gGN kGN1 m_len
    have GLT := ok_LT (P := l.prog) (w := w) (mg := mg) (base := base) FLT m_len
    have GGV := ok_GV (P := l.prog) (w := w) (mg := mg) (base := base) FGV GHI bHI gHI kHI1 GGN bGN gGN kGN1 m_len
    have GKY := ok_KY (P := l.prog) (w := w) (mg := mg) (base := base) FKY m_int m_tuple
    have GAV := ok_AV (P := l.prog) (w := w) (mg := mg) (base := base) FAV GKY bKY gKY kKY1 GGV bGV gGV kGV1 m_len m_range
    have GGP := ok_GP (P := l.prog) (w := w) (mg := mg) (base := base) FGP m_len
    have GCF := ok_CF (P := l.prog) (w := w) (mg := mg) (base := base) FCF GGN bGN gGN kGN1 GGV bGV gGV kGV1 GAV bAV gAV kAV1 GGP bGP gGP kGP1 GHI bHI gHI kHI1 m_len
    have GFA := ok_FA (P := l.prog) (w := w) (mg := mg) (base := base) FFA GHI bHI gHI kHI1 GLT bLT gLT kLT1 GCF bCF gCF kCF1 m_len m_range m_int
    have GW := ok_word (P := l.prog) (w := w) (mg := mg) (base := base) lW cW1 TBW m_len m_all
    have GN := ok_num (P := l.prog) (w := w) (mg := mg) (base := base) FN GW bW gW kW1 gDI m_len m_str m_int
    have GTO := ok_TO (P := l.prog) (w := w) (mg := mg) (base := base) FTO m_len m_isinstance m_tuple
    have GWI := ok_WI (P := l.prog) (w := w) (mg := mg) (base := base) FWI m_int m_isinstance
    have GIL := ok_IL (P := l.prog) (w := w) (mg := mg) (base := base) (Ts := [T1, T2, T3, T4, T5, T6]) (by simp) lIL cIL1 TBIL GTO bTO gTO kTO1 GWI bWI gWI kWI1 m_isinstance m_tuple m_all m_range m_len
    have GRL := ok_RL (P := l.prog) (w := w) (mg := mg) (base := base) (T1 := T1) (Ts := [T1, T2, T3, T4, T5, T6]) (by simp) FRL GN bN gN kN1 GIL bIL gIL kIL1 m_tuple
    have GIH := ok_IH (P := l.prog) (w := w) (mg := mg) (base := base) FIH GW bW gW kW1 gLE m_isinstance m_str
    have GII := ok_II (P := l.prog) (w := w) (mg := mg) (base := base) (T1 := T1) (Ts := [T1, T2, T3, T4, T5, T6]) (by simp) FII GTO bTO gTO kTO1 GIL bIL gIL kIL1 GIH bIH gIH kIH1 GWI bWI gWI kWI1
    have GRI := ok_RI (P := l.prog) (w := w) (mg := mg) (base := base) (T1 := T1) (Ts := [T1, T2, T3, T4, T5, T6]) (by simp) FRI GRL bRL gRL kRL1 GN bN gN kN1 GII bII gII kII1 m_len
    have GOL := ok_OL (P := l.prog) (w := w) (mg := mg) (base := base) FOL lowE m_len
    have GTX := ok_TX (P := l.prog) (w := w) (mg := mg) (base := base) (T4 := T4) (Ts := [T1, T2, T3, T4, T5, T6]) (by simp) lTX cTX1 TBTX m_isinstance m_str m_len m_all
    have GTL := ok_TL (P := l.prog) (w := w) (mg := mg) (base := base) (Ts := [T1, T2, T3, T4, T5, T6]) FTL lowE GOL bOL gOL kOL1 GTX bTX gTX kTX1
    have GIP := ok_IP (P := l.prog) (w := w) (mg := mg) (base := base) (T1 := T1) (T3 := T3) (Ts := [T1, T2, T3, T4, T5, T6]) (by simp) (by simp) lIP cIP1 TBIP GW bW gW kW1 gLE gDI m_isinstance m_tuple m_len m_all m_str
    have GIPo := FnOk.both GIP (ok_IPn (P := l.prog) (w := w) (mg := mg) (base := base) (T1 := T1) (T3 := T3) (Ts := [T1, T2, T3, T4, T5, T6]) (by simp) (by simp) lIP cIP1 TBIP GW bW gW kW1 gLE gDI m_isinstance m_tuple m_len m_all m_str)
    have GRP := ok_RP (P := l.prog) (w := w) (mg := mg) (base := base) (Ts := [T1, T2, T3, T4, T5, T6]) FRP GIP bIP gIP kIP1 m_tuple
    have GIV := ok_IV (P := l.prog) (w := w) (mg := mg) (base := base) (Ts := [T1, T2, T3, T4, T5, T6]) FIV GTO bTO gTO kTO1 GII bII gII kII1 GWI bWI gWI kWI1 gMC
    have GIVo := FnOk.both GIV (ok_IVn (P := l.prog) (w := w) (mg := mg) (base := base) (Ts := [T1, T2, T3, T4, T5, T6]) FIV GTO bTO gTO kTO1 GII bII gII kII1 GWI bWI gWI kWI1 gMC)
    have GRV := ok_RV (P := l.prog) (w := w) (mg := mg) (base := base) (T1 := T1) (Ts := [T1, T2, T3, T4, T5, T6]) (by simp) FRV GRI bRI gRI kRI1 GN bN gN kN1 GIV bIV gIV kIV1 m_len
    have GRVs := ok_RVs (P := l.prog) (w := w) (mg := mg) (base := base) (Ts := [T1, T2, T3, T4, T5, T6]) FRVs GRV bRV gRV kRV1
    have GCO := ok_CO (P := l.prog) (w := w) (mg := mg) (base := base) (T1 := T1) (Ts := [T1, T2, T3, T4, T5, T6]) (by simp) FCO GRP bRP gRP kRP1 GRI bRI gRI kRI1 GRV bRV gRV kRV1 GRVs bRVs gRVs kRVs1 GN bN gN kN1 m_len
    have GRS := ok_RS (P := l.prog) (w := w) (mg := mg) (base := base) (T5 := T5) (Ts := [T1, T2, T3, T4, T5, T6]) (by simp) lRS cRS1 TBRS GIVo bIV gIV kIV1 m_len m_all m_range
    have GAT := ok_AT (P := l.prog) (w := w) (mg := mg) (base := base) (T6 := T6) (Ts := [T1, T2, T3, T4, T5, T6]) (by simp) lAT cAT1 TBAT GTX bTX gTX kTX1 m_len m_all
    have GIC := ok_IC (P := l.prog) (w := w) (mg := mg) (base := base) (Z := Z) (Ts := [T1, T2, T3, T4, T5, T6]) SZ FIC GTO bTO gTO kTO1 GIPo bIP gIP kIP1 GII bII gII kII1 GIVo bIV gIV kIV1 GRS bRS gRS kRS1 GAT bAT gAT kAT1
    have GRC := ok_RC (P := l.prog) (w := w) (mg := mg) (base := base) (Ts := [T1, T2, T3, T4, T5, T6]) FRC lowE GCO bCO gCO kCO1 GIC bIC gIC kIC1 GOL bOL gOL kOL1 GTL bTL gTL kTL1 m_len m_range
    have GRF := ok_RF (P := l.prog) (w := w) (mg := mg) (base := base) (Ts := [T1, T2, T3, T4, T5, T6]) FRF lowE GRI bRI gRI kRI1 GOL bOL gOL kOL1 GTL bTL gTL kTL1 GRC bRC gRC kRC1 gMC m_len
    have GRR := ok_RR (P := l.prog) (w := w) (mg := mg) (base := base) (Ts := [T1, T2, T3, T4, T5, T6]) FRR lowE GRF bRF gRF kRF1 m_len
    have GLA := ok_LA (P := l.prog) (w := w) (mg := mg) (base := base) (Ts := [T1, T2, T3, T4, T5, T6]) FLA ⟨lowE, exE, gWE, ktE, m_isinstance⟩ GRR bRR gRR kRR1 m_isinstance m_bool
    have GRQ := ok_RQ (P := l.prog) (w := w) (mg := mg) (base := base) (Ts := [T1, T2, T3, T4, T5, T6]) FRQ lowE GRF bRF gRF kRF1 m_len
    have GLF1 := ok_LF1 (P := l.prog) (w := w) (mg := mg) (base := base) (Ts := [T1, T2, T3, T4, T5, T6]) FLF1 ⟨lowE, exE, gWE, ktE, m_isinstance⟩ GRQ bRQ gRQ kRQ1
    have GGI := ok_GI (P := l.prog) (w := w) (mg := mg) (base := base) FGI m_str
    have GWV := ok_WV (P := l.prog) (w := w) (mg := mg) (base := base) FWV GGI bGI gGI kGI1 m_str
    have GWS := ok_WS (P := l.prog) (w := w) (mg := mg) (base := base) FWS GWV bWV gWV kWV1 m_len
    have GWP := ok_WP (P := l.prog) (w := w) (mg := mg) (base := base) FWP GGI bGI gGI kGI1 GWV bWV gWV kWV1 GWS bWS gWS kWS1 m_len m_str
    have GLL := ok_LL (P := l.prog) (w := w) (mg := mg) (base := base) FLL GD bD gD kD1 m_range m_tuple
    have GLW := ok_LW (P := l.prog) (w := w) (mg := mg) (base := base) FLW GD bD gD kD1 GP bP gP kP1 m_range m_list
    have GLN := ok_LN (P := l.prog) (w := w) (mg := mg) (base := base) FLN GD bD gD kD1 GP bP gP kP1 GLW bLW gLW kLW1
    have GLV := ok_LV (P := l.prog) (w := w) (mg := mg) (base := base) FLV GD bD gD kD1 GP bP gP kP1 GLN bLN gLN kLN1
    have GLI := ok_LI (P := l.prog) (w := w) (mg := mg) (base := base) FLI GP bP gP kP1 m_len
    have GVS := ok_VS (P := l.prog) (w := w) (mg := mg) (base := base) FVS GLV bLV gLV kLV1 GD bD gD kD1 m_range m_sorted
    have GLP := ok_LP (P := l.prog) (w := w) (mg := mg) (base := base) FLP GD bD gD kD1 GLW bLW gLW kLW1 m_range m_tuple
    have GLC := ok_LC (P := l.prog) (w := w) (mg := mg) (base := base) FLC GD bD gD kD1 GLV bLV gLV kLV1 GLI bLI gLI kLI1 GVS bVS gVS kVS1 GLP bLP gLP kLP1 GLN bLN gLN kLN1 m_range
    have GLQ := ok_LQ (P := l.prog) (w := w) (mg := mg) (base := base) FLQ GLL bLL gLL kLL1 GLC bLC gLC kLC1 GD bD gD kD1 GLN bLN gLN kLN1 GLI bLI gLI kLI1 m_range
    have GSL := ok_SL (P := l.prog) (w := w) (mg := mg) (base := base) FSL m_str
    have GSI := ok_SI (P := l.prog) (w := w) (mg := mg) (base := base) FSI GSL bSL gSL kSL1
    have GSV := ok_SV (P := l.prog) (w := w) (mg := mg) (base := base) FSV GSI bSI gSI kSI1
    have GSS := ok_SS (P := l.prog) (w := w) (mg := mg) (base := base) FSS GSV bSV gSV kSV1
    have GSH := ok_SH (P := l.prog) (w := w) (mg := mg) (base := base) FSH
    have GSC := ok_SC (P := l.prog) (w := w) (mg := mg) (base := base) FSC GSV bSV gSV kSV1 GSS bSS gSS kSS1 GSH bSH gSH kSH1 GSI bSI gSI kSI1 m_len
    have GSP := ok_SP (P := l.prog) (w := w) (mg := mg) (base := base) FSP GSC bSC gSC kSC1 GSI bSI gSI kSI1
    have GSQ := ok_SQ (P := l.prog) (w := w) (mg := mg) (base := base) FSQ GSP bSP gSP kSP1
    exact ok_LAW lLAW cLAW1 GS bS gS kS1 GD bD gD kD1 GWP bWP gWP kWP1 GLQ bLQ gLQ kLQ1 GTU bTU gTU kTU1 GFA bFA gFA kFA1 GLA bLA gLA kLA1 GLF1 bLF1 gLF1 kLF11 GSQ bSQ gSQ kSQ1 m_range m_list m_len
end K20
open PySem PySem.W PyProof.Rows
set_option maxRecDepth 100000 in
set_option maxHeartbeats 0 in
theorem PySem.Challenge.cw_quiltward_k22_whole_any_lines_are_read_o_holds : PySem.Challenge.rw_quiltward_k22_whole_any_lines_are_read_o.Holds := by
  w_on; o_law; k_head; (case hw => w_witness2)
  k_fill
  refine GX.walk_tabsC (l := PySem.Challenge.rw_quiltward_k22_whole_any_lines_are_read_o) (n := 63) (x := "script") rfl (by decide) rfl (fun w h Y => PySem.W.kIn_of Y) ?F
  case F =>
    intro w mg fa h Y KX G hmg tabs
    refine' K20.all_mk KX G hmg tabs ?hrecT1 ?hrecT2 ?hrecT4 ?hrecT3 ?hrecT5 ?hrecT6 ?aS ?lS ?cS1 ?kS1 ?aD ?lD ?cD1 ?kD1 ?aP ?lP ?cP1 ?kP1 ?aTU ?lTU ?cTU1 ?kTU1 ?aGL ?lGL ?cGL1 ?kGL1 ?aGN ?lGN ?cGN1 ?kGN1 ?aHI ?lHI ?cHI1 ?kHI1 ?aLT ?lLT ?cLT1 ?kLT1 ?aGV ?lGV ?cGV1 ?kGV1 ?aKY ?lKY ?cKY1 ?kKY1 ?aAV ?lAV ?cAV1 ?kAV1 ?aGP ?lGP ?cGP1 ?kGP1 ?aCF ?lCF ?cCF1 ?kCF1 ?aFA ?lFA ?cFA1 ?kFA1 ?aW ?lW ?cW1 ?kW1 ?aN ?lN ?cN1 ?kN1 ?aTO ?lTO ?cTO1 ?kTO1 ?aWI ?lWI ?cWI1 ?kWI1 ?aIL ?lIL ?cIL1 ?kIL1 ?aRL ?lRL ?cRL1 ?kRL1 ?aIH ?lIH ?cIH1 ?kIH1 ?aII ?lII ?cII1 ?kII1 ?aRI ?lRI ?cRI1 ?kRI1 ?aOL ?lOL ?cOL1 ?kOL1 ?aTX ?lTX ?cTX1 ?kTX1 ?aTL ?lTL ?cTL1 ?kTL1 ?aIP ?lIP ?cIP1 ?kIP1 ?aRP ?lRP ?cRP1 ?kRP1 ?aIV ?lIV ?cIV1 ?kIV1 ?aRV ?lRV ?cRV1 ?kRV1 ?aRVs ?lRVs ?cRVs1 ?kRVs1 ?aCO ?lCO ?cCO1 ?kCO1 ?aRS ?lRS ?cRS1 ?kRS1 ?aAT ?lAT ?cAT1 ?kAT1 ?aIC ?lIC ?cIC1 ?kIC1 ?aRC ?lRC ?cRC1 ?kRC1 ?aRF ?lRF ?cRF1 ?kRF1 ?aRR ?lRR ?cRR1 ?kRR1 ?aLA ?lLA ?cLA1 ?kLA1 ?aRQ ?lRQ ?cRQ1 ?kRQ1 ?aLF1 ?lLF1 ?cLF11 ?kLF11 ?aGI ?lGI ?cGI1 ?kGI1 ?aWV ?lWV ?cWV1 ?kWV1 ?aWS ?lWS ?cWS1 ?kWS1 ?aWP ?lWP ?cWP1 ?kWP1 ?aLL ?lLL ?cLL1 ?kLL1 ?aLW ?lLW ?cLW1 ?kLW1 ?aLN ?lLN ?cLN1 ?kLN1 ?aLV ?lLV ?cLV1 ?kLV1 ?aLI ?lLI ?cLI1 ?kLI1 ?aVS ?lVS ?cVS1 ?kVS1 ?aLP ?lLP ?cLP1 ?kLP1 ?aLC ?lLC ?cLC1 ?kLC1 ?aLQ ?lLQ ?cLQ1 ?kLQ1 ?aSL ?lSL ?cSL1 ?kSL1 ?aSI ?lSI ?cSI1 ?kSI1 ?aSV ?lSV ?cSV1 ?kSV1 ?aSS ?lSS ?cSS1 ?kSS1 ?aSH ?lSH ?cSH1 ?kSH1 ?aSC ?lSC ?cSC1 ?kSC1 ?aSP ?lSP ?cSP1 ?kSP1 ?aSQ ?lSQ ?cSQ1 ?kSQ1 ?aLAW ?lLAW ?cLAW1 ?kLAW1 ?tWc ?tWv ?tWh ?tWn ?tILc ?tILv ?tILh ?tILn ?tIPc ?tIPv ?tIPh ?tIPn ?tTXc ?tTXv ?tTXh ?tTXn ?tRSc ?tRSv ?tRSh ?tRSn ?tATc ?tATv ?tATh ?tATn ?neT1T2 ?neT1T3 ?neT1T4 ?neT1T5 ?neT1T6 ?neT2T3 ?neT2T4 ?neT2T5 ?neT2T6 ?neT3T4 ?neT3T5 ?neT3T6 ?neT4T5 ?neT4T6 ?neT5T6 ?gLE0 ?gDI0 ?gMC0 ?nW ?nE ?xE ?saE ?gaE ?ggE ?nsE ?aiE ?tiE ?liE ?ciE ?kpE ?eeE ?tyE ?hdE ?sbE ?clE ?scE ?tkE ?mrE ?ktE ?gZ0 ?lZ ?hZ ?zZ ?vZ0 ?vZ1 ?vZ2 ?vZ3 ?vZ4 ?vZ5 ?vZ6 ?z_len ?z_range ?z_int ?z_abs ?z_list ?z_isinstance ?z_bool ?z_tuple ?z_sorted ?z_str ?z_all
    (case hrecT1 => decide +kernel)
    (case hrecT2 => decide +kernel)
    (case hrecT4 => decide +kernel)
    (case hrecT3 => decide +kernel)
    (case hrecT5 => decide +kernel)
    (case hrecT6 => decide +kernel)
    (case aS => k_is)
    (case lS => k_is)
    (case cS1 => k_is)
    (case kS1 => k_is)
    (case aD => k_is)
    (case lD => k_is)
    (case cD1 => k_is)
    (case kD1 => k_is)
    (case aP => k_is)
    (case lP => k_is)
    (case cP1 => k_is)
    (case kP1 => k_is)
    (case aTU => k_is)
    (case lTU => k_is)
    (case cTU1 => k_is)
    (case kTU1 => k_is)
    (case aGL => k_is)
    (case lGL => k_is)
    (case cGL1 => k_is)
    (case kGL1 => k_is)
    (case aGN => k_is)
    (case lGN => k_is)
    (case cGN1 => k_is)
    (case kGN1 => k_is)
    (case aHI => k_is)
    (case lHI => k_is)
    (case cHI1 => k_is)
    (case kHI1 => k_is)
    (case aLT => k_is)
    (case lLT => k_is)
    (case cLT1 => k_is)
    (case kLT1 => k_is)
    (case aGV => k_is)
    (case lGV => k_is)
    (case cGV1 => k_is)
    (case kGV1 => k_is)
    (case aKY => k_is)
    (case lKY => k_is)
    (case cKY1 => k_is)
    (case kKY1 => k_is)
    (case aAV => k_is)
    (case lAV => k_is)
    (case cAV1 => k_is)
    (case kAV1 => k_is)
    (case aGP => k_is)
    (case lGP => k_is)
    (case cGP1 => k_is)
    (case kGP1 => k_is)
    (case aCF => k_is)
    (case lCF => k_is)
    (case cCF1 => k_is)
    (case kCF1 => k_is)
    (case aFA => k_is)
    (case lFA => k_is)
    (case cFA1 => k_is)
    (case kFA1 => k_is)
    (case aW => k_is)
    (case lW => k_is)
    (case cW1 => k_is)
    (case kW1 => k_is)
    (case aN => k_is)
    (case lN => k_is)
    (case cN1 => k_is)
    (case kN1 => k_is)
    (case aTO => k_is)
    (case lTO => k_is)
    (case cTO1 => k_is)
    (case kTO1 => k_is)
    (case aWI => k_is)
    (case lWI => k_is)
    (case cWI1 => k_is)
    (case kWI1 => k_is)
    (case aIL => k_is)
    (case lIL => k_is)
    (case cIL1 => k_is)
    (case kIL1 => k_is)
    (case aRL => k_is)
    (case lRL => k_is)
    (case cRL1 => k_is)
    (case kRL1 => k_is)
    (case aIH => k_is)
    (case lIH => k_is)
    (case cIH1 => k_is)
    (case kIH1 => k_is)
    (case aII => k_is)
    (case lII => k_is)
    (case cII1 => k_is)
    (case kII1 => k_is)
    (case aRI => k_is)
    (case lRI => k_is)
    (case cRI1 => k_is)
    (case kRI1 => k_is)
    (case aOL => k_is)
    (case lOL => k_is)
    (case cOL1 => k_is)
    (case kOL1 => k_is)
    (case aTX => k_is)
    (case lTX => k_is)
    (case cTX1 => k_is)
    (case kTX1 => k_is)
    (case aTL => k_is)
    (case lTL => k_is)
    (case cTL1 => k_is)
    (case kTL1 => k_is)
    (case aIP => k_is)
    (case lIP => k_is)
    (case cIP1 => k_is)
    (case kIP1 => k_is)
    (case aRP => k_is)
    (case lRP => k_is)
    (case cRP1 => k_is)
    (case kRP1 => k_is)
    (case aIV => k_is)
    (case lIV => k_is)
    (case cIV1 => k_is)
    (case kIV1 => k_is)
    (case aRV => k_is)
    (case lRV => k_is)
    (case cRV1 => k_is)
    (case kRV1 => k_is)
    (case aRVs => k_is)
    (case lRVs => k_is)
    (case cRVs1 => k_is)
    (case kRVs1 => k_is)
    (case aCO => k_is)
    (case lCO => k_is)
    (case cCO1 => k_is)
    (case kCO1 => k_is)
    (case aRS => k_is)
    (case lRS => k_is)
    (case cRS1 => k_is)
    (case kRS1 => k_is)
    (case aAT => k_is)
    (case lAT => k_is)
    (case cAT1 => k_is)
    (case kAT1 => k_is)
    (case aIC => k_is)
    (case lIC => k_is)
    (case cIC1 => k_is)
    (case kIC1 => k_is)
    (case aRC => k_is)
    (case lRC => k_is)
    (case cRC1 => k_is)
    (case kRC1 => k_is)
    (case aRF => k_is)
    (case lRF => k_is)
    (case cRF1 => k_is)
    (case kRF1 => k_is)
    (case aRR => k_is)
    (case lRR => k_is)
    (case cRR1 => k_is)
    (case kRR1 => k_is)
    (case aLA => k_is)
    (case lLA => k_is)
    (case cLA1 => k_is)
    (case kLA1 => k_is)
    (case aRQ => k_is)
    (case lRQ => k_is)
    (case cRQ1 => k_is)
    (case kRQ1 => k_is)
    (case aLF1 => k_is)
    (case lLF1 => k_is)
    (case cLF11 => k_is)
    (case kLF11 => k_is)
    (case aGI => k_is)
    (case lGI => k_is)
    (case cGI1 => k_is)
    (case kGI1 => k_is)
    (case aWV => k_is)
    (case lWV => k_is)
    (case cWV1 => k_is)
    (case kWV1 => k_is)
    (case aWS => k_is)
    (case lWS => k_is)
    (case cWS1 => k_is)
    (case kWS1 => k_is)
    (case aWP => k_is)
    (case lWP => k_is)
    (case cWP1 => k_is)
    (case kWP1 => k_is)
    (case aLL => k_is)
    (case lLL => k_is)
    (case cLL1 => k_is)
    (case kLL1 => k_is)
    (case aLW => k_is)
    (case lLW => k_is)
    (case cLW1 => k_is)
    (case kLW1 => k_is)
    (case aLN => k_is)
    (case lLN => k_is)
    (case cLN1 => k_is)
    (case kLN1 => k_is)
    (case aLV => k_is)
    (case lLV => k_is)
    (case cLV1 => k_is)
    (case kLV1 => k_is)
    (case aLI => k_is)
    (case lLI => k_is)
    (case cLI1 => k_is)
    (case kLI1 => k_is)
    (case aVS => k_is)
    (case lVS => k_is)
    (case cVS1 => k_is)
    (case kVS1 => k_is)
    (case aLP => k_is)
    (case lLP => k_is)
    (case cLP1 => k_is)
    (case kLP1 => k_is)
    (case aLC => k_is)
    (case lLC => k_is)
    (case cLC1 => k_is)
    (case kLC1 => k_is)
    (case aLQ => k_is)
    (case lLQ => k_is)
    (case cLQ1 => k_is)
    (case kLQ1 => k_is)
    (case aSL => k_is)
    (case lSL => k_is)
    (case cSL1 => k_is)
    (case kSL1 => k_is)
    (case aSI => k_is)
    (case lSI => k_is)
    (case cSI1 => k_is)
    (case kSI1 => k_is)
    (case aSV => k_is)
    (case lSV => k_is)
    (case cSV1 => k_is)
    (case kSV1 => k_is)
    (case aSS => k_is)
    (case lSS => k_is)
    (case cSS1 => k_is)
    (case kSS1 => k_is)
    (case aSH => k_is)
    (case lSH => k_is)
    (case cSH1 => k_is)
    (case kSH1 => k_is)
    (case aSC => k_is)
    (case lSC => k_is)
    (case cSC1 => k_is)
    (case kSC1 => k_is)
    (case aSP => k_is)
    (case lSP => k_is)
    (case cSP1 => k_is)
    (case kSP1 => k_is)
    (case aSQ => k_is)
    (case lSQ => k_is)
    (case cSQ1 => k_is)
    (case kSQ1 => k_is)
    (case aLAW => k_is)
    (case lLAW => k_is)
    (case cLAW1 => k_is)
    (case kLAW1 => k_is)
    (case tWc => k_is)
    (case tWv => rfl)
    (case tWh => first | rfl | kernel_rfl)
    (case tWn => first | rfl | kernel_rfl)
    (case tILc => k_is)
    (case tILv => rfl)
    (case tILh => first | rfl | kernel_rfl)
    (case tILn => first | rfl | kernel_rfl)
    (case tIPc => k_is)
    (case tIPv => rfl)
    (case tIPh => first | rfl | kernel_rfl)
    (case tIPn => first | rfl | kernel_rfl)
    (case tTXc => k_is)
    (case tTXv => rfl)
    (case tTXh => first | rfl | kernel_rfl)
    (case tTXn => first | rfl | kernel_rfl)
    (case tRSc => k_is)
    (case tRSv => rfl)
    (case tRSh => first | rfl | kernel_rfl)
    (case tRSn => first | rfl | kernel_rfl)
    (case tATc => k_is)
    (case tATv => rfl)
    (case tATh => first | rfl | kernel_rfl)
    (case tATn => first | rfl | kernel_rfl)
    (case neT1T2 => first | decide | (intro z; cases z))
    (case neT1T3 => first | decide | (intro z; cases z))
    (case neT1T4 => first | decide | (intro z; cases z))
    (case neT1T5 => first | decide | (intro z; cases z))
    (case neT1T6 => first | decide | (intro z; cases z))
    (case neT2T3 => first | decide | (intro z; cases z))
    (case neT2T4 => first | decide | (intro z; cases z))
    (case neT2T5 => first | decide | (intro z; cases z))
    (case neT2T6 => first | decide | (intro z; cases z))
    (case neT3T4 => first | decide | (intro z; cases z))
    (case neT3T5 => first | decide | (intro z; cases z))
    (case neT3T6 => first | decide | (intro z; cases z))
    (case neT4T5 => first | decide | (intro z; cases z))
    (case neT4T6 => first | decide | (intro z; cases z))
    (case neT5T6 => first | decide | (intro z; cases z))
    (case gLE0 => k_is)
    (case gDI0 => k_is)
    (case gMC0 => k_is)
    (case nW => k_is)
    (case nE => k_is)
    (case xE => k_is)
    (case saE => k_is)
    (case gaE => k_is)
    (case ggE => k_is)
    (case nsE => k_is)
    (case aiE => k_is)
    (case tiE => k_is)
    (case liE => k_is)
    (case ciE => k_is)
    (case kpE => k_is)
    (case eeE => k_is)
    (case tyE => k_is)
    (case hdE => k_is)
    (case sbE => first | rfl | k_is)
    (case clE => k_is)
    (case scE => k_is)
    (case tkE => k_is)
    (case mrE => k_is)
    (case ktE => first | rfl | k_is)
    (case gZ0 => k_is)
    (case lZ => k_is)
    (case hZ => exact ⟨⟨_, _, rfl, rfl⟩, ⟨_, _, rfl, rfl⟩, ⟨_, _, rfl, rfl⟩, ⟨_, _, rfl, rfl⟩, ⟨_, _, rfl, rfl⟩, ⟨_, _, rfl, rfl⟩, ⟨_, _, rfl, rfl⟩, trivial⟩)
    (case zZ => first | rfl | decide)
    (case vZ0 => k_is)
    (case vZ1 => k_is)
    (case vZ2 => k_is)
    (case vZ3 => k_is)
    (case vZ4 => k_is)
    (case vZ5 => k_is)
    (case vZ6 => k_is)
    (case z_len => k_is)
    (case z_range => k_is)
    (case z_int => k_is)
    (case z_abs => k_is)
    (case z_list => k_is)
    (case z_isinstance => k_is)
    (case z_bool => k_is)
    (case z_tuple => k_is)
    (case z_sorted => k_is)
    (case z_str => k_is)
    (case z_all => k_is)
